import PyProof.Rows.All
import Wide.All
import OpenK.AllK
import Wide.FinOn
import PyProof.EqAt
import PyProof.EqKinds
import PyProof.TupleCall
import HandS.ForMost
import HandS.RepeatKit
import HandS.Conv
import KE.KSuperObj
import HandS.Iter
import KE.KDictWalk
import HandS.TupSets
import KE.KDictSum
import HandS.SortInts
import HandS.Sort
import KE.KDictCopyH
import HandS.TupMul
import HandS.Wide
import HandS.Gcd
import HandS.Walk
import KE.GoesEnum
import KE.GoesMore
import HandS.ExcIs
import HandS.IsInst
import HandS.WordsExc
import HandS.ExcOwn
import HandS.RaiseMore
import HandS.FStr
import HandS.Codes
import HandS.AnyAll
import HandS.Zip
import KE.KEqSeq
import HandS.SetFor
import HandS.Strs
import HandS.Rev
import HandS.TupAny
import HandS.SetBool
import KE.KDictDisplayH
import PyProof.GenCompD
import HandS.Deep
import KE.KEqDeep
import HandS.Style
import HandS.EndTab
import PySem.Challenge.RW_longago_k21_asked_again
set_option Elab.async false
set_option linter.all false
set_option maxRecDepth 100000
set_option maxHeartbeats 4000000
namespace Lg
open PySem PySem.Spec PyProof.Rows L2
def topS (i : Nat) : Stmt := PySem.Challenge.pw_longago_k21_asked_again.main.body.getD i (.Pass ⟨0, 0, 0, 0⟩)
abbrev cLongError : Stmt := topS 3
abbrev cBadChain : Stmt := topS 4
abbrev cNoSuch : Stmt := topS 5
abbrev cNotOne : Stmt := topS 6
abbrev sStepsOf : Stmt := topS 8
abbrev sTogether : Stmt := topS 9
abbrev sEnds : Stmt := topS 10
abbrev sDrawn : Stmt := topS 11
abbrev sDrawnFrom : Stmt := topS 12
abbrev sAreOne : Stmt := topS 13
abbrev sTries : Stmt := topS 14
abbrev sFraction : Stmt := topS 16
abbrev sSolved : Stmt := topS 17
abbrev sBringUp : Stmt := topS 18
abbrev sWithout : Stmt := topS 19
abbrev sEverywhere : Stmt := topS 21
abbrev sGroupsFrom : Stmt := topS 22
abbrev sLedTo : Stmt := topS 23
abbrev cChain : Stmt := topS 28
abbrev sIsMove : Stmt := topS 29
abbrev sChances : Stmt := topS 30
abbrev sWeights : Stmt := topS 31
abbrev sClosed : Stmt := topS 32
abbrev sReached : Stmt := topS 33
abbrev sIsClosed : Stmt := topS 34
abbrev sOwn : Stmt := topS 35
abbrev sBalance : Stmt := topS 36
abbrev sMeeting : Stmt := topS 38
abbrev sFirstApart : Stmt := topS 39
abbrev sRowToOne : Stmt := topS 40
abbrev sKeepsOrder : Stmt := topS 42
abbrev sFirstOrder : Stmt := topS 43
abbrev sFirstBreaking : Stmt := topS 44
abbrev sKeeps : Stmt := topS 45
abbrev sShares : Stmt := topS 48
abbrev sBehindAStep : Stmt := topS 49
abbrev sCell : Stmt := topS 51
abbrev sDice : Stmt := topS 52
abbrev sOff : Stmt := topS 53
abbrev sChain : Stmt := topS 54
abbrev sMade : Stmt := topS 55
abbrev sNumbers : Stmt := topS 56
abbrev sLawTold : Stmt := topS 57
abbrev sLawSpoil : Stmt := topS 58
abbrev sLaw : Stmt := topS 59
/-! ### itertools.combinations(range, 2), walked -/
section
open PySem PySem.Spec PySem.Builtin PySem.Builtin.Itertools
namespace Cm
theorem mro_cm : mroOf (.type "itertools.combinations") = pure [.type "itertools.combinations", .type "object"] := by rw [mroOf_type]; kernel_rfl
theorem lookup_cm_new : typeLookup (.type "itertools.combinations") "__new__" = pure (some (.builtin "itertools.combinations.__new__")) := by rw [typeLookup_type, builtinLookup_eq_fast]; kernel_rfl
theorem slot_cm_init : Slot "itertools.combinations" "__init__" "object.__init__" :=
  .of (owner := "object") (n := "__init__") (by rw [typeLookup_type, builtinLookup_eq_fast]; kernel_rfl) (by decide +kernel) (by decide +kernel) (by decide +kernel)
    (by first | exact .inl (by decide +kernel) | exact .inr (by decide +kernel)) (by rw [isSubtype_type]; kernel_rfl)
theorem sub_cm : isSubtype (.type "itertools.combinations") (.type "itertools.combinations") = pure true := by rw [isSubtype_type]; kernel_rfl
theorem called_cm : TypeCalled "itertools.combinations" "itertools.combinations.__new__" "object.__init__" :=
  ⟨by decide +kernel, by decide +kernel, ⟨_, _, mro_cm⟩, madeBy_type mro_cm lookup_cm_new (by decide +kernel), by decide +kernel, sub_cm, slot_cm_init⟩
theorem typeCall_cm (a b : Value) : checkTypeCall "itertools.combinations" ⟨[a, b], []⟩ = pure () := by kernel_rfl
theorem newCall_cm (a b : Value) : checkBuiltinCall "itertools.combinations.__new__" ⟨[.type "itertools.combinations", a, b], []⟩ = pure () := by kernel_rfl
theorem entry_cm_new : entryFor table "itertools.combinations.__new__" = some Builtin.«itertools.combinations.__new__» := entryFor_of_tree (by kernel_rfl)
theorem plain_cm_new : plainId "itertools.combinations.__new__" = true := by decide +kernel
theorem slot_cm_iter : Slot "itertools.combinations" "__iter__" "itertools.combinations.__iter__" :=
  .of (owner := "itertools.combinations") (n := "__iter__") (by rw [typeLookup_type, builtinLookup_eq_fast]; kernel_rfl) (by decide +kernel) (by decide +kernel) (by decide +kernel)
    (by first | exact .inl (by decide +kernel) | exact .inr (by decide +kernel)) sub_cm
theorem slot_cm_next : Slot "itertools.combinations" "__next__" "itertools.combinations.__next__" :=
  .of (owner := "itertools.combinations") (n := "__next__") (by rw [typeLookup_type, builtinLookup_eq_fast]; kernel_rfl) (by decide +kernel) (by decide +kernel) (by decide +kernel)
    (by first | exact .inl (by decide +kernel) | exact .inr (by decide +kernel)) sub_cm
theorem entry_cm_iter : entryFor table "itertools.combinations.__iter__" = some Builtin.«dict_keyiterator.__iter__» :=
  entryFor_alias (id' := "dict_keyiterator.__iter__") (by kernel_rfl) (by first | rfl | decide +kernel | (unfold String.splitOn; simp +decide [String.splitOnAux])) (by decide +kernel) (by kernel_rfl)
theorem entry_cm_next : entryFor table "itertools.combinations.__next__" = some Builtin.«itertools.combinations.__next__» := entryFor_of_tree (by kernel_rfl)
theorem noDict_cm : typeHasDict (.type "itertools.combinations") = false := by decide +kernel
theorem noClose_cm : typeLookup (.type "itertools.combinations") "close" = pure none := by rw [typeLookup_type, builtinLookup_eq_fast]; kernel_rfl
theorem owner_cm : Manifest.owners.lookup (String.ofList ['s', 'n', 'o', 'i', 't', 'a', 'n', 'i', 'b', 'm', 'o', 'c', '.', 's', 'l', 'o', 'o', 't', 'r', 'e', 't', 'i'].reverse) = some Manifest.sig_itertools_combinations := by kernel_rfl
theorem args_cm_iter (a : Value) : argsOk "itertools.combinations.__iter__" ⟨[a], []⟩ := by
  unfold argsOk; rw [signature?_of (id := "itertools.combinations.__iter__") (n := ['_', '_', 'r', 'e', 't', 'i', '_', '_']) (o := ['s', 'n', 'o', 'i', 't', 'a', 'n', 'i', 'b', 'm', 'o', 'c', '.', 's', 'l', 'o', 'o', 't', 'r', 'e', 't', 'i']) (by kernel_rfl) owner_cm]; kernel_rfl
theorem args_cm_next (a : Value) : argsOk "itertools.combinations.__next__" ⟨[a], []⟩ := by
  unfold argsOk; rw [signature?_of (id := "itertools.combinations.__next__") (n := ['_', '_', 't', 'x', 'e', 'n', '_', '_']) (o := ['s', 'n', 'o', 'i', 't', 'a', 'n', 'i', 'b', 'm', 'o', 'c', '.', 's', 'l', 'o', 'o', 't', 'r', 'e', 't', 'i']) (by kernel_rfl) owner_cm]; kernel_rfl
abbrev poolO (acc : Array Value) : Obj := { cls := .type "tuple", dict := none, data := .seq acc, slots := #[] }
abbrev cmO (pt : Addr) (st : Int) (old : Value) (ns : List Nat) : Obj := { cls := .type "itertools.combinations", dict := none, data := .fields ([.ref pt, rawInt st, old] ++ ns.map fun (i : Nat) => rawInt i).toArray, slots := #[] }
/-- a combinations object: its pool, how far it is, what it told last, its numbers -/
abbrev IsCm (h : Heap) (it pt : Addr) (st : Int) (old : Value) (ns : List Nat) : Prop := h.get? it = some (cmO pt st old ns)
section
variable {prog : Program} {w : World} {A : Around} {E : Value → Shared → Prop} {s : Shared} {r : Addr} {t u v t2 : Tok} {n : Nat}
theorem code_cm_new {Q₁ : Value → Shared → Prop} (hh : A.handled = none) (hr : IsRange s.heap r 0 (n : Int) 1 t u v) (hsmall : Builtin.Range.small 0 (n : Int) 1 = true) (hn : Builtin.Range.rangeSize 0 (n : Int) 1 = n) (hlen : n ≤ 100)
    (h : ∀ (hm : Heap) (tk : Nat) (acc : Array Value), (∀ b o, s.heap.get? b = some o → hm.get? b = some o) → ItemsOf (fun i v => ∃ t, v = .int (0 + i * 1) t) acc n → Q₁ (.ref (hm.objs.size + 1)) { s with heap := (hm.push (poolO acc)).push (cmO hm.objs.size (if 2 > n then 2 else 0) .none [0, 1]), toks := tk }) :
    codeAny (model prog w) A (.call (.builtin "itertools.combinations.__new__") ⟨[.type "itertools.combinations", .ref r, .int 2 t2], []⟩) (wants Q₁ E) s := by
  refine codeAny_of_tree ?_
  show wpAny _ A.in1 (do checkBuiltinCall "itertools.combinations.__new__" ⟨[.type "itertools.combinations", .ref r, .int 2 t2], []⟩; again (.builtin "itertools.combinations.__new__" ⟨[.type "itertools.combinations", .ref r, .int 2 t2], []⟩)) _ _ s
  refine wpAny_bind (wpAny_of_eq (newCall_cm _ _) (wpAny_pure ⟨plainId_quiet plain_cm_new _, codeAny_builtin entry_cm_new ?_⟩))
  rw [Around.under_plainId plain_cm_new _]
  have hsub : isSubtype (.type "itertools.combinations") (.type ("itertools." ++ "combinations")) = pure true := sub_cm
  have hd := noDict_cm
  have hTI : s.TypeIs (.ref r) "range" := ⟨_, hr, rfl⟩
  have hh1 : A.in1.handled = none := hh
  have hlen2 : n ≤ 2 ^ 24 := Nat.le_trans hlen (by decide)
  wp_walk using wpAny_typeOf hTI, L2.collect_range (A := A.in1) hh1 hr hsmall hn hlen2
  intro h' tk acc hk hacc
  have hl : acc.toList.length = n := by rw [Array.length_toList]; exact hacc.1
  refine wpAny_ite_false (by decide) ?_
  refine wpAny_ite_false (by decide) ?_
  unfold newTuple
  refine wpAny_bind (wpAny_newObj_type ?_ ?_)
  · refine wpAny_pure ?_
    show wpAny _ _ (itNewRecord _ _ >>= _) _ _ _
    unfold itNewRecord
    rw [hd]
    refine wpAny_bind ?_
    refine wpAny_ite_true rfl ?_
    refine wpAny_newObj_type (wpAny_pure ?_) ?_
    · have e1 : (h'.push (poolO acc)).objs.size = h'.objs.size + 1 := by simp [Heap.push]
      have q := h h' tk acc hk hacc
      rw [← e1] at q
      rw [hl]
      exact q
    · show _ ≤ sizeLine + 2
      simp only [List.size_toArray, List.length_append, List.length_map, List.length_range, List.length_cons, List.length_nil]
      rw [sizeLine_eq]
      decide
  · show _ ≤ sizeLine
    rw [List.size_toArray, hl, sizeLine_eq]
    omega
end
/-! the numbers behind -/
def nxtC (n : Nat) (indices : List Nat) : Option (List Nat) :=
  let r := indices.length
  match (List.range r).reverse.find? fun i => indices.getD i 0 != i + n - r with
  | none => none
  | some i => some (indices.take i ++ (List.range (r - i)).map (indices.getD i 0 + 1 + ·))
section
variable {prog : Program} {w : World} {A : Around} {E : Value → Shared → Prop} {s : Shared} {it pt : Addr} {n : Nat} {old : Value} {ns : List Nat} {acc : Array Value}
/-- what is told: a new tuple -/
abbrev toldO (acc : Array Value) (ix : List Nat) : Obj := { cls := .type "tuple", dict := none, data := .seq (ix.map fun i => acc.getD i .none).toArray, slots := #[] }
theorem nums_back (ns : List Nat) (a b c : Value) : ((([a, b, c] ++ ns.map fun (i : Nat) => rawInt i).toArray.toList.drop 3).map fun | .int n _ => n.toNat | _ => 0) = ns := by
  show ((ns.map fun (i : Nat) => rawInt i).map _) = ns
  rw [List.map_map]
  refine (List.map_congr_left fun i _ => ?_).trans (List.map_id ns)
  show (rawInt (i : Int) |> fun | .int n _ => n.toNat | _ => 0) = i
  exact Int.toNat_natCast i
theorem set_num (pt st old : Value) (ns : List Nat) (v : Value) : ([pt, st, old] ++ ns.map fun (i : Nat) => rawInt i).toArray.setIfInBounds 1 v = ([pt, v, old] ++ ns.map fun (i : Nat) => rawInt i).toArray := by
  simp
theorem set_old (pt st old : Value) (ns : List Nat) (v : Value) : ([pt, st, old] ++ ns.map fun (i : Nat) => rawInt i).toArray.setIfInBounds 2 v = ([pt, st, v] ++ ns.map fun (i : Nat) => rawInt i).toArray := by
  simp
theorem set_nums (pt st old : Value) (ns ms : List Nat) : ([pt, st, old] ++ ns.map fun (i : Nat) => rawInt i).toArray.extract 0 3 ++ (ms.map fun (i : Nat) => rawInt i).toArray = ([pt, st, old] ++ ms.map fun (i : Nat) => rawInt i).toArray := by
  simp
/-- what is handed out -/
theorem cm_result {st : Int} {ix : List Nat} {Q : PySem.Fin → Shared → Prop} (hit : IsCm s.heap it pt st old ns) (hp : s.heap.get? pt = some (poolO acc)) (hl : ix.length ≤ 1000)
    (hQ : ∀ h', IsCm h' it pt st (.ref s.heap.objs.size) ns → h'.get? s.heap.objs.size = some (toldO acc ix) → (∀ b o, b ≠ it → s.heap.get? b = some o → h'.get? b = some o) → Q (.done (.ret (.ref s.heap.objs.size))) { s with heap := h' }) :
    wpAny (model prog w) A (do
      let result ← (do
        let items ← itPoolItems (.ref pt)
        newTuple (ix.map fun i => items.getD i .none))
      let before ← field (.ref it) 2
      setField (.ref it) 2 result
      letGo [before] [result]
      ret result) Q E s := by
  unfold newTuple itPoolItems
  refine wpAny_bind (wpAny_bind (wpAny_bind (wpAny_seqItems hp rfl (wpAny_pure ?_))))
  refine wpAny_newObj_type ?_ (by show _ ≤ sizeLine; rw [List.size_toArray, List.length_map, sizeLine_eq]; omega)
  have hit2 : IsCm (s.heap.push (toldO acc ix)) it pt st old ns := Heap.get?_push_of_some _ hit
  refine wpAny_bind (wpAny_field hit2 rfl (x := old) rfl ?_)
  refine wpAny_bind (wpAny_setField hit2 rfl (by simp) ?_)
  have hit3 : IsCm ((s.heap.push (toldO acc ix)).update it (Obj.mapFields (·.setIfInBounds 2 (.ref s.heap.objs.size)))) it pt st (.ref s.heap.objs.size) ns := by
    unfold IsCm
    rw [Heap.get?_update_self _ hit2 rfl]
    show some (Obj.mapFields _ (cmO pt st old ns)) = _
    unfold Obj.mapFields
    show some _ = _
    simp only [set_old]
  have ne : s.heap.objs.size ≠ it := Nat.ne_of_gt (Heap.lt_size hit)
  refine wpAny_bind ?_
  unfold letGo
  refine wpAny_bind (wpAny_holding (wpAny_point ?_))
  unfold letGo
  refine wpAny_pure (wpAny_pure ?_)
  refine hQ _ hit3 ?_ fun b o hb e => ?_
  · rw [Heap.get?_update_ne _ _ _ _ ne]
    exact Heap.get?_push_size _ rfl
  · rw [Heap.get?_update_ne _ _ _ _ hb]
    exact Heap.get?_push_of_some _ e
theorem cm_first {Q : Option Value → Shared → Prop} (hit : IsCm s.heap it pt 0 old ns) (hp : s.heap.get? pt = some (poolO acc)) (hpt : pt ≠ it) (hl : ns.length ≤ 1000)
    (hQ : ∀ h', IsCm h' it pt 1 (.ref s.heap.objs.size) ns → h'.get? s.heap.objs.size = some (toldO acc ns) → (∀ b o, b ≠ it → s.heap.get? b = some o → h'.get? b = some o) → Q (some (.ref s.heap.objs.size)) { s with heap := h' }) :
    wpAny (model prog w) A (pyNext (.ref it)) Q E s := by
  have hT : s.TypeIs (.ref it) "itertools.combinations" := ⟨_, hit, rfl⟩
  unfold pyNext
  refine wpAny_bind (wpAny_attempt (wpAny_callSpecial?_slot (name := Str.ofString "__next__") hT slot_cm_next (wpAny_call_entry slot_cm_next hT entry_cm_next ?_ (args_cm_next _))))
  show wpAny _ _ (field (.ref it) 0 >>= _) _ _ s
  refine wpAny_bind (wpAny_field hit rfl (x := .ref pt) rfl ?_)
  show wpAny _ _ (itNumbersFrom (.ref it) 3 >>= _) _ _ s
  refine wpAny_bind ?_
  unfold itNumbersFrom
  refine wpAny_bind (wpAny_load hit (wpAny_pure ?_))
  have nb := nums_back ns (.ref pt) (rawInt 0) old
  generalize hz : (List.map _ (List.drop 3 _) : List Nat) = numbers
  have ez : numbers = ns := hz.symm.trans nb
  rw [ez]
  clear hz nb ez
  unfold itIntField
  refine wpAny_bind (wpAny_bind (wpAny_field hit rfl (x := rawInt 0) rfl (wpAny_pure ?_)))
  refine wpAny_bind (wpAny_setField hit rfl (by simp) ?_)
  have hit2 : IsCm (s.heap.update it (Obj.mapFields (·.setIfInBounds 1 (rawInt 1)))) it pt 1 old ns := by
    unfold IsCm
    rw [Heap.get?_update_self _ hit rfl]
    show some (Obj.mapFields _ (cmO pt 0 old ns)) = _
    unfold Obj.mapFields
    show some _ = _
    simp only [set_num]
  have sz : (s.heap.update it (Obj.mapFields (·.setIfInBounds 1 (rawInt 1)))).objs.size = s.heap.objs.size := Heap.size_update ..
  have hp2 : (s.heap.update it (Obj.mapFields (·.setIfInBounds 1 (rawInt 1)))).get? pt = some (poolO acc) := by rw [Heap.get?_update_ne _ _ _ _ hpt]; exact hp
  refine cm_result (acc := acc) (ix := ns) hit2 hp2 (by omega) fun h' h1 h2 h3 => ?_
  rw [sz] at h1 h2
  refine ⟨_, rfl, wpAny_pure ?_⟩
  rw [sz]
  exact hQ h' h1 h2 fun b o hb e => h3 b o hb (by rw [Heap.get?_update_ne _ _ _ _ hb]; exact e)
theorem cm_more {Q : Option Value → Shared → Prop} {ix : List Nat} (hit : IsCm s.heap it pt 1 old ns) (hp : s.heap.get? pt = some (poolO acc)) (hn : acc.size = n) (hpt : pt ≠ it) (hz : nxtC n ns = some ix) (hl : ix.length ≤ 1000)
    (hQ : ∀ h', IsCm h' it pt 1 (.ref s.heap.objs.size) ix → h'.get? s.heap.objs.size = some (toldO acc ix) → (∀ b o, b ≠ it → s.heap.get? b = some o → h'.get? b = some o) → Q (some (.ref s.heap.objs.size)) { s with heap := h' }) :
    wpAny (model prog w) A (pyNext (.ref it)) Q E s := by
  have hT : s.TypeIs (.ref it) "itertools.combinations" := ⟨_, hit, rfl⟩
  unfold pyNext
  refine wpAny_bind (wpAny_attempt (wpAny_callSpecial?_slot (name := Str.ofString "__next__") hT slot_cm_next (wpAny_call_entry slot_cm_next hT entry_cm_next ?_ (args_cm_next _))))
  show wpAny _ _ (field (.ref it) 0 >>= _) _ _ s
  refine wpAny_bind (wpAny_field hit rfl (x := .ref pt) rfl ?_)
  show wpAny _ _ (itNumbersFrom (.ref it) 3 >>= _) _ _ s
  refine wpAny_bind ?_
  unfold itNumbersFrom
  refine wpAny_bind (wpAny_load hit (wpAny_pure ?_))
  have nb := nums_back ns (.ref pt) (rawInt 1) old
  generalize hz' : (List.map _ (List.drop 3 _) : List Nat) = numbers
  have ez : numbers = ns := hz'.symm.trans nb
  rw [ez]
  clear hz' nb ez
  unfold itIntField
  refine wpAny_bind (wpAny_bind (wpAny_field hit rfl (x := rawInt 1) rfl (wpAny_pure ?_)))
  show wpAny _ _ (itPoolItems (.ref pt) >>= _) _ _ s
  unfold itPoolItems
  refine wpAny_bind (wpAny_bind (wpAny_seqItems hp rfl (wpAny_pure ?_)))
  show wpAny _ _ (match (_ : Option (List Nat)) with | some i => _ | none => _) _ _ _
  subst hn
  split
  · rename_i i heq
    have e : nxtC acc.size ns = some i := Eq.trans (by kernel_rfl) heq
    rw [hz] at e
    cases e
    refine wpAny_bind ?_
    unfold itSetNumbersFrom
    refine wpAny_updateFields hit rfl ?_ ?_
    · have hit2 : IsCm (s.heap.update it (Obj.mapFields fun fs => fs.extract 0 3 ++ (ix.map fun (n : Nat) => rawInt n).toArray)) it pt 1 old ix := by
        unfold IsCm
        rw [Heap.get?_update_self _ hit rfl]
        show some (Obj.mapFields _ (cmO pt 1 old ns)) = _
        unfold Obj.mapFields
        show some _ = _
        simp only [set_nums]
      have sz : (s.heap.update it (Obj.mapFields fun fs => fs.extract 0 3 ++ (ix.map fun (n : Nat) => rawInt n).toArray)).objs.size = s.heap.objs.size := Heap.size_update ..
      have hp2 : (s.heap.update it (Obj.mapFields fun fs => fs.extract 0 3 ++ (ix.map fun (n : Nat) => rawInt n).toArray)).get? pt = some (poolO acc) := by rw [Heap.get?_update_ne _ _ _ _ hpt]; exact hp
      refine cm_result (acc := acc) (ix := ix) hit2 hp2 hl fun h' h1 h2 h3 => ?_
      rw [sz] at h1 h2
      refine ⟨_, rfl, wpAny_pure ?_⟩
      rw [sz]
      exact hQ h' h1 h2 fun b o hb e => h3 b o hb (by rw [Heap.get?_update_ne _ _ _ _ hb]; exact e)
    · show (_ ++ _ : Array Value).size ≤ _
      rw [set_nums, List.size_toArray, List.length_append, List.length_map, sizeLine_eq]
      show 3 + _ ≤ _
      omega
  · rename_i heq
    have e : nxtC acc.size ns = none := Eq.trans (by kernel_rfl) heq
    rw [hz] at e
    cases e
theorem cm_end {Q : Option Value → Shared → Prop} (hh : A.handled = none) (hit : IsCm s.heap it pt 1 old ns) (hp : s.heap.get? pt = some (poolO acc)) (hn : acc.size = n) (hz : nxtC n ns = none)
    (hQ : ∀ h', (∀ b o, b ≠ it → s.heap.get? b = some o → h'.get? b = some o) → Q none { s with heap := h' }) :
    wpAny (model prog w) A (pyNext (.ref it)) Q E s := by
  have hT : s.TypeIs (.ref it) "itertools.combinations" := ⟨_, hit, rfl⟩
  unfold pyNext
  refine wpAny_bind (wpAny_attempt (wpAny_callSpecial?_slot (name := Str.ofString "__next__") hT slot_cm_next (wpAny_call_entry slot_cm_next hT entry_cm_next ?_ (args_cm_next _))))
  show wpAny _ _ (field (.ref it) 0 >>= _) _ _ s
  refine wpAny_bind (wpAny_field hit rfl (x := .ref pt) rfl ?_)
  show wpAny _ _ (itNumbersFrom (.ref it) 3 >>= _) _ _ s
  refine wpAny_bind ?_
  unfold itNumbersFrom
  refine wpAny_bind (wpAny_load hit (wpAny_pure ?_))
  have nb := nums_back ns (.ref pt) (rawInt 1) old
  generalize hz' : (List.map _ (List.drop 3 _) : List Nat) = numbers
  have ez : numbers = ns := hz'.symm.trans nb
  rw [ez]
  clear hz' nb ez
  unfold itIntField
  refine wpAny_bind (wpAny_bind (wpAny_field hit rfl (x := rawInt 1) rfl (wpAny_pure ?_)))
  show wpAny _ _ (itPoolItems (.ref pt) >>= _) _ _ s
  unfold itPoolItems
  refine wpAny_bind (wpAny_bind (wpAny_seqItems hp rfl (wpAny_pure ?_)))
  show wpAny _ _ (match (_ : Option (List Nat)) with | some i => _ | none => _) _ _ _
  subst hn
  split
  · rename_i i heq
    have e : nxtC acc.size ns = some i := Eq.trans (by kernel_rfl) heq
    rw [hz] at e
    cases e
  · refine wpAny_bind (wpAny_setField hit rfl (by simp) ?_)
    unfold itStop
    simp only [newExc, newTuple]
    refine wpAny_bind ?_
    refine wpAny_bind (wpAny_newObj_type ?_ (by size_fits))
    refine wpAny_bind (m := firstArgMember _ _) (wpAny_of_eq (a := Value.none) (by first | rfl | (simp only [firstArgMember]; rfl)) ?_)
    refine wpAny_newObj_type ?_ (by size_fits)
    simp only [raiseNew]
    refine wpAny_bind (wpAny_handled ?_)
    first | rw [show A.in1.handled = none from hh] | rw [hh]
    refine wpAny_bind (wpAny_pure (wpAny_throw ?_))
    refine wpAny_bind (wpAny_isInstance (T := "StopIteration") (b := true) ⟨_, Heap.get?_push_size _ rfl, rfl⟩ isSubtype_stop ?_)
    refine wpAny_pure (hQ _ fun b o hb e => ?_)
    exact Heap.get?_push_of_some _ (Heap.get?_push_of_some _ (by rw [Heap.get?_update_ne _ _ _ _ hb]; exact e))
theorem cm_over {Q : Option Value → Shared → Prop} (hh : A.handled = none) (hit : IsCm s.heap it pt 2 old ns)
    (hQ : ∀ h', (∀ b o, b ≠ it → s.heap.get? b = some o → h'.get? b = some o) → Q none { s with heap := h' }) :
    wpAny (model prog w) A (pyNext (.ref it)) Q E s := by
  have hT : s.TypeIs (.ref it) "itertools.combinations" := ⟨_, hit, rfl⟩
  unfold pyNext
  refine wpAny_bind (wpAny_attempt (wpAny_callSpecial?_slot (name := Str.ofString "__next__") hT slot_cm_next (wpAny_call_entry slot_cm_next hT entry_cm_next ?_ (args_cm_next _))))
  show wpAny _ _ (field (.ref it) 0 >>= _) _ _ s
  refine wpAny_bind (wpAny_field hit rfl (x := .ref pt) rfl ?_)
  show wpAny _ _ (itNumbersFrom (.ref it) 3 >>= _) _ _ s
  refine wpAny_bind ?_
  unfold itNumbersFrom
  refine wpAny_bind (wpAny_load hit (wpAny_pure ?_))
  unfold itIntField
  refine wpAny_bind (wpAny_bind (wpAny_field hit rfl (x := rawInt 2) rfl (wpAny_pure ?_)))
  refine wpAny_bind (wpAny_rule ?_)
  unfold itStop
  simp only [newExc, newTuple]
  refine wpAny_bind ?_
  refine wpAny_bind (wpAny_newObj_type ?_ (by size_fits))
  refine wpAny_bind (m := firstArgMember _ _) (wpAny_of_eq (a := Value.none) (by first | rfl | (simp only [firstArgMember]; rfl)) ?_)
  refine wpAny_newObj_type ?_ (by size_fits)
  simp only [raiseNew]
  refine wpAny_bind (wpAny_handled ?_)
  first | rw [show A.in1.handled = none from hh] | rw [hh]
  refine wpAny_bind (wpAny_pure (wpAny_throw ?_))
  refine wpAny_bind (wpAny_isInstance (T := "StopIteration") (b := true) ⟨_, Heap.get?_push_size _ rfl, rfl⟩ isSubtype_stop ?_)
  refine wpAny_pure (hQ _ fun b o hb e => ?_)
  exact Heap.get?_push_of_some _ (Heap.get?_push_of_some _ e)
end
end Cm
end
section
open PySem PySem.Spec PySem.Builtin PySem.Builtin.Itertools
namespace Cm
section
variable {prog : Program} {w : World} {A : Around} {E : Value → Shared → Prop} {s : Shared} {it pt r : Addr} {n : Nat} {old : Value} {ns : List Nat} {acc : Array Value} {t u v t2 : Tok}
theorem iter_cm {st : Int} {Q : Value → Shared → Prop} (hit : IsCm s.heap it pt st old ns) (h : Q (.ref it) s) : wpAny (model prog w) A (pyIter (.ref it)) Q E s := by
  have hT : s.TypeIs (.ref it) "itertools.combinations" := ⟨_, hit, rfl⟩
  refine wpAny_pyIter_slot hT slot_cm_iter (wpAny_call_entry slot_cm_iter hT entry_cm_iter ?_ (args_cm_iter _))
  show wpAny _ _ (ret (.ref it)) _ _ s
  exact wpAny_pure ⟨_, rfl, "itertools.combinations", _, hT, slot_cm_next.lookup, h⟩
theorem call_cm {Q : Value → Shared → Prop} (hh : A.handled = none) (hr : IsRange s.heap r 0 (n : Int) 1 t u v) (hsmall : Builtin.Range.small 0 (n : Int) 1 = true) (hn : Builtin.Range.rangeSize 0 (n : Int) 1 = n) (hlen : n ≤ 100)
    (h : ∀ (hm : Heap) (tk : Nat) (acc : Array Value), (∀ b o, s.heap.get? b = some o → hm.get? b = some o) → ItemsOf (fun i v => ∃ t, v = .int (0 + i * 1) t) acc n → Q (.ref (hm.objs.size + 1)) { s with heap := (hm.push (poolO acc)).push (cmO hm.objs.size (if 2 > n then 2 else 0) .none [0, 1]), toks := tk }) :
    wpAny (model prog w) A (call (.type "itertools.combinations") [.ref r, .int 2 t2]) Q E s := by
  have hh1 : A.in1.handled = none := hh
  refine PySem.ks_callType_codesW (Q₁ := fun obj s1 => s1.TypeIs obj "itertools.combinations" ∧ Q obj s1) called_cm (fun {Q'} {E'} hq => wpAny_of_eq (typeCall_cm _ _) hq) F.entry_object_init (code_cm_new hh1 hr hsmall hn hlen fun hm tk acc hk hi => ?_) fun obj s1 h1 => ?_
  · refine ⟨⟨cmO hm.objs.size (if 2 > n then 2 else 0) .none [0, 1], ?_, rfl⟩, h hm tk acc hk hi⟩
    have e1 : (hm.push (poolO acc)).objs.size = hm.objs.size + 1 := by simp [Heap.push]
    rw [← e1]
    exact Heap.get?_push_size _ rfl
  · exact ⟨h1.1, PySem.F.args_object_init_3 obj _ _, object_init_meets called_cm.init.lookup called_cm.made (by decide +kernel) _ _ _ _ _ ⟨h1.1, rfl, h1.2⟩⟩
end
/-! the numbers at each turn -/
def runC (n : Nat) : Nat → List Nat → List (List Nat)
  | 0, ns => [ns]
  | k + 1, ns => ns :: match nxtC n ns with
    | none => []
    | some i => runC n k i
def combsN (n : Nat) : List (List Nat) := if 2 > n then [] else runC n 15 [0, 1]
theorem runC_zero (n : Nat) : ∀ k ns, (runC n k ns)[0]? = some ns
  | 0, _ => rfl
  | _ + 1, _ => rfl
theorem runC_next (n : Nat) : ∀ (k i : Nat) (ns ms : List Nat), (runC n k ns)[i]? = some ms → i < k →
    (match nxtC n ms with | none => (runC n k ns)[i + 1]? = none | some a => (runC n k ns)[i + 1]? = some a)
  | 0, i, ns, ms, _, h => absurd h (Nat.not_lt_zero _)
  | k + 1, 0, ns, ms, e, _ => by
    have e1 : ns = ms := Option.some.inj e
    subst e1
    unfold runC
    cases hn : nxtC n ns with
    | none => rfl
    | some a =>
      show (runC n k a)[0]? = _
      exact runC_zero n k _
  | k + 1, i + 1, ns, ms, e, h => by
    unfold runC at e ⊢
    cases hn : nxtC n ns with
    | none =>
      rw [hn] at e
      simp at e
    | some a =>
      rw [hn] at e
      have e' : (runC n k a)[i]? = some ms := e
      exact runC_next n k i a ms e' (by omega)
def combOk (n : Nat) : Bool := decide ((combsN n).length ≤ 15) && (combsN n).all fun ns => decide (ns.length = 2) && ns.all fun i => decide (i < n)
theorem combOk_small : ∀ n, n ≤ 6 → combOk n = true := by
  intro n hn
  match n, hn with
  | 0, _ => decide +kernel
  | 1, _ => decide +kernel
  | 2, _ => decide +kernel
  | 3, _ => decide +kernel
  | 4, _ => decide +kernel
  | 5, _ => decide +kernel
  | 6, _ => decide +kernel
end Cm
end
section
open Cm
theorem combOk_len {n : Nat} (h : combOk n = true) : (combsN n).length ≤ 15 := by
  unfold combOk at h
  rw [Bool.and_eq_true, decide_eq_true_iff] at h
  exact h.1
theorem combOk_at {n : Nat} (h : combOk n = true) {ns : List Nat} (hn : ns ∈ combsN n) : ns.length = 2 ∧ ∀ i ∈ ns, i < n := by
  unfold combOk at h
  rw [Bool.and_eq_true] at h
  have h2 := List.all_eq_true.mp h.2 ns hn
  rw [Bool.and_eq_true, decide_eq_true_iff] at h2
  exact ⟨h2.1, fun i hi => of_decide_eq_true (List.all_eq_true.mp h2.2 i hi)⟩
/-- the pairs of 0 .. n - 1, each in a new tuple -/
def ItC (n : Nat) : It :=
  ⟨fun i _ => i < (combsN n).length, fun i H v H' => ∃ T ns, v = .ref T ∧ H T = none ∧ H' = upd H T (.tup (ns.map fun (j : Nat) => V.int j)) ∧ (combsN n)[i]? = some ns, fun i _ => (combsN n).length ≤ i⟩
def CmAt (n : Nat) (it pt : Addr) (i : Nat) (h : Heap) : Prop := ∃ (st : Int) (old : Value) (ns : List Nat) (acc : Array Value), IsCm h it pt st old ns ∧ h.get? pt = some (poolO acc) ∧ ItemsOf (fun i v => ∃ t, v = .int (0 + i * 1) t) acc n ∧ it ≠ pt ∧
  ((st = 2 ∧ (combsN n).length = 0) ∨ (i = 0 ∧ st = 0 ∧ (combsN n)[0]? = some ns) ∨ ∃ j, i = j + 1 ∧ st = 1 ∧ (combsN n)[j]? = some ns)
theorem told_relC {n : Nat} {acc : Array Value} (hi : ItemsOf (fun i v => ∃ t, v = .int (0 + i * 1) t) acc n) : ∀ {ix : List Nat}, (∀ i ∈ ix, i < n) → Vals (ix.map fun (j : Nat) => V.int j) (ix.map fun i => acc.getD i .none)
  | [], _ => .nil
  | i :: ix, h => by
    refine .cons ?_ (told_relC hi fun z hz => h z (List.mem_cons_of_mem _ hz))
    have hlt : i < acc.size := by
      rw [hi.1]
      exact h i List.mem_cons_self
    obtain ⟨t, e⟩ := hi.2 i acc[i] (Array.getElem?_eq_getElem hlt)
    refine ⟨t, ?_⟩
    show acc.getD i .none = .int (i : Int) t
    have : acc.getD i .none = acc[i] := by simp [Array.getD, hlt]
    rw [this, e]
    congr 1
    omega
theorem combs_next {n j : Nat} {ns : List Nat} (ok : combOk n = true) (e : (combsN n)[j]? = some ns) :
    (match nxtC n ns with | none => (combsN n)[j + 1]? = none | some a => (combsN n)[j + 1]? = some a) := by
  have hj := (List.getElem?_eq_some_iff.mp e).1
  have := combOk_len ok
  unfold combsN at e ⊢
  by_cases c : 2 > n
  · rw [if_pos c] at e
    simp at e
  · rw [if_neg c] at e ⊢
    exact runC_next n 15 j _ ns e (by omega)
theorem turn_comb {P : Program} {w : World} {K : PySem.W.Frag} {tg : Expr} {n : Nat} (it pt : Addr) (ok : combOk n = true) : Turn P w K tg (ItC n) [it, pt] it (CmAt n it pt) where
  mem := by simp
  obj := fun i h st b hb => by
    obtain ⟨st, old, ns, acc, h1, h2, _⟩ := st
    have e' : b = it ∨ b = pt := by simpa using hb
    rcases e' with z | z
    · rw [z]; exact ⟨_, h1, fun v q => nomatch q⟩
    · rw [z]; exact ⟨_, h2, fun v q => nomatch q⟩
  keep := fun i h h' st k => by
    obtain ⟨st, old, ns, acc, h1, h2, r⟩ := st
    exact ⟨st, old, ns, acc, k it (by simp) _ h1, k pt (by simp) _ h2, r⟩
  item := by
    intro X hP hw hK hc i pins s σ H E I hf st hg
    subst hP hw hK
    obtain ⟨st, old, ns, acc, hit, hp, hi, hne, hcase⟩ := st
    have hg : i < (combsN n).length := hg
    have l15 := combOk_len ok
    have fin : ∀ (ms : List Nat) (h' : Heap), (combsN n)[i]? = some ms → IsCm h' it pt 1 (.ref s.heap.objs.size) ms → h'.get? s.heap.objs.size = some (toldO acc ms) → (∀ b o, b ≠ it → s.heap.get? b = some o → h'.get? b = some o) →
        ∃ u, some (Value.ref s.heap.objs.size) = some u ∧ wpAny (model X.prog X.w) X.A (letOwnedTupleGo tg (.ref it) u) (fun _ s2 => ∃ x H', Inv X pins σ H' s2 ∧ RelV x u ∧ (ItC n).yld i H x H' ∧ CmAt n it pt (i + 1) s2.heap ∧ ∀ b ∈ [it, pt], H' b = none) E { s with heap := h' } := by
      intro ms h' e h1 h2 h3
      have hin := combOk_at ok (List.mem_of_getElem? e)
      refine ⟨_, rfl, go_of (s := { s with heap := h' }) h1 rfl rfl (by decide) ?_⟩
      have new : ObjOk X.prog X.w (upd H s.heap.objs.size (.tup (ms.map fun (j : Nat) => V.int j))) h' s.heap.objs.size (.tup (ms.map fun (j : Nat) => V.int j)) :=
        ⟨by rw [List.length_map, hin.1, sizeLine_eq]; decide, ms.map fun i => acc.getD i .none, told_relC hi hin.2, ⟨_, h2, rfl, _, rfl⟩⟩
      have I1 : Inv X pins σ (upd H s.heap.objs.size (.tup (ms.map fun (j : Nat) => V.int j))) { s with heap := h', toks := s.toks } :=
        I.turnedNew (ch := [it, pt]) (fun b ob hb q => h3 b ob (fun z => hb (by simp [z])) q) hf (Nat.le_refl _) new
      refine ⟨.ref s.heap.objs.size, _, I1, rfl, ⟨_, ms, rfl, I.hok.fresh (Nat.le_refl _), rfl, e⟩, ⟨1, _, ms, acc, h1, h3 pt _ (Ne.symm hne) hp, hi, hne, .inr (.inr ⟨i, rfl, rfl, e⟩)⟩, fun b hb => ?_⟩
      have e' : b = it ∨ b = pt := by simpa using hb
      have hlt : b < s.heap.objs.size := by
        rcases e' with z | z
        · rw [z]; exact Heap.lt_size hit
        · rw [z]; exact Heap.lt_size hp
      rw [upd_ne (Nat.ne_of_lt hlt)]
      exact (hf b hb).1
    rcases hcase with ⟨_, z⟩ | ⟨rfl, rfl, e⟩ | ⟨j, rfl, rfl, e⟩
    · omega
    · have hin := combOk_at ok (List.mem_of_getElem? e)
      exact cm_first hit hp (Ne.symm hne) (by omega) fun h' h1 h2 h3 => fin ns h' e h1 h2 h3
    · have nx := combs_next ok e
      cases hn : nxtC n ns with
      | none =>
        rw [hn] at nx
        have nx : (combsN n)[j + 1]? = none := nx
        rw [List.getElem?_eq_getElem hg] at nx
        cases nx
      | some ix =>
        rw [hn] at nx
        have nx : (combsN n)[j + 1]? = some ix := nx
        have hin := combOk_at ok (List.mem_of_getElem? nx)
        exact cm_more hit hp hi.1 (Ne.symm hne) hn (by omega) fun h' h1 h2 h3 => fin ix h' nx h1 h2 h3
  done := by
    intro X hP hw hK hc i pins s σ H E I hf st hg
    subst hP hw hK
    obtain ⟨st, old, ns, acc, hit, hp, hi, hne, hcase⟩ := st
    have hg : (combsN n).length ≤ i := hg
    obtain ⟨f0, f1, f2, f3, f4, f5⟩ := hf it (by simp)
    rcases hcase with ⟨rfl, z⟩ | ⟨rfl, rfl, e⟩ | ⟨j, rfl, rfl, e⟩
    · exact cm_over (I.ok.hd hc) hit fun h' k => ⟨rfl, I.turned (t' := s.toks) (fun b o hb q => k b o hb q) f0 f1 f3 f4 f5⟩
    · rw [List.getElem?_eq_none_iff.mpr hg] at e
      cases e
    · have nx := combs_next ok e
      cases hn : nxtC n ns with
      | none => exact cm_end (I.ok.hd hc) hit hp hi.1 hn fun h' k => ⟨rfl, I.turned (t' := s.toks) (fun b o hb q => k b o hb q) f0 f1 f3 f4 f5⟩
      | some ix =>
        rw [hn] at nx
        have nx : (combsN n)[j + 1]? = some ix := nx
        rw [List.getElem?_eq_none_iff.mpr hg] at nx
        cases nx
  self := fun A i s Q E st h => by
    obtain ⟨st, old, ns, acc, hit, _⟩ := st
    exact iter_cm hit h
def iComb (te : L2.St → Hp → (Int → Int → Hp → Prop) → Prop) : TI := fun σ H R => te σ H fun a b H1 => ∃ n : Nat, a = 0 ∧ b = (n : Int) ∧ n ≤ 6 ∧ R (ItC n) H1
theorem pi_comb {X : Cx} {tg e : Expr} {te : L2.St → Hp → (Int → Int → Hp → Prop) → Prop} {p pos p3 : Pos} {p2 : Nat} (hc : X.calm = true) (hg : Gl X "combinations") (hm : X.mg "combinations" = some (.type "itertools.combinations")) (he : PRg X e te)
    (na : starEach [e, .Constant (.int 2) p2 p3] X.env = (false, eval e X.env) :: starEach [.Constant (.int 2) p2 p3] X.env := by rfl) (nb : starEach [.Constant (.int 2) p2 p3] X.env = (false, eval (.Constant (.int 2) p2 p3) X.env) :: starEach [] X.env := by rfl) : PI X tg (.Call (.Name "combinations" p) [e, .Constant (.int 2) p2 p3] [] pos) (iComb te) := by
  refine ⟨fun pins s σ H R I h => ?_⟩
  refine Call_ (ld_glob I hg hm (PyProof.Rows.callWith_type1 (PyProof.Rows.args_cons (thn (he pins s σ H _ I h) fun x s1 ⟨r, a, b, t, u, v, H1, ex, hr, I1, n, ea, eb, n6, q⟩ => PyProof.Rows.args_cons (wpAny_Constant_int (PyProof.Rows.args_nil ?_)) nb) na) na rfl))
  subst ex ea eb
  have rs := rangeSize_nat 0 (n : Int)
  rw [show ((n : Int) - 0).toNat = n by omega] at rs
  have I1' : Inv X pins σ H1 { s1 with toks := s1.toks + 1 } := I1.tok _
  refine call_cm (I1.ok.hd hc) hr (small_one (by omega) (by omega) (by omega) (by omega)) rs (by omega) fun hmm tk acc hk hi => ?_
  have I2 : Inv X pins σ H1 { s1 with heap := hmm, toks := tk } := I1.kept hk
  have e1 : (hmm.push (poolO acc)).objs.size = hmm.objs.size + 1 := by simp [Heap.push]
  have hit : ((hmm.push (poolO acc)).push (cmO hmm.objs.size (if 2 > n then 2 else 0) .none [0, 1])).get? (hmm.objs.size + 1) = some (cmO hmm.objs.size (if 2 > n then 2 else 0) .none [0, 1]) := by
    rw [← e1]
    exact Heap.get?_push_size _ rfl
  have hp : ((hmm.push (poolO acc)).push (cmO hmm.objs.size (if 2 > n then 2 else 0) .none [0, 1])).get? hmm.objs.size = some (poolO acc) := Heap.get?_push_of_some _ (Heap.get?_push_size _ rfl)
  have I3 : Inv X pins σ H1 { s1 with heap := (hmm.push (poolO acc)).push (cmO hmm.objs.size (if 2 > n then 2 else 0) .none [0, 1]), toks := tk } := I2.kept fun b o e => Heap.get?_push_of_some _ (Heap.get?_push_of_some _ e)
  refine iter_cm hit ⟨hmm.objs.size + 1, [hmm.objs.size + 1, hmm.objs.size], _, _, H1, rfl, I3, turn_comb _ hmm.objs.size (combOk_small n n6), ⟨_, .none, _, acc, hit, hp, hi, Nat.succ_ne_self _, ?_⟩, fun b hb => ?_, q⟩
  · by_cases c : 2 > n
    · refine .inl ⟨if_pos c, ?_⟩
      unfold combsN
      rw [if_pos c]
      rfl
    · refine .inr (.inl ⟨rfl, if_neg c, ?_⟩)
      unfold combsN
      rw [if_neg c]
      exact runC_zero n 15 _
  · have e' : b = hmm.objs.size + 1 ∨ b = hmm.objs.size := by simpa using hb
    have hle : hmm.objs.size ≤ b := by
      rcases e' with z | z
      · rw [z]; exact Nat.le_add_right _ _
      · rw [z]; exact Nat.le_refl _
    exact I2.fpOk hle (I2.hok.fresh hle)
end
/-! ### itertools.permutations(range), walked -/
section
open PySem PySem.Spec PySem.Builtin PySem.Builtin.Itertools
namespace Pm
theorem mro_pm : mroOf (.type "itertools.permutations") = pure [.type "itertools.permutations", .type "object"] := by rw [mroOf_type]; kernel_rfl
theorem lookup_pm_new : typeLookup (.type "itertools.permutations") "__new__" = pure (some (.builtin "itertools.permutations.__new__")) := by rw [typeLookup_type, builtinLookup_eq_fast]; kernel_rfl
theorem slot_pm_init : Slot "itertools.permutations" "__init__" "object.__init__" :=
  .of (owner := "object") (n := "__init__") (by rw [typeLookup_type, builtinLookup_eq_fast]; kernel_rfl) (by decide +kernel) (by decide +kernel) (by decide +kernel)
    (by first | exact .inl (by decide +kernel) | exact .inr (by decide +kernel)) (by rw [isSubtype_type]; kernel_rfl)
theorem sub_pm : isSubtype (.type "itertools.permutations") (.type "itertools.permutations") = pure true := by rw [isSubtype_type]; kernel_rfl
theorem called_pm : TypeCalled "itertools.permutations" "itertools.permutations.__new__" "object.__init__" :=
  ⟨by decide +kernel, by decide +kernel, ⟨_, _, mro_pm⟩, madeBy_type mro_pm lookup_pm_new (by decide +kernel), by decide +kernel, sub_pm, slot_pm_init⟩
theorem typeCall_pm (a : Value) : checkTypeCall "itertools.permutations" ⟨[a], []⟩ = pure () := by kernel_rfl
theorem newCall_pm (a : Value) : checkBuiltinCall "itertools.permutations.__new__" ⟨[.type "itertools.permutations", a], []⟩ = pure () := by kernel_rfl
theorem entry_pm_new : entryFor table "itertools.permutations.__new__" = some Builtin.«itertools.permutations.__new__» := entryFor_of_tree (by kernel_rfl)
theorem plain_pm_new : plainId "itertools.permutations.__new__" = true := by decide +kernel
theorem slot_pm_iter : Slot "itertools.permutations" "__iter__" "itertools.permutations.__iter__" :=
  .of (owner := "itertools.permutations") (n := "__iter__") (by rw [typeLookup_type, builtinLookup_eq_fast]; kernel_rfl) (by decide +kernel) (by decide +kernel) (by decide +kernel)
    (by first | exact .inl (by decide +kernel) | exact .inr (by decide +kernel)) sub_pm
theorem slot_pm_next : Slot "itertools.permutations" "__next__" "itertools.permutations.__next__" :=
  .of (owner := "itertools.permutations") (n := "__next__") (by rw [typeLookup_type, builtinLookup_eq_fast]; kernel_rfl) (by decide +kernel) (by decide +kernel) (by decide +kernel)
    (by first | exact .inl (by decide +kernel) | exact .inr (by decide +kernel)) sub_pm
theorem entry_pm_iter : entryFor table "itertools.permutations.__iter__" = some Builtin.«dict_keyiterator.__iter__» :=
  entryFor_alias (id' := "dict_keyiterator.__iter__") (by kernel_rfl) (by first | rfl | decide +kernel | (unfold String.splitOn; simp +decide [String.splitOnAux])) (by decide +kernel) (by kernel_rfl)
theorem entry_pm_next : entryFor table "itertools.permutations.__next__" = some Builtin.«itertools.permutations.__next__» := entryFor_of_tree (by kernel_rfl)
theorem noDict_pm : typeHasDict (.type "itertools.permutations") = false := by decide +kernel
theorem noClose_pm : typeLookup (.type "itertools.permutations") "close" = pure none := by rw [typeLookup_type, builtinLookup_eq_fast]; kernel_rfl
theorem owner_pm : Manifest.owners.lookup (String.ofList ['s', 'n', 'o', 'i', 't', 'a', 't', 'u', 'm', 'r', 'e', 'p', '.', 's', 'l', 'o', 'o', 't', 'r', 'e', 't', 'i'].reverse) = some Manifest.sig_itertools_permutations := by kernel_rfl
theorem args_pm_iter (a : Value) : argsOk "itertools.permutations.__iter__" ⟨[a], []⟩ := by
  unfold argsOk; rw [signature?_of (id := "itertools.permutations.__iter__") (n := ['_', '_', 'r', 'e', 't', 'i', '_', '_']) (o := ['s', 'n', 'o', 'i', 't', 'a', 't', 'u', 'm', 'r', 'e', 'p', '.', 's', 'l', 'o', 'o', 't', 'r', 'e', 't', 'i']) (by kernel_rfl) owner_pm]; kernel_rfl
theorem args_pm_next (a : Value) : argsOk "itertools.permutations.__next__" ⟨[a], []⟩ := by
  unfold argsOk; rw [signature?_of (id := "itertools.permutations.__next__") (n := ['_', '_', 't', 'x', 'e', 'n', '_', '_']) (o := ['s', 'n', 'o', 'i', 't', 'a', 't', 'u', 'm', 'r', 'e', 'p', '.', 's', 'l', 'o', 'o', 't', 'r', 'e', 't', 'i']) (by kernel_rfl) owner_pm]; kernel_rfl
end Pm
end
section
open PySem PySem.Spec PySem.Builtin PySem.Builtin.Itertools
namespace Pm
abbrev poolO (acc : Array Value) : Obj := { cls := .type "tuple", dict := none, data := .seq acc, slots := #[] }
abbrev pmO (pt : Addr) (st n : Int) (old : Value) (ns : List Nat) : Obj := { cls := .type "itertools.permutations", dict := none, data := .fields ([.ref pt, rawInt st, rawInt n, old] ++ ns.map fun (i : Nat) => rawInt i).toArray, slots := #[] }
/-- a permutations object: its pool, how far it is, how many, what it told last, its numbers -/
abbrev IsPm (h : Heap) (it pt : Addr) (st n : Int) (old : Value) (ns : List Nat) : Prop := h.get? it = some (pmO pt st n old ns)
section
variable {prog : Program} {w : World} {A : Around} {E : Value → Shared → Prop} {s : Shared} {r : Addr} {t u v : Tok} {n : Nat}
theorem code_pm_new {Q₁ : Value → Shared → Prop} (hh : A.handled = none) (hr : IsRange s.heap r 0 (n : Int) 1 t u v) (hsmall : Builtin.Range.small 0 (n : Int) 1 = true) (hn : Builtin.Range.rangeSize 0 (n : Int) 1 = n) (hlen : n ≤ 100)
    (h : ∀ (hm : Heap) (tk : Nat) (acc : Array Value), (∀ b o, s.heap.get? b = some o → hm.get? b = some o) → ItemsOf (fun i v => ∃ t, v = .int (0 + i * 1) t) acc n → Q₁ (.ref (hm.objs.size + 1)) { s with heap := (hm.push (poolO acc)).push (pmO hm.objs.size 0 n .none ((List.range n) ++ (List.range n).map fun i => n - i)), toks := tk }) :
    codeAny (model prog w) A (.call (.builtin "itertools.permutations.__new__") ⟨[.type "itertools.permutations", .ref r], []⟩) (wants Q₁ E) s := by
  refine codeAny_of_tree ?_
  show wpAny _ A.in1 (do checkBuiltinCall "itertools.permutations.__new__" ⟨[.type "itertools.permutations", .ref r], []⟩; again (.builtin "itertools.permutations.__new__" ⟨[.type "itertools.permutations", .ref r], []⟩)) _ _ s
  refine wpAny_bind (wpAny_of_eq (newCall_pm _) (wpAny_pure ⟨plainId_quiet plain_pm_new _, codeAny_builtin entry_pm_new ?_⟩))
  rw [Around.under_plainId plain_pm_new _]
  have hsub : isSubtype (.type "itertools.permutations") (.type ("itertools." ++ "permutations")) = pure true := sub_pm
  have hd := noDict_pm
  have hTI : s.TypeIs (.ref r) "range" := ⟨_, hr, rfl⟩
  have hh1 : A.in1.handled = none := hh
  have hlen2 : n ≤ 2 ^ 24 := Nat.le_trans hlen (by decide)
  wp_walk using wpAny_typeOf hTI, L2.collect_range (A := A.in1) hh1 hr hsmall hn hlen2
  intro h' tk acc hk hacc
  have hl : acc.toList.length = n := by rw [Array.length_toList]; exact hacc.1
  have c1 : ¬ (((acc.toList.length : Nat) : Int) < 0) := by omega
  have c2 : ¬ (itTooMany ((acc.toList.length : Nat) : Int) = true) := by
    unfold itTooMany
    rw [decide_eq_true_iff, hl]
    omega
  have c3 : ¬ (((acc.toList.length : Nat) : Int).toNat > acc.toList.length) := by omega
  refine wpAny_bind (wpAny_pure ?_)
  refine wpAny_ite_false (decide_eq_false c1) ?_
  refine wpAny_ite_false (decide_eq_false c2) ?_
  have fin : wpAny (model prog w) A.in1 (newTuple acc.toList >>= fun a => itNewRecord (.type "itertools.permutations") ([a, rawInt (if ((acc.toList.length : Nat) : Int).toNat > acc.toList.length then 2 else 0), rawInt (((acc.toList.length : Nat) : Int).toNat : Nat), .none] ++ (List.range acc.toList.length).map (fun (i : Nat) => rawInt i) ++ (List.range ((acc.toList.length : Nat) : Int).toNat).map fun (i : Nat) => rawInt ((acc.toList.length : Int) - i)) >>= fun b => ret b)
      (fun fin s' => match fin with | .done f => wants Q₁ E (.ok f) s' | .again c' => c'.quiet = true ∧ codeAny (model prog w) A c' (wants Q₁ E) s') (fun e s' => wants Q₁ E (.error e) s') { heap := h', gens := s.gens, drawn := s.drawn, toks := tk, os := s.os } := by
    unfold newTuple
    refine wpAny_bind (wpAny_newObj_type ?_ ?_)
    · rw [if_neg c3]
      unfold itNewRecord
      rw [hd]
      refine wpAny_bind ?_
      refine wpAny_ite_true rfl ?_
      refine wpAny_newObj_type (wpAny_pure ?_) ?_
      · have e1 : (h'.push (poolO acc)).objs.size = h'.objs.size + 1 := by simp [Heap.push]
        have e2 : ([Value.ref h'.objs.size, rawInt 0, rawInt (((acc.toList.length : Nat) : Int).toNat : Nat), .none] ++ (List.range acc.toList.length).map (fun (i : Nat) => rawInt i) ++ (List.range ((acc.toList.length : Nat) : Int).toNat).map fun (i : Nat) => rawInt ((acc.toList.length : Int) - i)) = ([Value.ref h'.objs.size, rawInt 0, rawInt (n : Int), .none] ++ ((List.range n) ++ (List.range n).map fun i => n - i).map fun (i : Nat) => rawInt i) := by
          rw [hl, Int.toNat_natCast, List.map_append, List.map_map, List.append_assoc]
          have e3 : ((List.range n).map fun (i : Nat) => rawInt ((n : Int) - i)) = (List.range n).map ((fun (i : Nat) => rawInt i) ∘ fun i => n - i) := by
            refine List.map_congr_left fun i hi => ?_
            have := List.mem_range.mp hi
            show rawInt ((n : Int) - i) = rawInt ((n - i : Nat) : Int)
            rw [show ((n - i : Nat) : Int) = (n : Int) - i by omega]
          rw [e3]
        have q := h h' tk acc hk hacc
        rw [← e1] at q
        rw [e2]
        exact q
      · show _ ≤ sizeLine + 2
        simp only [List.size_toArray, List.length_append, List.length_map, List.length_range, List.length_cons, List.length_nil]
        rw [hl, sizeLine_eq]
        omega
    · show _ ≤ sizeLine
      rw [List.size_toArray, hl, sizeLine_eq]
      omega
  exact fin
end
end Pm
end
section
open PySem PySem.Spec PySem.Builtin PySem.Builtin.Itertools
namespace Pm
def nxtP (n : Nat) : (place : Nat) → (indices cycles : List Nat) → Option (List Nat × List Nat)
  | 0, _, _ => none
  | i + 1, indices, cycles =>
    let c := cycles.getD i 0 - 1
    if c == 0 then nxtP n i (indices.take i ++ indices.drop (i + 1) ++ [indices.getD i 0]) (cycles.set i (n - i))
    else some ((indices.set i (indices.getD (n - c) 0)).set (n - c) (indices.getD i 0), cycles.set i c)
section
variable {prog : Program} {w : World} {A : Around} {E : Value → Shared → Prop} {s : Shared} {it pt : Addr} {n : Nat} {old : Value} {ns : List Nat} {acc : Array Value}
/-- what is told: a new tuple -/
abbrev toldO (acc : Array Value) (ix : List Nat) : Obj := { cls := .type "tuple", dict := none, data := .seq (ix.map fun i => acc.getD i .none).toArray, slots := #[] }
theorem nums_back (ns : List Nat) (a b c d : Value) : ((([a, b, c, d] ++ ns.map fun (i : Nat) => rawInt i).toArray.toList.drop 4).map fun | .int n _ => n.toNat | _ => 0) = ns := by
  show ((ns.map fun (i : Nat) => rawInt i).map _) = ns
  rw [List.map_map]
  refine (List.map_congr_left fun i _ => ?_).trans (List.map_id ns)
  show (rawInt (i : Int) |> fun | .int n _ => n.toNat | _ => 0) = i
  exact Int.toNat_natCast i
theorem set_num (pt st n old : Value) (ns : List Nat) (v : Value) : ([pt, st, n, old] ++ ns.map fun (i : Nat) => rawInt i).toArray.setIfInBounds 1 v = ([pt, v, n, old] ++ ns.map fun (i : Nat) => rawInt i).toArray := by
  simp
theorem set_old (pt st n old : Value) (ns : List Nat) (v : Value) : ([pt, st, n, old] ++ ns.map fun (i : Nat) => rawInt i).toArray.setIfInBounds 3 v = ([pt, st, n, v] ++ ns.map fun (i : Nat) => rawInt i).toArray := by
  simp
theorem set_nums (pt st n old : Value) (ns ms : List Nat) : ([pt, st, n, old] ++ ns.map fun (i : Nat) => rawInt i).toArray.extract 0 4 ++ (ms.map fun (i : Nat) => rawInt i).toArray = ([pt, st, n, old] ++ ms.map fun (i : Nat) => rawInt i).toArray := by
  simp
/-- what is handed out -/
theorem pm_result {st : Int} {ix : List Nat} {Q : PySem.Fin → Shared → Prop} (hit : IsPm s.heap it pt st n old ns) (hl : ix.length ≤ 1000)
    (hQ : ∀ h', IsPm h' it pt st n (.ref s.heap.objs.size) ns → h'.get? s.heap.objs.size = some (toldO acc ix) → (∀ b o, b ≠ it → s.heap.get? b = some o → h'.get? b = some o) → Q (.done (.ret (.ref s.heap.objs.size))) { s with heap := h' }) :
    wpAny (model prog w) A (do
      let t ← newTuple (ix.map fun i => acc.getD i .none)
      let before ← field (.ref it) 3
      setField (.ref it) 3 t
      letGo [before] [t]
      ret t) Q E s := by
  unfold newTuple
  refine wpAny_bind (wpAny_newObj_type ?_ (by show _ ≤ sizeLine; rw [List.size_toArray, List.length_map, sizeLine_eq]; omega))
  have hit2 : IsPm (s.heap.push (toldO acc ix)) it pt st n old ns := Heap.get?_push_of_some _ hit
  refine wpAny_bind (wpAny_field hit2 rfl (x := old) rfl ?_)
  refine wpAny_bind (wpAny_setField hit2 rfl (by simp) ?_)
  have hit3 : IsPm ((s.heap.push (toldO acc ix)).update it (Obj.mapFields (·.setIfInBounds 3 (.ref s.heap.objs.size)))) it pt st n (.ref s.heap.objs.size) ns := by
    unfold IsPm
    rw [Heap.get?_update_self _ hit2 rfl]
    show some (Obj.mapFields _ (pmO pt st n old ns)) = _
    unfold Obj.mapFields
    show some _ = _
    simp only [set_old]
  have ne : s.heap.objs.size ≠ it := Nat.ne_of_gt (Heap.lt_size hit)
  refine wpAny_bind ?_
  unfold letGo
  refine wpAny_bind (wpAny_holding (wpAny_point ?_))
  unfold letGo
  refine wpAny_pure (wpAny_pure ?_)
  refine hQ _ hit3 ?_ fun b o hb e => ?_
  · rw [Heap.get?_update_ne _ _ _ _ ne]
    exact Heap.get?_push_size _ rfl
  · rw [Heap.get?_update_ne _ _ _ _ hb]
    exact Heap.get?_push_of_some _ e
theorem pm_first {Q : Option Value → Shared → Prop} (hit : IsPm s.heap it pt 0 n old ns) (hp : s.heap.get? pt = some (poolO acc)) (hn : acc.size = n) (h100 : n ≤ 100) (hpt : pt ≠ it) (hl : ns.length ≤ 1000)
    (hQ : ∀ h', IsPm h' it pt 1 n (.ref s.heap.objs.size) ns → h'.get? s.heap.objs.size = some (toldO acc (ns.take n)) → (∀ b o, b ≠ it → s.heap.get? b = some o → h'.get? b = some o) → Q (some (.ref s.heap.objs.size)) { s with heap := h' }) :
    wpAny (model prog w) A (pyNext (.ref it)) Q E s := by
  have hT : s.TypeIs (.ref it) "itertools.permutations" := ⟨_, hit, rfl⟩
  unfold pyNext
  refine wpAny_bind (wpAny_attempt (wpAny_callSpecial?_slot (name := Str.ofString "__next__") hT slot_pm_next (wpAny_call_entry slot_pm_next hT entry_pm_next ?_ (args_pm_next _))))
  show wpAny _ _ (field (.ref it) 0 >>= _) _ _ s
  refine wpAny_bind (wpAny_field hit rfl (x := .ref pt) rfl ?_)
  show wpAny _ _ (itPoolItems (.ref pt) >>= _) _ _ s
  unfold itPoolItems
  refine wpAny_bind (wpAny_bind (wpAny_seqItems hp rfl (wpAny_pure ?_)))
  refine wpAny_bind ?_
  unfold itIntField
  refine wpAny_bind (wpAny_field hit rfl (x := rawInt n) rfl (wpAny_pure ?_))
  refine wpAny_bind ?_
  unfold itNumbersFrom
  refine wpAny_bind (wpAny_load hit (wpAny_pure ?_))
  have nb := nums_back ns (.ref pt) (rawInt 0) (rawInt n) old
  generalize hz : (List.map _ (List.drop 4 _) : List Nat) = numbers
  have ez : numbers = ns := hz.symm.trans nb
  rw [ez]
  clear hz nb ez
  refine wpAny_bind (wpAny_bind (wpAny_field hit rfl (x := rawInt 0) rfl (wpAny_pure ?_)))
  refine wpAny_bind (wpAny_setField hit rfl (by simp) ?_)
  have hit2 : IsPm (s.heap.update it (Obj.mapFields (·.setIfInBounds 1 (rawInt 1)))) it pt 1 n old ns := by
    unfold IsPm
    rw [Heap.get?_update_self _ hit rfl]
    show some (Obj.mapFields _ (pmO pt 0 n old ns)) = _
    unfold Obj.mapFields
    show some _ = _
    simp only [set_num]
  have sz : (s.heap.update it (Obj.mapFields (·.setIfInBounds 1 (rawInt 1)))).objs.size = s.heap.objs.size := Heap.size_update ..
  refine pm_result (acc := acc) (ix := ns.take n) hit2 (by rw [List.length_take]; omega) fun h' h1 h2 h3 => ?_
  rw [sz] at h1 h2
  refine ⟨_, rfl, wpAny_pure ?_⟩
  rw [sz]
  exact hQ h' h1 h2 fun b o hb e => h3 b o hb (by rw [Heap.get?_update_ne _ _ _ _ hb]; exact e)
theorem pm_more {Q : Option Value → Shared → Prop} {ix cy : List Nat} (hit : IsPm s.heap it pt 1 n old ns) (hp : s.heap.get? pt = some (poolO acc)) (hn : acc.size = n) (h100 : n ≤ 100) (hpt : pt ≠ it) (hz : nxtP n n (ns.take n) (ns.drop n) = some (ix, cy)) (hl : (ix ++ cy).length ≤ 1000)
    (hQ : ∀ h', IsPm h' it pt 1 n (.ref s.heap.objs.size) (ix ++ cy) → h'.get? s.heap.objs.size = some (toldO acc (ix.take n)) → (∀ b o, b ≠ it → s.heap.get? b = some o → h'.get? b = some o) → Q (some (.ref s.heap.objs.size)) { s with heap := h' }) :
    wpAny (model prog w) A (pyNext (.ref it)) Q E s := by
  have hT : s.TypeIs (.ref it) "itertools.permutations" := ⟨_, hit, rfl⟩
  unfold pyNext
  refine wpAny_bind (wpAny_attempt (wpAny_callSpecial?_slot (name := Str.ofString "__next__") hT slot_pm_next (wpAny_call_entry slot_pm_next hT entry_pm_next ?_ (args_pm_next _))))
  show wpAny _ _ (field (.ref it) 0 >>= _) _ _ s
  refine wpAny_bind (wpAny_field hit rfl (x := .ref pt) rfl ?_)
  show wpAny _ _ (itPoolItems (.ref pt) >>= _) _ _ s
  unfold itPoolItems
  refine wpAny_bind (wpAny_bind (wpAny_seqItems hp rfl (wpAny_pure ?_)))
  refine wpAny_bind ?_
  unfold itIntField
  refine wpAny_bind (wpAny_field hit rfl (x := rawInt n) rfl (wpAny_pure ?_))
  refine wpAny_bind ?_
  unfold itNumbersFrom
  refine wpAny_bind (wpAny_load hit (wpAny_pure ?_))
  have nb := nums_back ns (.ref pt) (rawInt 1) (rawInt n) old
  generalize hz' : (List.map _ (List.drop 4 _) : List Nat) = numbers
  have ez : numbers = ns := hz'.symm.trans nb
  rw [ez]
  clear hz' nb ez
  refine wpAny_bind (wpAny_bind (wpAny_field hit rfl (x := rawInt 1) rfl (wpAny_pure ?_)))
  show wpAny _ _ (match (_ : Option (List Nat × List Nat)) with | some (i, c) => _ | none => _) _ _ _
  subst hn
  split
  · rename_i i c heq
    have e : nxtP acc.size acc.size (ns.take acc.size) (ns.drop acc.size) = some (i, c) := Eq.trans (by kernel_rfl) heq
    rw [hz] at e
    cases e
    refine wpAny_bind ?_
    unfold itSetNumbersFrom
    refine wpAny_updateFields hit rfl ?_ ?_
    · have hit2 : IsPm (s.heap.update it (Obj.mapFields fun fs => fs.extract 0 4 ++ ((ix ++ cy).map fun (n : Nat) => rawInt n).toArray)) it pt 1 acc.size old (ix ++ cy) := by
        unfold IsPm
        rw [Heap.get?_update_self _ hit rfl]
        show some (Obj.mapFields _ (pmO pt 1 acc.size old ns)) = _
        unfold Obj.mapFields
        show some _ = _
        simp only [set_nums]
      have sz : (s.heap.update it (Obj.mapFields fun fs => fs.extract 0 4 ++ ((ix ++ cy).map fun (n : Nat) => rawInt n).toArray)).objs.size = s.heap.objs.size := Heap.size_update ..
      refine pm_result (acc := acc) (ix := ix.take acc.size) hit2 (by rw [List.length_take]; rw [List.length_append] at hl; omega) fun h' h1 h2 h3 => ?_
      rw [sz] at h1 h2
      refine ⟨_, rfl, wpAny_pure ?_⟩
      rw [sz]
      exact hQ h' h1 h2 fun b o hb e => h3 b o hb (by rw [Heap.get?_update_ne _ _ _ _ hb]; exact e)
    · show (_ ++ _ : Array Value).size ≤ _
      rw [set_nums, List.size_toArray, List.length_append, List.length_map, sizeLine_eq]
      show 4 + _ ≤ _
      omega
  · rename_i heq
    have e : nxtP acc.size acc.size (ns.take acc.size) (ns.drop acc.size) = none := Eq.trans (by kernel_rfl) heq
    rw [hz] at e
    cases e
theorem pm_end {Q : Option Value → Shared → Prop} (hh : A.handled = none) (hit : IsPm s.heap it pt 1 n old ns) (hp : s.heap.get? pt = some (poolO acc)) (hn : acc.size = n) (hz : nxtP n n (ns.take n) (ns.drop n) = none)
    (hQ : ∀ h', (∀ b o, b ≠ it → s.heap.get? b = some o → h'.get? b = some o) → Q none { s with heap := h' }) :
    wpAny (model prog w) A (pyNext (.ref it)) Q E s := by
  have hT : s.TypeIs (.ref it) "itertools.permutations" := ⟨_, hit, rfl⟩
  unfold pyNext
  refine wpAny_bind (wpAny_attempt (wpAny_callSpecial?_slot (name := Str.ofString "__next__") hT slot_pm_next (wpAny_call_entry slot_pm_next hT entry_pm_next ?_ (args_pm_next _))))
  show wpAny _ _ (field (.ref it) 0 >>= _) _ _ s
  refine wpAny_bind (wpAny_field hit rfl (x := .ref pt) rfl ?_)
  show wpAny _ _ (itPoolItems (.ref pt) >>= _) _ _ s
  unfold itPoolItems
  refine wpAny_bind (wpAny_bind (wpAny_seqItems hp rfl (wpAny_pure ?_)))
  refine wpAny_bind ?_
  unfold itIntField
  refine wpAny_bind (wpAny_field hit rfl (x := rawInt n) rfl (wpAny_pure ?_))
  refine wpAny_bind ?_
  unfold itNumbersFrom
  refine wpAny_bind (wpAny_load hit (wpAny_pure ?_))
  have nb := nums_back ns (.ref pt) (rawInt 1) (rawInt n) old
  generalize hz' : (List.map _ (List.drop 4 _) : List Nat) = numbers
  have ez : numbers = ns := hz'.symm.trans nb
  rw [ez]
  clear hz' nb ez
  refine wpAny_bind (wpAny_bind (wpAny_field hit rfl (x := rawInt 1) rfl (wpAny_pure ?_)))
  show wpAny _ _ (match (_ : Option (List Nat × List Nat)) with | some (i, c) => _ | none => _) _ _ _
  subst hn
  split
  · rename_i i c heq
    have e : nxtP acc.size acc.size (ns.take acc.size) (ns.drop acc.size) = some (i, c) := Eq.trans (by kernel_rfl) heq
    rw [hz] at e
    cases e
  · refine wpAny_bind (wpAny_setField hit rfl (by simp) ?_)
    unfold itStop
    simp only [newExc, newTuple]
    refine wpAny_bind ?_
    refine wpAny_bind (wpAny_newObj_type ?_ (by size_fits))
    refine wpAny_bind (m := firstArgMember _ _) (wpAny_of_eq (a := Value.none) (by first | rfl | (simp only [firstArgMember]; rfl)) ?_)
    refine wpAny_newObj_type ?_ (by size_fits)
    simp only [raiseNew]
    refine wpAny_bind (wpAny_handled ?_)
    first | rw [show A.in1.handled = none from hh] | rw [hh]
    refine wpAny_bind (wpAny_pure (wpAny_throw ?_))
    refine wpAny_bind (wpAny_isInstance (T := "StopIteration") (b := true) ⟨_, Heap.get?_push_size _ rfl, rfl⟩ isSubtype_stop ?_)
    refine wpAny_pure (hQ _ fun b o hb e => ?_)
    exact Heap.get?_push_of_some _ (Heap.get?_push_of_some _ (by rw [Heap.get?_update_ne _ _ _ _ hb]; exact e))
end
end Pm
end
section
open PySem PySem.Spec PySem.Builtin PySem.Builtin.Itertools
namespace Pm
section
variable {prog : Program} {w : World} {A : Around} {E : Value → Shared → Prop} {s : Shared} {it pt r : Addr} {n : Nat} {old : Value} {ns : List Nat} {acc : Array Value} {t u v : Tok}
theorem iter_pm {st : Int} {Q : Value → Shared → Prop} (hit : IsPm s.heap it pt st n old ns) (h : Q (.ref it) s) : wpAny (model prog w) A (pyIter (.ref it)) Q E s := by
  have hT : s.TypeIs (.ref it) "itertools.permutations" := ⟨_, hit, rfl⟩
  refine wpAny_pyIter_slot hT slot_pm_iter (wpAny_call_entry slot_pm_iter hT entry_pm_iter ?_ (args_pm_iter _))
  show wpAny _ _ (ret (.ref it)) _ _ s
  exact wpAny_pure ⟨_, rfl, "itertools.permutations", _, hT, slot_pm_next.lookup, h⟩
theorem call_pm {Q : Value → Shared → Prop} (hh : A.handled = none) (hr : IsRange s.heap r 0 (n : Int) 1 t u v) (hsmall : Builtin.Range.small 0 (n : Int) 1 = true) (hn : Builtin.Range.rangeSize 0 (n : Int) 1 = n) (hlen : n ≤ 100)
    (h : ∀ (hm : Heap) (tk : Nat) (acc : Array Value), (∀ b o, s.heap.get? b = some o → hm.get? b = some o) → ItemsOf (fun i v => ∃ t, v = .int (0 + i * 1) t) acc n → Q (.ref (hm.objs.size + 1)) { s with heap := (hm.push (poolO acc)).push (pmO hm.objs.size 0 n .none ((List.range n) ++ (List.range n).map fun i => n - i)), toks := tk }) :
    wpAny (model prog w) A (call (.type "itertools.permutations") [.ref r]) Q E s := by
  have hh1 : A.in1.handled = none := hh
  refine PySem.ks_callType_codesW (Q₁ := fun obj s1 => s1.TypeIs obj "itertools.permutations" ∧ Q obj s1) called_pm (fun {Q'} {E'} hq => wpAny_of_eq (typeCall_pm _) hq) F.entry_object_init (code_pm_new hh1 hr hsmall hn hlen fun hm tk acc hk hi => ?_) fun obj s1 h1 => ?_
  · refine ⟨⟨pmO hm.objs.size 0 n .none ((List.range n) ++ (List.range n).map fun i => n - i), ?_, rfl⟩, h hm tk acc hk hi⟩
    have e1 : (hm.push (poolO acc)).objs.size = hm.objs.size + 1 := by simp [Heap.push]
    rw [← e1]
    exact Heap.get?_push_size _ rfl
  · exact ⟨h1.1, F.args_object_init_2 obj _, object_init_meets called_pm.init.lookup called_pm.made (by decide +kernel) _ _ _ _ _ ⟨h1.1, rfl, h1.2⟩⟩
end
/-! the numbers at each turn -/
def runP (n : Nat) : Nat → List Nat → List (List Nat)
  | 0, ns => [ns]
  | k + 1, ns => ns :: match nxtP n n (ns.take n) (ns.drop n) with
    | none => []
    | some (i, c) => runP n k (i ++ c)
def permsN (n : Nat) : List (List Nat) := runP n 720 ((List.range n) ++ (List.range n).map fun i => n - i)
theorem runP_zero (n : Nat) : ∀ k ns, (runP n k ns)[0]? = some ns
  | 0, _ => rfl
  | _ + 1, _ => rfl
theorem runP_next (n : Nat) : ∀ (k i : Nat) (ns ms : List Nat), (runP n k ns)[i]? = some ms → i < k →
    (match nxtP n n (ms.take n) (ms.drop n) with | none => (runP n k ns)[i + 1]? = none | some (a, c) => (runP n k ns)[i + 1]? = some (a ++ c))
  | 0, i, ns, ms, _, h => absurd h (Nat.not_lt_zero _)
  | k + 1, 0, ns, ms, e, _ => by
    have e1 : ns = ms := Option.some.inj e
    subst e1
    unfold runP
    cases hn : nxtP n n (ns.take n) (ns.drop n) with
    | none => rfl
    | some p =>
      obtain ⟨a, c⟩ := p
      show (runP n k (a ++ c))[0]? = _
      exact runP_zero n k _
  | k + 1, i + 1, ns, ms, e, h => by
    unfold runP at e ⊢
    cases hn : nxtP n n (ns.take n) (ns.drop n) with
    | none =>
      rw [hn] at e
      simp at e
    | some p =>
      obtain ⟨a, c⟩ := p
      rw [hn] at e
      have e' : (runP n k (a ++ c))[i]? = some ms := e
      exact runP_next n k i (a ++ c) ms e' (by omega)
theorem nxtP_len {n : Nat} : ∀ {i : Nat} {a c a' c' : List Nat}, i ≤ n → nxtP n i a c = some (a', c') → a.length = n → a'.length = n
  | 0, a, c, a', c', _, h, _ => by unfold nxtP at h; cases h
  | i + 1, a, c, a', c', hi, h, hl => by
    unfold nxtP at h
    by_cases z : (c.getD i 0 - 1 == 0) = true
    · simp only [z, if_true] at h
      refine nxtP_len (by omega) h ?_
      rw [List.length_append, List.length_append, List.length_take, List.length_drop]
      simp
      omega
    · simp only [z] at h
      cases h
      rw [List.length_set, List.length_set]
      exact hl
/-- what is asked of so many places: all ends in time, the numbers are as many as they must be -/
def permOk (n : Nat) : Bool := decide ((permsN n).length ≤ 720) && (permsN n).all fun ns => decide (ns.length = 2 * n) && (ns.take n).all fun i => decide (i < n)
theorem permOk_small : ∀ n, n ≤ 6 → permOk n = true := by
  intro n hn
  match n, hn with
  | 0, _ => decide +kernel
  | 1, _ => decide +kernel
  | 2, _ => decide +kernel
  | 3, _ => decide +kernel
  | 4, _ => decide +kernel
  | 5, _ => decide +kernel
  | 6, _ => decide +kernel
end Pm
end
section
open Pm
theorem permOk_len {n : Nat} (h : permOk n = true) : (permsN n).length ≤ 720 := by
  unfold permOk at h
  rw [Bool.and_eq_true, decide_eq_true_iff] at h
  exact h.1
theorem permOk_at {n : Nat} (h : permOk n = true) {ns : List Nat} (hn : ns ∈ permsN n) : ns.length = 2 * n ∧ ∀ i ∈ ns.take n, i < n := by
  unfold permOk at h
  rw [Bool.and_eq_true] at h
  have h2 := List.all_eq_true.mp h.2 ns hn
  rw [Bool.and_eq_true, decide_eq_true_iff] at h2
  exact ⟨h2.1, fun i hi => of_decide_eq_true (List.all_eq_true.mp h2.2 i hi)⟩
/-- the orders of 0 .. n - 1, each in a new tuple -/
def Itp (n : Nat) : It :=
  ⟨fun i _ => i < (permsN n).length, fun i H v H' => ∃ T ns, v = .ref T ∧ H T = none ∧ H' = upd H T (.tup ((ns.take n).map fun (j : Nat) => V.int j)) ∧ (permsN n)[i]? = some ns, fun i _ => (permsN n).length ≤ i⟩
def PmAt (n : Nat) (it pt : Addr) (i : Nat) (h : Heap) : Prop := ∃ (st : Int) (old : Value) (ns : List Nat) (acc : Array Value), IsPm h it pt st n old ns ∧ h.get? pt = some (poolO acc) ∧ ItemsOf (fun i v => ∃ t, v = .int (0 + i * 1) t) acc n ∧ it ≠ pt ∧
  ((i = 0 ∧ st = 0 ∧ (permsN n)[0]? = some ns) ∨ ∃ j, i = j + 1 ∧ st = 1 ∧ (permsN n)[j]? = some ns)
theorem told_rel {n : Nat} {acc : Array Value} (hi : ItemsOf (fun i v => ∃ t, v = .int (0 + i * 1) t) acc n) : ∀ {ix : List Nat}, (∀ i ∈ ix, i < n) → Vals (ix.map fun (j : Nat) => V.int j) (ix.map fun i => acc.getD i .none)
  | [], _ => .nil
  | i :: ix, h => by
    refine .cons ?_ (told_rel hi fun z hz => h z (List.mem_cons_of_mem _ hz))
    have hlt : i < acc.size := by
      rw [hi.1]
      exact h i List.mem_cons_self
    obtain ⟨t, e⟩ := hi.2 i acc[i] (Array.getElem?_eq_getElem hlt)
    refine ⟨t, ?_⟩
    show acc.getD i .none = .int (i : Int) t
    have : acc.getD i .none = acc[i] := by simp [Array.getD, hlt]
    rw [this, e]
    congr 1
    omega
theorem turn_perm {P : Program} {w : World} {K : PySem.W.Frag} {tg : Expr} {n : Nat} (it pt : Addr) (ok : permOk n = true) (n6 : n ≤ 100) : Turn P w K tg (Itp n) [it, pt] it (PmAt n it pt) where
  mem := by simp
  obj := fun i h st b hb => by
    obtain ⟨st, old, ns, acc, h1, h2, _⟩ := st
    have e' : b = it ∨ b = pt := by simpa using hb
    rcases e' with z | z
    · rw [z]; exact ⟨_, h1, fun v q => nomatch q⟩
    · rw [z]; exact ⟨_, h2, fun v q => nomatch q⟩
  keep := fun i h h' st k => by
    obtain ⟨st, old, ns, acc, h1, h2, r⟩ := st
    exact ⟨st, old, ns, acc, k it (by simp) _ h1, k pt (by simp) _ h2, r⟩
  item := by
    intro X hP hw hK hc i pins s σ H E I hf st hg
    subst hP hw hK
    obtain ⟨st, old, ns, acc, hit, hp, hi, hne, hcase⟩ := st
    have hg : i < (permsN n).length := hg
    have l720 := permOk_len ok
    have fin : ∀ (ms : List Nat) (h' : Heap), (permsN n)[i]? = some ms → IsPm h' it pt 1 n (.ref s.heap.objs.size) ms → h'.get? s.heap.objs.size = some (toldO acc (ms.take n)) → (∀ b o, b ≠ it → s.heap.get? b = some o → h'.get? b = some o) →
        ∃ u, some (Value.ref s.heap.objs.size) = some u ∧ wpAny (model X.prog X.w) X.A (letOwnedTupleGo tg (.ref it) u) (fun _ s2 => ∃ x H', Inv X pins σ H' s2 ∧ RelV x u ∧ (Itp n).yld i H x H' ∧ PmAt n it pt (i + 1) s2.heap ∧ ∀ b ∈ [it, pt], H' b = none) E { s with heap := h' } := by
      intro ms h' e h1 h2 h3
      have hin := permOk_at ok (List.mem_of_getElem? e)
      refine ⟨_, rfl, go_of (s := { s with heap := h' }) h1 rfl rfl (by decide) ?_⟩
      have new : ObjOk X.prog X.w (upd H s.heap.objs.size (.tup ((ms.take n).map fun (j : Nat) => V.int j))) h' s.heap.objs.size (.tup ((ms.take n).map fun (j : Nat) => V.int j)) :=
        ⟨by rw [List.length_map, List.length_take, sizeLine_eq]; omega, (ms.take n).map fun i => acc.getD i .none, told_rel hi hin.2, ⟨_, h2, rfl, _, rfl⟩⟩
      have I1 : Inv X pins σ (upd H s.heap.objs.size (.tup ((ms.take n).map fun (j : Nat) => V.int j))) { s with heap := h', toks := s.toks } :=
        I.turnedNew (ch := [it, pt]) (fun b ob hb q => h3 b ob (fun z => hb (by simp [z])) q) hf (Nat.le_refl _) new
      refine ⟨.ref s.heap.objs.size, _, I1, rfl, ⟨_, ms, rfl, I.hok.fresh (Nat.le_refl _), rfl, e⟩, ⟨1, _, ms, acc, h1, h3 pt _ (Ne.symm hne) hp, hi, hne, .inr ⟨i, rfl, rfl, e⟩⟩, fun b hb => ?_⟩
      have e' : b = it ∨ b = pt := by simpa using hb
      have hlt : b < s.heap.objs.size := by
        rcases e' with z | z
        · rw [z]; exact Heap.lt_size hit
        · rw [z]; exact Heap.lt_size hp
      rw [upd_ne (Nat.ne_of_lt hlt)]
      exact (hf b hb).1
    rcases hcase with ⟨rfl, rfl, e⟩ | ⟨j, rfl, rfl, e⟩
    · have hin := permOk_at ok (List.mem_of_getElem? e)
      exact pm_first hit hp hi.1 n6 (Ne.symm hne) (by omega) fun h' h1 h2 h3 => fin ns h' e h1 h2 h3
    · have nx := runP_next n 720 j _ ns e (by omega)
      cases hn : nxtP n n (ns.take n) (ns.drop n) with
      | none =>
        rw [hn] at nx
        have nx : (permsN n)[j + 1]? = none := nx
        rw [List.getElem?_eq_getElem hg] at nx
        cases nx
      | some p =>
        obtain ⟨ix, cy⟩ := p
        rw [hn] at nx
        have nx : (permsN n)[j + 1]? = some (ix ++ cy) := nx
        have hin := permOk_at ok (List.mem_of_getElem? nx)
        have lix : ix.length = n := nxtP_len (Nat.le_refl n) hn (by have := permOk_at ok (List.mem_of_getElem? e); rw [List.length_take]; omega)
        refine pm_more hit hp hi.1 n6 (Ne.symm hne) hn (by omega) fun h' h1 h2 h3 => fin (ix ++ cy) h' nx h1 ?_ h3
        rw [h2]
        congr 2
        rw [List.take_append_of_le_length (by omega)]
  done := by
    intro X hP hw hK hc i pins s σ H E I hf st hg
    subst hP hw hK
    obtain ⟨st, old, ns, acc, hit, hp, hi, hne, hcase⟩ := st
    have hg : (permsN n).length ≤ i := hg
    have l720 := permOk_len ok
    obtain ⟨f0, f1, f2, f3, f4, f5⟩ := hf it (by simp)
    rcases hcase with ⟨rfl, rfl, e⟩ | ⟨j, rfl, rfl, e⟩
    · rw [List.getElem?_eq_none_iff.mpr hg] at e
      cases e
    · have hj := (List.getElem?_eq_some_iff.mp e).1
      have nx := runP_next n 720 j _ ns e (by omega)
      cases hn : nxtP n n (ns.take n) (ns.drop n) with
      | none => exact pm_end (I.ok.hd hc) hit hp hi.1 hn fun h' k => ⟨rfl, I.turned (t' := s.toks) (fun b o hb q => k b o hb q) f0 f1 f3 f4 f5⟩
      | some p =>
        obtain ⟨ix, cy⟩ := p
        rw [hn] at nx
        have nx : (permsN n)[j + 1]? = some (ix ++ cy) := nx
        rw [List.getElem?_eq_none_iff.mpr hg] at nx
        cases nx
  self := fun A i s Q E st h => by
    obtain ⟨st, old, ns, acc, hit, _⟩ := st
    exact iter_pm hit h
def iPerm (te : L2.St → Hp → (Int → Int → Hp → Prop) → Prop) : TI := fun σ H R => te σ H fun a b H1 => ∃ n : Nat, a = 0 ∧ b = (n : Int) ∧ n ≤ 6 ∧ R (Itp n) H1
theorem pi_perm {X : Cx} {tg e : Expr} {te : L2.St → Hp → (Int → Int → Hp → Prop) → Prop} {p pos : Pos} (hc : X.calm = true) (hg : Gl X "permutations") (hm : X.mg "permutations" = some (.type "itertools.permutations")) (he : PRg X e te)
    (na : starEach [e] X.env = (false, eval e X.env) :: starEach [] X.env := by rfl) : PI X tg (.Call (.Name "permutations" p) [e] [] pos) (iPerm te) := by
  refine ⟨fun pins s σ H R I h => ?_⟩
  refine Call_ (ld_glob I hg hm (PyProof.Rows.callWith_type1 (PyProof.Rows.args_cons (thn (he pins s σ H _ I h) fun x s1 ⟨r, a, b, t, u, v, H1, ex, hr, I1, n, ea, eb, n6, q⟩ => PyProof.Rows.args_nil ?_) na) na rfl))
  subst ex ea eb
  have rs := rangeSize_nat 0 (n : Int)
  rw [show ((n : Int) - 0).toNat = n by omega] at rs
  refine call_pm (I1.ok.hd hc) hr (small_one (by omega) (by omega) (by omega) (by omega)) rs (by omega) fun hmm tk acc hk hi => ?_
  have I2 : Inv X pins σ H1 { s1 with heap := hmm, toks := tk } := I1.kept hk
  have e1 : (hmm.push (poolO acc)).objs.size = hmm.objs.size + 1 := by simp [Heap.push]
  have hit : ((hmm.push (poolO acc)).push (pmO hmm.objs.size 0 n .none ((List.range n) ++ (List.range n).map fun i => n - i))).get? (hmm.objs.size + 1) = some (pmO hmm.objs.size 0 n .none ((List.range n) ++ (List.range n).map fun i => n - i)) := by
    rw [← e1]
    exact Heap.get?_push_size _ rfl
  have hp : ((hmm.push (poolO acc)).push (pmO hmm.objs.size 0 n .none ((List.range n) ++ (List.range n).map fun i => n - i))).get? hmm.objs.size = some (poolO acc) := Heap.get?_push_of_some _ (Heap.get?_push_size _ rfl)
  have I3 : Inv X pins σ H1 { s1 with heap := (hmm.push (poolO acc)).push (pmO hmm.objs.size 0 n .none ((List.range n) ++ (List.range n).map fun i => n - i)), toks := tk } := I2.kept fun b o e => Heap.get?_push_of_some _ (Heap.get?_push_of_some _ e)
  refine iter_pm hit ⟨hmm.objs.size + 1, [hmm.objs.size + 1, hmm.objs.size], _, _, H1, rfl, I3, turn_perm _ hmm.objs.size (permOk_small n n6) (by omega), ⟨0, .none, _, acc, hit, hp, hi, Nat.succ_ne_self _, .inl ⟨rfl, rfl, runP_zero n 720 _⟩⟩, fun b hb => ?_, q⟩
  have e' : b = hmm.objs.size + 1 ∨ b = hmm.objs.size := by simpa using hb
  have hle : hmm.objs.size ≤ b := by
    rcases e' with z | z
    · rw [z]; exact Nat.le_add_right _ _
    · rw [z]; exact Nat.le_refl _
  exact I2.fpOk hle (I2.hok.fresh hle)
end
/-! ### for k, v in d.items(), the dict's keys tuples -/
section
open PySem.Spec
variable {X : Cx} {pins : List (Addr × Obj)} {σ : L2.St} {H : Hp} {s : Shared} {d : Addr} {o : Obj}
theorem Inv.frzTv {kvs : List (List L2.Key × V)} (I : Inv X pins σ H s) (h : H d = some (.frz o (.dT kvs))) :
    (d == sysModules) = false ∧ s.heap.get? d = some o ∧ o.ExactDict ∧ ∃ (es : Array DictEntry) (ep : Nat), o.data = .dict es ep ∧ es.size = kvs.length ∧
      ∀ (i : Nat) (k : List L2.Key) (v : V), kvs[i]? = some (k, v) → ∃ (en : DictEntry) (q : Addr), es[i]? = some en ∧ en.key = .ref q ∧ H q = some (.tup (k.map kV)) ∧ RelV v en.val := by
  obtain ⟨hd, z, hs, xs, pr, o', es, ep, ho, hx, hdt, he, _⟩ := I.hok d _ h
  rw [hd] at ho
  cases ho
  refine ⟨hs, hd, hx, es, ep, hdt, ?_, fun i k v e => ?_⟩
  · have l1 : es.size = xs.length := size_of_entries he
    have l2 : kvs.length = xs.length := pr.length
    omega
  · obtain ⟨b, hb, e1, e2, e3⟩ := paired_get pr e
    have q := entry_at he i
    rw [hb] at q
    exact ⟨_, b.2.1, q, rfl, e2, e3⟩
/-- the pairs, each a new tuple -/
def ItiT (d : Addr) (o : Obj) (kvs : List (List L2.Key × V)) : It :=
  ⟨fun i H => H d = some (.frz o (.dT kvs)) ∧ i < kvs.length, fun i H x H' => ∃ (T q : Addr) (k : List L2.Key) (v : V), kvs[i]? = some (k, v) ∧ x = .ref T ∧ H T = none ∧ H q = some (.tup (k.map kV)) ∧ H' = upd H T (.tup [.ref q, v]), fun i H => H d = some (.frz o (.dT kvs)) ∧ kvs.length ≤ i⟩
theorem turn_itemsT {P : Program} {w : World} {K : PySem.W.Frag} {es : Array DictEntry} {ep : Nat} {kvs : List (List L2.Key × V)} {elts : List Expr} {kk : Nat} {tpos : Pos} (it : Addr) (hod : o.data = .dict es ep) :
    Turn P w K (.Tuple elts kk tpos) (ItiT d o kvs) [it] it (fun i h => ∃ ok ov, IsItemIter h it d i kvs.length ep ok ov) where
  mem := by simp
  obj := fun i h st b hb => by
    have e : b = it := by simpa using hb
    subst e
    obtain ⟨ok, ov, e⟩ := st
    exact ⟨_, e, fun v z => nomatch z⟩
  keep := fun i h h' st k => let ⟨ok, ov, e⟩ := st; ⟨ok, ov, k it (by simp) _ e⟩
  item := by
    intro X hP hw hK hc i pins s σ H E I hf st hg
    subst hP hw hK
    obtain ⟨hd, hi⟩ := hg
    obtain ⟨hs, hgd, hx, es', ep', hdt, hsz, ent⟩ := Inv.frzTv I hd
    obtain ⟨rfl, rfl⟩ := dict_ep hod hdt
    obtain ⟨⟨k, v⟩, hkv⟩ : ∃ p, kvs[i]? = some p := ⟨kvs[i], List.getElem?_eq_getElem hi⟩
    obtain ⟨en, q, hen, hkey, hq, rv⟩ := ent i k v hkv
    obtain ⟨ok, ov, he⟩ := st
    rw [← hsz] at he
    have hlt : it < s.heap.objs.size := Heap.lt_size he
    have hie : i < es'.size := by omega
    have een : es'[i] = en := by
      rw [Array.getElem?_eq_getElem hie] at hen
      exact Option.some.inj hen
    refine wpAny_pyNext_items_item_raw he ⟨o, hgd, hx, hdt⟩ hie fun h' ho hT hz hk => ?_
    refine ⟨_, rfl, wpAny_letOwnedTupleGo_items (s := { s with heap := h' }) ho fun h'' he' sb => ?_⟩
    rw [een] at hT
    have hT2 : h''.get? s.heap.objs.size = some { cls := .type "tuple", data := .seq #[en.key, en.val] } := (sb.2 _ (Nat.ne_of_gt hlt)).trans hT
    rw [hkey] at hT2
    have new : ObjOk X.prog X.w (upd H s.heap.objs.size (.tup [.ref q, v])) h'' s.heap.objs.size (.tup [.ref q, v]) :=
      ⟨by show 2 ≤ sizeLine; decide, [.ref q, en.val], .cons rfl (.cons rv .nil), ⟨_, hT2, rfl, _, rfl⟩⟩
    have I1 : Inv X pins σ (upd H s.heap.objs.size (.tup [.ref q, v])) { s with heap := h'' } :=
      I.turnedNew (t' := s.toks) (ch := [it]) (fun b ob hb e => (sb.2 b (by simpa using hb)).trans (hk b ob (by simpa using hb) e)) hf (Nat.le_refl _) new
    refine ⟨.ref s.heap.objs.size, _, I1, rfl, ⟨_, q, k, v, hkv, rfl, I.hok.fresh (Nat.le_refl _), hq, rfl⟩, ⟨es'[i].key, es'[i].val, ?_⟩, fun b hb => ?_⟩
    · rw [← hsz]; exact he'
    · have e : b = it := by simpa using hb
      rw [e, upd_ne (Nat.ne_of_lt hlt)]
      exact (hf it (by simp)).1
  done := by
    intro X hP hw hK hc i pins s σ H E I hf st hg
    subst hP hw hK
    obtain ⟨hd, hi⟩ := hg
    obtain ⟨f0, f1, f2, f3, f4, f5⟩ := hf it (by simp)
    obtain ⟨hs, hgd, hx, es', ep', hdt, hsz, ent⟩ := Inv.frzTv I hd
    obtain ⟨rfl, rfl⟩ := dict_ep hod hdt
    obtain ⟨ok, ov, he⟩ := st
    rw [← hsz] at he
    exact wpAny_pyNext_items_end_raw (I.ok.hd hc) he ⟨o, hgd, hx, hdt⟩ (by omega) fun h' eb => ⟨rfl, I.turned (t' := s.toks) (fun b ob hb e => eb b ob hb e) f0 f1 f3 f4 f5⟩
  self := fun A i s Q E st h => let ⟨_, _, e⟩ := st; PySem.W.kcp_self e h
def iItemsT (td : TE) : TI := fun σ H R => td σ H fun x H1 => ∃ d o kvs, x = .ref d ∧ H1 d = some (.frz o (.dT kvs)) ∧ R (ItiT d o kvs) H1
theorem pi_itemsT {e : Expr} {td : TE} {apos cpos : Pos} {elts : List Expr} {kk : Nat} {tpos : Pos} (he : PE X e td) (hbase : attributeBase e "items" X.env (eval e X.env) = eval e X.env := by rfl) (hline : (apos.endLine == cpos.line) = true := by rfl) :
    PI X (.Tuple elts kk tpos) (.Call (.Attribute e "items" apos) [] [] cpos) (iItemsT td) := by
  refine ⟨fun pins s σ H R I h => ?_⟩
  refine wpAny_Call_method (T := "dict") (id := "dict.items") hbase rfl hline PySem.F.plainAttrs_dict PySem.F.slot_dict_items PySem.F.type_dict_items (thn (he.run pins s σ H _ I h) fun u s1 ⟨x, H1, I1, rx, d, o, kvs, ex, hd, q⟩ => ?_)
  subst ex
  obtain rfl : u = Value.ref d := rx
  obtain ⟨hs, hgd, hx, es, ep, hdt, hsz, ent⟩ := Inv.frzTv I1 hd
  have hraw : s1.heap.DictRaw d es ep := ⟨o, hgd, hx, hdt⟩
  refine ⟨hraw.typeIs, ?_, ?_⟩
  · intro a e
    cases e
    exact ⟨o, hgd, hx.2.1⟩
  have I2 : Inv X pins σ H1 { s1 with heap := s1.heap.push { cls := .type "dict_items", data := .fields #[.ref d] } } := I1.kept (t' := s1.toks) fun b ob q => Heap.get?_push_of_some _ q
  have fin : wpAny (model X.prog X.w) X.A (pyIter (.ref s1.heap.objs.size)) (PIE X pins σ (.Tuple elts kk tpos) R) X.xe { s1 with heap := s1.heap.push { cls := .type "dict_items", data := .fields #[.ref d] } } := by
    refine wpAny_pyIter_items_raw (d := d) ⟨_, Heap.get?_push_size _ rfl, rfl, rfl⟩ (hraw.at fun ob q => Heap.get?_push_of_some _ q) (pi_one (tk := s1.toks) I2 _ (turn_itemsT _ hdt) ⟨.none, .none, ?_⟩ q)
    rw [← hsz]
    exact Heap.get?_push_size _ rfl
  show wpAny _ _ (callWith cpos (.builtin "dict.items") [.ref d] [] []) _ X.xe s1
  exact method_meetsIn PySem.F.slot_dict_items PySem.F.entry_dict_items rfl (PySem.evalArgs_none ⟨rfl, hraw.typeIs, PySem.F.args_dict_items_1 _, _, meets_dict_items_raw d hs, ⟨⟨es, ep, hraw⟩, fin⟩⟩)
end
/-! ### sorted(d), the dict's keys tuples of itx -/
section
open PySem.Spec
variable {P : Program} {w : World} {A : Around} {E : Value → Shared → Prop} {s : Shared}
theorem kdl_rawD {d : Addr} {es : Array DictEntry} {ep : Nat} (lo : (d == sysModules) = false) : PySem.W.KdlSrc P w "dict" d d es.size (fun i v => ∃ hi : i < es.size, v = es[i].key) (fun h => h.DictRaw d es ep) where
  type := fun _ hm => hm.typeIs
  there := fun _ hm => by
    obtain ⟨o, ho, _⟩ := hm
    exact ⟨Heap.lt_size ho, Heap.lt_size ho⟩
  keep := fun _ _ hm hk => hm.at fun o e => hk d (.inl rfl) o e
  notList := by decide
  notTuple := by decide
  hint := fun _ _ _ _ hm hq => PySem.W.kdl_hint_dict hm.typeIs hq
  iter := fun _ s hh hm => ⟨_, _, (fun _ _ hq => wpAny_pyIter_dict_raw lo hm hq), Walks.rawKeys hh _ d (by obtain ⟨o, ho, _⟩ := hm; exact Nat.ne_of_lt (Heap.lt_size ho)) es ep, ⟨⟨_, Heap.get?_push_size _ rfl, rfl, rfl⟩, hm.at fun o e => Heap.get?_push_of_some _ e⟩⟩
theorem paired_getR {α β : Type} {F : α → β → Prop} : ∀ {l₁ : List α} {l₂ : List β} {i : Nat} {b : β}, Paired F l₁ l₂ → l₂[i]? = some b → ∃ a, l₁[i]? = some a ∧ F a b
  | _, _, _, _, .nil, e => by simp at e
  | _, _, 0, _, .cons h _, e => by
    cases e
    exact ⟨_, rfl, h⟩
  | _, _, i + 1, _, .cons _ r, e => paired_getR (i := i) r e
/-- values that are the addresses of rows -/
theorem rows_at : ∀ {vs : List Value} {L : List (Addr × List Int)}, (∀ v ∈ vs, ∃ q ∈ L, v = Value.ref q.1) → ∃ L1 : List (Addr × List Int), vs = L1.map (fun q => Value.ref q.1) ∧ ∀ q ∈ L1, q ∈ L
  | [], _, _ => ⟨[], rfl, fun _ h => nomatch h⟩
  | v :: vs, L, h => by
    obtain ⟨q, hq, e⟩ := h v List.mem_cons_self
    obtain ⟨L1, e1, h1⟩ := rows_at fun u hu => h u (List.mem_cons_of_mem _ hu)
    refine ⟨q :: L1, by rw [e, e1]; rfl, fun r hr => ?_⟩
    rcases List.mem_cons.mp hr with e | hr
    · rw [e]; exact hq
    · exact h1 r hr
theorem keys_all {es : Array DictEntry} {L : List (Addr × List Int)} {acc : Array Value} (hes : es.toList.map (·.key) = L.map fun q => Value.ref q.1) (hacc : ItemsOf (fun i v => ∃ hi : i < es.size, v = es[i].key) acc es.size) : acc.toList = L.map fun q => Value.ref q.1 := by
  rw [← hes]
  refine List.ext_getElem? fun i => ?_
  rw [Array.getElem?_toList, List.getElem?_map, Array.getElem?_toList]
  cases c : acc[i]? with
  | none =>
    have : es.size ≤ i := by rw [← hacc.1]; exact Array.getElem?_eq_none_iff.mp c
    rw [Array.getElem?_eq_none this]
    rfl
  | some v =>
    obtain ⟨hi, e⟩ := hacc.2 i v c
    rw [Array.getElem?_eq_getElem hi, e]
    rfl
theorem sorted_dictT {a : Addr} {L : List (Addr × List Int)} {es : Array DictEntry} {ep : Nat} {Q : Value → Shared → Prop} (lo : (a == sysModules) = false) (hm : s.heap.DictRaw a es ep) (hes : es.toList.map (·.key) = L.map fun q => Value.ref q.1) (hk : ∀ q ∈ L, IsT P w s.heap q.2 q.1)
    (hh : A.handled = none) (few : L.length < 64) {d : Nat} {B : Int} (hd1 : 1 ≤ d) (hB : ∀ p ∈ L, p.2.length = d ∧ TS.Bd B p.2)
    (hQ : ∀ (h1 h' : Heap) (tk : Nat) (out : Array Value) (c : Nat) (L' : List (Addr × List Int)), (∀ b o, s.heap.get? b = some o → h1.get? b = some o) → (∀ b o, h1.get? b = some o → h'.get? b = some o) → h'.get? h1.objs.size = some (seqObj "list" out c) →
      out.toList = L'.map (fun q => Value.ref q.1) → (∀ q ∈ L', q ∈ L) → (L'.map (·.2)).Perm (L.map (·.2)) → L'.Pairwise (fun q r => TS.code B q.2 ≤ TS.code B r.2) → Q (.ref h1.objs.size) { s with heap := h', toks := tk }) :
    wpAny (model P w) A (call (.builtin "sorted") [.ref a]) Q E s := by
  have esz : es.size = L.length := by
    have q := congrArg List.length hes
    rw [List.length_map, List.length_map, Array.length_toList] at q
    exact q
  refine PySem.Calls.call_function_entry kind_sorted plain_sorted entry_sorted (args_sorted1 _) ?_
  unfold Builtin.«sorted»
  refine wpAny_bind (m := checkCount "sorted" 1 1 _) (wpAny_pure ?_)
  refine wpAny_bind (PySem.W.kdu_collect (A := A.in1) (kdl_rawD lo) hh hm (by rw [esz, sizeLine_eq]; omega) fun h1 tk acc kp hacc => ?_)
  have hvs := keys_all hes hacc
  rw [hvs]
  generalize hv : (L.map fun q => Value.ref q.1) = vs
  have hvl : vs.length < 64 := by rw [← hv, List.length_map]; exact few
  refine wpAny_bind (wpAny_newList ?_ (by rw [sizeLine_eq]; omega))
  have hoL : (h1.push (seqObj "list" vs.toArray 0)).get? h1.objs.size = some (seqObj "list" vs.toArray 0) := Heap.get?_push_size _ rfl
  have tks : ∀ q ∈ L, TS.TupInts (h1.push (seqObj "list" vs.toArray 0)) (.ref q.1) q.2 := fun q hq => tupInts_of (P := P) (w := w) (isT_keep (hk q hq) fun b u e => Heap.get?_push_of_some _ (kp b u e))
  have isv : ∀ v ∈ vs, ∃ q ∈ L, v = Value.ref q.1 := fun v hm => by
    rw [← hv] at hm
    obtain ⟨q, hq, e⟩ := List.mem_map.mp hm
    exact ⟨q, hq, e.symm⟩
  have x : TS.TupsOk (h1.push (seqObj "list" vs.toArray 0)) d B vs := fun v hm => by
    obtain ⟨q, hq, e⟩ := isv v hm
    rw [e]
    exact ⟨q.2, tks q hq, (hB q hq).1, (hB q hq).2⟩
  refine wpAny_bind (wpAny_holding (TS.call_sort_tups (s := { s with heap := h1.push (seqObj "list" vs.toArray 0), toks := tk }) hoL hvl hd1 x fun out a1 a2 => ?_))
  obtain ⟨c, hc⟩ := sortedHeap_at (vs := vs) (out := out) hoL
  obtain ⟨L', e', hs'⟩ := rows_at fun v hm => isv v (a1.mem_iff.mp hm)
  have itx : ∀ q ∈ L, TS.intsOf (h1.push (seqObj "list" vs.toArray 0)) (.ref q.1) = q.2 := fun q hq => (tks q hq).ints
  have map2 : ∀ {M : List (Addr × List Int)}, (∀ q ∈ M, q ∈ L) → (M.map fun q => Value.ref q.1).map (TS.intsOf (h1.push (seqObj "list" vs.toArray 0))) = M.map (·.2) := fun {M} hM => by
    rw [List.map_map]
    exact List.map_congr_left fun q hq => itx q (hM q hq)
  have pm : (L'.map (·.2)).Perm (L.map (·.2)) := by
    rw [← map2 hs', ← map2 (fun q h => h), ← e', hv]
    exact a1.map _
  have pw : L'.Pairwise (fun q r => TS.code B q.2 ≤ TS.code B r.2) := by
    rw [e'] at a2
    refine List.Pairwise.imp_of_mem (fun {q r} hq hr hle => ?_) (List.pairwise_map.mp a2)
    rw [← itx q (hs' q hq), ← itx r (hs' r hr)]
    exact hle
  refine wpAny_pure ⟨_, rfl, hQ h1 (sortedHeap (h1.push (seqObj "list" vs.toArray 0)) h1.objs.size vs out) tk out c L' kp (fun b u e => ?_) hc e' hs' pm pw⟩
  have hlt := Heap.lt_size e
  rw [sortedHeap_old (Nat.ne_of_lt hlt) (by rw [size_push']; exact Nat.lt_succ_of_lt hlt)]
  exact Heap.get?_push_of_some _ e
/-- sorted(d): the keys are tuples of d ints in [0, B) -/
def rSortedD (K : PySem.W.Frag) (dd : Nat) (B : Int) : List V → Hp → VK → Prop := fun vs H Q => ∃ (a : Addr) (kvs : List (List L2.Key × V)) (gs : List (List Int)), vs = [V.ref a] ∧ H a = some (.dT kvs) ∧ kvs.map (·.1) = gs.map (fun g => g.map (Sum.inl (β := Str))) ∧ gs.length < 64 ∧
  (∀ g ∈ gs, g.length = dd ∧ TS.Bd B g) ∧
  ∀ (L' : List (Addr × List Int)) (p : Addr), (∀ q ∈ L', H q.1 = some (.tup (q.2.map V.int))) → (L'.map (·.2)).Perm gs → L'.Pairwise (fun q r => TS.code B q.2 ≤ TS.code B r.2) → H p = none → Q (.ref p) (upd H p (.lst (L'.map fun q => V.ref q.1)))
/-- the keys of a dict of tuples, as they lie -/
theorem dT_rows {X : Cx} {pins : List (Addr × Obj)} {σ : L2.St} {H : Hp} {s : Shared} {a : Addr} {kvs : List (List L2.Key × V)} {gs : List (List Int)} (I : Inv X pins σ H s) (ha : H a = some (.dT kvs)) (hkg : kvs.map (·.1) = gs.map (fun g => g.map (Sum.inl (β := Str)))) :
    ∃ (L : List (Addr × List Int)) (es : Array DictEntry) (ep : Nat), (a == sysModules) = false ∧ s.heap.DictRaw a es ep ∧ es.toList.map (·.key) = L.map (fun q => Value.ref q.1) ∧ L.map (·.2) = gs ∧ ∀ p ∈ L, H p.1 = some (.tup (p.2.map V.int)) := by
  obtain ⟨z, lo, xs, pr, o, es, ep, ho, hx, hdt, he, _⟩ := I.hok a _ ha
  have lx : kvs.length = xs.length := pr.length
  have lg : kvs.length = gs.length := by
    have q := congrArg List.length hkg
    rw [List.length_map, List.length_map] at q
    exact q
  have lz : (xs.map fun x => x.2.1).length = gs.length := by rw [List.length_map]; omega
  have hL1 : ((xs.map fun x => x.2.1).zip gs).map (·.1) = xs.map fun x => x.2.1 := List.map_fst_zip (by omega)
  have hL2 : ((xs.map fun x => x.2.1).zip gs).map (·.2) = gs := List.map_snd_zip (by omega)
  generalize (xs.map fun x => x.2.1).zip gs = L at hL1 hL2
  refine ⟨L, es, ep, lo, ⟨o, ho, hx, hdt⟩, ?_, hL2, ?_⟩
  · have : (L.map fun q => Value.ref q.1) = (L.map (·.1)).map Value.ref := by rw [List.map_map]; rfl
    rw [this, hL1, he, List.map_map, List.map_map]
    rfl
  · intro p hp
    obtain ⟨i, hi, e⟩ := List.getElem_of_mem hp
    have e1 : (xs.map fun x => x.2.1)[i]? = some p.1 := by rw [← hL1, List.getElem?_map, List.getElem?_eq_getElem hi, e]; rfl
    have e2 : gs[i]? = some p.2 := by rw [← hL2, List.getElem?_map, List.getElem?_eq_getElem hi, e]; rfl
    rw [List.getElem?_map] at e1
    obtain ⟨x, ex, e1⟩ := Option.map_eq_some_iff.mp e1
    obtain ⟨y, ey, r1, r2, _⟩ := paired_getR pr ex
    have e3 : (gs.map (fun g => g.map (Sum.inl (β := Str))))[i]? = some y.1 := by rw [← hkg, List.getElem?_map, ey]; rfl
    rw [List.getElem?_map, e2] at e3
    have e4 : p.2.map Sum.inl = y.1 := Option.some.inj e3
    rw [← e4, List.map_map] at r2
    rw [← e1]
    exact r2
theorem cr_sortedD {X : Cx} {dd : Nat} {B : Int} (hc : X.calm = true) (h1 : 1 ≤ dd) : CallR X (.builtin "sorted") (rSortedD X.K dd B) := by
  intro pins s σ H vs us Q I r h
  obtain ⟨a, kvs, gs, rfl, ha, hkg, few, hB, q⟩ := h
  rw [Vals.ref1 r]
  obtain ⟨L, es, ep, lo, raw, hes, hL2, sq⟩ := dT_rows I ha hkg
  refine sorted_dictT (P := X.prog) (w := X.w) (L := L) lo raw hes (fun p hp => I.isT (SqT.of (sq p hp))) (I.ok.hd hc) (by have := congrArg List.length hL2; rw [List.length_map] at this; omega) h1 (fun p hp => hB p.2 (by rw [← hL2]; exact List.mem_map.mpr ⟨p, hp, rfl⟩)) fun hm h' tk out c L' k1 k2 hg hout hs' pm pw => ?_
  rw [hL2] at pm
  have I1 : Inv X pins σ H { s with heap := hm } := I.kept (t' := s.toks) k1
  have hn : H hm.objs.size = none := I1.hok.fresh (Nat.le_refl _)
  have hlen : (L'.map fun q => V.ref q.1).length ≤ sizeLine := by
    have := pm.length_eq
    rw [List.length_map] at this
    rw [List.length_map, sizeLine_eq]
    omega
  have hv : Vals (L'.map fun q => V.ref q.1) out.toList := by rw [hout]; exact vals_of_refs L'
  have J : Inv X pins σ (upd H hm.objs.size (.lst (L'.map fun q => V.ref q.1))) { s with heap := h', toks := tk } := I1.laid (t' := tk) k2 (Nat.le_refl _) ⟨hlen, out.toList, c, hv, hg⟩
  exact ⟨.ref hm.objs.size, _, J, rfl, q L' _ (fun p hp => sq p (hs' p hp)) pm pw hn⟩
/-- list(d): its keys, tuples of ints -/
def rListD : List V → Hp → VK → Prop := fun vs H Q => ∃ (a : Addr) (kvs : List (List L2.Key × V)) (gs : List (List Int)), vs = [V.ref a] ∧ H a = some (.dT kvs) ∧ kvs.map (·.1) = gs.map (fun g => g.map (Sum.inl (β := Str))) ∧ gs.length ≤ 1000 ∧
  ∀ (L : List (Addr × List Int)) (p : Addr), (∀ q ∈ L, H q.1 = some (.tup (q.2.map V.int))) → L.map (·.2) = gs → H p = none → Q (.ref p) (upd H p (.lst (L.map fun q => V.ref q.1)))
theorem cr_listD {X : Cx} (hc : X.calm = true) : CallR X (.type "list") rListD := by
  intro pins s σ H vs us Q I r h
  obtain ⟨a, kvs, gs, rfl, ha, hkg, few, q⟩ := h
  rw [Vals.ref1 r]
  obtain ⟨L, es, ep, lo, raw, hes, hL2, sq⟩ := dT_rows I ha hkg
  have esz : es.size = L.length := by
    have q := congrArg List.length hes
    rw [List.length_map, List.length_map, Array.length_toList] at q
    exact q
  have lL : L.length = gs.length := by rw [← hL2, List.length_map]
  refine PySem.W.kdl_call (kdl_rawD lo) (I.ok.hd hc) raw (by rw [esz, sizeLine_eq]; omega) fun h' tk acc c kp hg hacc => ?_
  have hvs := keys_all hes hacc
  have hn : H s.heap.objs.size = none := I.hok.fresh (Nat.le_refl _)
  have hv : Vals (L.map fun q => V.ref q.1) acc.toList := by rw [hvs]; exact vals_of_refs L
  have J : Inv X pins σ (upd H s.heap.objs.size (.lst (L.map fun q => V.ref q.1))) { s with heap := h', toks := tk } := I.laid (t' := tk) kp (Nat.le_refl _) ⟨by rw [List.length_map, sizeLine_eq]; omega, acc.toList, c, hv, by rw [Array.toArray_toList]; exact hg⟩
  exact ⟨.ref s.heap.objs.size, _, J, rfl, q L _ sq hL2 hn⟩
end
section
/-- what e makes is locked for good -/
theorem pe_frz {X : Cx} {e : Expr} {t : TE} (h : PE X e t) : PE X e (fun σ H Q => t σ H fun x H1 => ∃ d u, x = .ref d ∧ H1 d = some u ∧ Mut (some u) ∧ ∀ od, Q x (upd H1 d (.frz od u))) := by
  constructor
  intro pins s σ H Q I hw
  refine thn (h.run pins s σ H _ I hw) fun v s1 got => ?_
  obtain ⟨x, H1, I1, r, d, u, ex, hd, mu, q⟩ := got
  obtain ⟨od, I2⟩ := I1.lock hd mu
  exact ⟨x, _, I2, r, q od⟩
end
/-! ### d.values(), the dict's keys tuples: their sum, a list of them -/
section
open PySem.Spec
theorem preSum_get (is : List Int) : ∀ n, n ≤ is.length → PySem.preSum (fun i => is.getD i 0) n = (is.take n).sum
  | 0, _ => by rw [List.take_zero]; rfl
  | n + 1, h => by
    show PySem.preSum (fun i => is.getD i 0) n + is.getD n 0 = _
    rw [preSum_get is n (by omega), List.take_add_one, List.sum_append, List.getD_eq_getElem?_getD, List.getElem?_eq_getElem (by omega)]
    simp
def tSumVals (td : TE) : TE := fun σ H Q => td σ H fun x H1 => ∃ (a : Addr) (kvs : List (List L2.Key × V)) (is : List Int), x = V.ref a ∧ H1 a = some (.dT kvs) ∧ kvs.map (·.2) = is.map V.int ∧ Q (.int is.sum) H1
def tLstVals (td : TE) : TE := fun σ H Q => td σ H fun x H1 => ∃ (a : Addr) (kvs : List (List L2.Key × V)), x = V.ref a ∧ H1 a = some (.dT kvs) ∧ kvs.length ≤ 1000 ∧ ∀ p, H1 p = none → Q (.ref p) (upd H1 p (.lst (kvs.map (·.2))))
theorem vals_getR {l₁ : List V} {l₂ : List Value} : ∀ {i : Nat} {b : Value}, Vals l₁ l₂ → l₂[i]? = some b → ∃ a, l₁[i]? = some a ∧ RelV a b := by
  intro i b h
  induction h generalizing i with
  | nil => intro e; simp at e
  | cons h t ih =>
    intro e
    cases i with
    | zero => cases e; exact ⟨_, rfl, h⟩
    | succ i => exact ih e
variable {X : Cx} {o : Expr} {p pos apos mpos : Pos} {td : TE}
theorem dT_vals0 {X : Cx} {H : Hp} : ∀ {kvs : List (List L2.Key × V)} {xs : List (List L2.Key × Addr × Value)}, Paired (fun p q => p.fst = q.fst ∧ H q.snd.fst = some (HO.tup (List.map kV p.fst)) ∧ L2.RelV p.snd q.snd.snd) kvs xs →
    Vals (kvs.map (·.2)) (xs.map ((fun x => x.val) ∘ entryOfKey (tupleKind (mixKind X.prog X.w))))
  | _, _, .nil => .nil
  | _, _, .cons h t => .cons h.2.2 (dT_vals0 t)
/-- the entries of a dict of tuples -/
theorem dT_vals {pins : List (Addr × Obj)} {σ : L2.St} {H : Hp} {s : Shared} {a : Addr} {kvs : List (List L2.Key × V)} (I : Inv X pins σ H s) (ha : H a = some (.dT kvs)) :
    ∃ (es : Array DictEntry) (ep : Nat), (a == sysModules) = false ∧ s.heap.DictRaw a es ep ∧ Vals (kvs.map (·.2)) (es.toList.map (·.val)) := by
  obtain ⟨z, lo, xs, pr, ob, es, ep, ho, hx, hdt, he, _⟩ := I.hok a _ ha
  refine ⟨es, ep, lo, ⟨ob, ho, hx, hdt⟩, ?_⟩
  rw [he, List.map_map]
  exact dT_vals0 pr
theorem pe_sumVals (hc : X.calm = true) (hg : Gl X "sum") (hm : X.mg "sum" = none) (hd : PE X o td) (hbase : attributeBase o "values" X.env (eval o X.env) = eval o X.env := by rfl) (hline : (apos.endLine == mpos.line) = true := by rfl)
    (hse : starEach [Expr.Call (.Attribute o "values" apos) [] [] mpos] X.env = [(false, eval (Expr.Call (.Attribute o "values" apos) [] [] mpos) X.env)] := by rfl) :
    PE X (.Call (.Name "sum" p) [.Call (.Attribute o "values" apos) [] [] mpos] [] pos) (tSumVals td) := by
  refine ⟨fun pins s σ H Q I h => ?_⟩
  refine wpAny_Call_Name_kw (ld_blt I hg hm (u := .builtin "sum") (by first | rfl | decide +kernel) ?_ (by first | decide +kernel | decide) (by first | decide +kernel | decide))
  rw [hse]
  refine PySem.callWith_builtin1 (wpAny_Call_method0_late hbase hline (thn (hd.run pins s σ H _ I h) fun v s1 ⟨x, H1, I1, r1, a, kvs, is, ex, ha, hv, q⟩ => ?_))
  subst ex
  obtain rfl : v = Value.ref a := r1
  obtain ⟨es, ep, hsys, raw, vs⟩ := dT_vals I1 ha
  obtain ⟨ob, ho, ex, hdat⟩ := id raw
  refine ⟨"dict", "dict.values", F.plainAttrs_dict, F.slot_dict_values, F.type_dict_values, ⟨ob, ho, ex.1⟩, fun b e => ?_, Calls.callWith_builtin rfl (PySem.evalArgs_none ?_)⟩
  · cases e
    exact ⟨ob, ho, ex.2.1⟩
  refine call_meetsIn F.slot_dict_values ⟨ob, ho, ex.1⟩ F.entry_dict_values (F.args_dict_values_1 _) (meets_dict_values_raw a hsys) ⟨⟨es, ep, raw⟩, ?_⟩
  have I2 : Inv X pins σ H1 { s1 with heap := s1.heap.push { cls := .type "dict_values", data := .fields #[.ref a] } } := I1.kept (t' := s1.toks) fun b ob q => Heap.get?_push_of_some _ q
  have raw2 : (s1.heap.push { cls := .type "dict_values", data := .fields #[.ref a] }).DictRaw a es ep := raw.at fun ob e => Heap.get?_push_of_some _ e
  have hview : (s1.heap.push { cls := .type "dict_values", data := .fields #[.ref a] }).IsValuesView s1.heap.objs.size a := ⟨_, Heap.get?_push_size _ rfl, rfl, rfl⟩
  have lv : es.size = is.length := by
    have e1 := vs.length
    have e2 := congrArg List.length hv
    simp only [List.length_map, Array.length_toList] at e1 e2
    omega
  have src := KdlSrc.rawValues (prog := X.prog) (w := X.w) (r := s1.heap.objs.size) (d := a) (es := es) (ep := ep)
  refine call_sum_walkAnyS ?_
  have hok := And.intro hview raw2
  obtain ⟨oI, St, hit, W, st⟩ := src.iter X.A.in1 { s1 with heap := s1.heap.push { cls := .type "dict_values", data := .fields #[.ref a] } } (I2.ok.hd hc) hok
  have old := src.there _ hok
  refine hit _ _ ⟨_, _, _, _, es.size, _, _, (fun i => is.getD i 0), rfl, W.toS, st, fun b hb => ?_, fun i v hiv => ?_, fun s' t' hm => ?_⟩
  · show b < ((s1.heap.push _).push oI).objs.size
    rw [Heap.size_push]
    rcases List.mem_cons.mp hb with e | hb
    · rw [e]; exact Nat.lt_succ_self _
    · rw [List.mem_singleton.mp hb]; exact Nat.lt_succ_of_lt old.2
  · obtain ⟨hi, ev⟩ := hiv
    rw [hv] at vs
    obtain ⟨x, h1, h2⟩ := vals_getR (i := i) (b := v) vs (by rw [List.getElem?_map, Array.getElem?_toList, Array.getElem?_eq_getElem hi, ev]; rfl)
    rw [List.getElem?_map] at h1
    obtain ⟨z, hz, rfl⟩ := Option.map_eq_some_iff.mp h1
    obtain ⟨t, e⟩ := h2
    refine ⟨t, ?_⟩
    show v = Value.int (is.getD i 0) t
    rw [e, List.getD_eq_getElem?_getD, hz]
    rfl
  · have hk : ∀ b o, s1.heap.get? b = some o → s'.heap.get? b = some o := fun b o e => by
      have e1 : (s1.heap.push { cls := .type "dict_values", data := .fields #[.ref a] }).get? b = some o := Heap.get?_push_of_some _ e
      refine hm.heap b o (fun hI => ?_) (Heap.get?_push_of_some _ e1)
      have := Heap.lt_size e1
      rw [List.mem_singleton.mp hI] at this
      exact Nat.lt_irrefl _ this
    rw [Moved.eq_with hm]
    refine ⟨.int is.sum, H1, I1.kept (t' := s'.toks) hk, ⟨t', ?_⟩, q⟩
    rw [preSum_get is es.size (by omega), lv, List.take_length]
/-- list(d.values()) -/
theorem pe_lstVals (hc : X.calm = true) (hg : Gl X "list") (hm : X.mg "list" = none) (hd : PE X o td) (hbase : attributeBase o "values" X.env (eval o X.env) = eval o X.env := by rfl) (hline : (apos.endLine == mpos.line) = true := by rfl)
    (hse : starEach [Expr.Call (.Attribute o "values" apos) [] [] mpos] X.env = [(false, eval (Expr.Call (.Attribute o "values" apos) [] [] mpos) X.env)] := by rfl) :
    PE X (.Call (.Name "list" p) [.Call (.Attribute o "values" apos) [] [] mpos] [] pos) (tLstVals td) := by
  refine ⟨fun pins s σ H Q I h => ?_⟩
  refine wpAny_Call_Name_kw (ld_blt I hg hm (u := .type "list") (by first | rfl | decide +kernel) ?_ (by first | decide +kernel | decide) (by first | decide +kernel | decide))
  rw [hse]
  refine PySem.callWith_type1 (wpAny_Call_method0_late hbase hline (thn (hd.run pins s σ H _ I h) fun v s1 ⟨x, H1, I1, r1, a, kvs, ex, ha, few, q⟩ => ?_))
  subst ex
  obtain rfl : v = Value.ref a := r1
  obtain ⟨es, ep, hsys, raw, vs⟩ := dT_vals I1 ha
  obtain ⟨ob, ho, ex, hdat⟩ := id raw
  refine ⟨"dict", "dict.values", F.plainAttrs_dict, F.slot_dict_values, F.type_dict_values, ⟨ob, ho, ex.1⟩, fun b e => ?_, Calls.callWith_builtin rfl (PySem.evalArgs_none ?_)⟩
  · cases e
    exact ⟨ob, ho, ex.2.1⟩
  refine call_meetsIn F.slot_dict_values ⟨ob, ho, ex.1⟩ F.entry_dict_values (F.args_dict_values_1 _) (meets_dict_values_raw a hsys) ⟨⟨es, ep, raw⟩, ?_⟩
  have kp0 : ∀ b u, s1.heap.get? b = some u → (s1.heap.push { cls := .type "dict_values", data := .fields #[.ref a] }).get? b = some u := fun b ob q => Heap.get?_push_of_some _ q
  have I2 : Inv X pins σ H1 { s1 with heap := s1.heap.push { cls := .type "dict_values", data := .fields #[.ref a] } } := I1.kept (t' := s1.toks) kp0
  have raw2 : (s1.heap.push { cls := .type "dict_values", data := .fields #[.ref a] }).DictRaw a es ep := raw.at fun ob e => Heap.get?_push_of_some _ e
  have hview : (s1.heap.push { cls := .type "dict_values", data := .fields #[.ref a] }).IsValuesView s1.heap.objs.size a := ⟨_, Heap.get?_push_size _ rfl, rfl, rfl⟩
  have lv : es.size = kvs.length := by
    have e1 := vs.length
    simp only [List.length_map, Array.length_toList] at e1
    omega
  refine PySem.W.kdl_call (KdlSrc.rawValues (es := es) (ep := ep)) (I2.ok.hd hc) ⟨hview, raw2⟩ (by rw [lv, sizeLine_eq]; omega) fun h' tk acc c kp hg hacc => ?_
  have hv : Vals (kvs.map (·.2)) acc.toList := by
    have e : acc.toList = es.toList.map (·.val) := by
      refine List.ext_getElem? fun i => ?_
      rw [Array.getElem?_toList, List.getElem?_map, Array.getElem?_toList]
      cases c : acc[i]? with
      | none =>
        have : es.size ≤ i := by rw [← hacc.1]; exact Array.getElem?_eq_none_iff.mp c
        rw [Array.getElem?_eq_none this]
        rfl
      | some v =>
        obtain ⟨hi, e⟩ := hacc.2 i v c
        rw [Array.getElem?_eq_getElem hi, e]
        rfl
    rw [e]
    exact vs
  have hn : H1 (s1.heap.push { cls := .type "dict_values", data := .fields #[.ref a] }).objs.size = none := I2.hok.fresh (Nat.le_refl _)
  have J : Inv X pins σ (upd H1 (s1.heap.push { cls := .type "dict_values", data := .fields #[.ref a] }).objs.size (.lst (kvs.map (·.2)))) { s1 with heap := h', toks := tk } := I2.laid (t' := tk) kp (Nat.le_refl _) ⟨by rw [List.length_map, sizeLine_eq]; omega, acc.toList, c, hv, by rw [Array.toArray_toList]; exact hg⟩
  exact ⟨.ref (s1.heap.push { cls := .type "dict_values", data := .fields #[.ref a] }).objs.size, _, J, rfl, q _ hn⟩
end
section
/-! ### t * 1: the same tuple -/
theorem tuple_mulSame (l : Addr) (items : Array Value) (n : Nat) (dd : Option Addr) (sl : Array (Option Value)) (u : Tok) :
    Meets (Builtin.«tuple.__mul__» ⟨[.ref l, .int 1 u], []⟩) (fun _ R s => s.heap.get? l = some { cls := .type "tuple", dict := dd, data := .seq items n, slots := sl } ∧ R (.ok (.ret (Value.ref l))) s) :=
  .of_wp fun prog w A R s h => by
    obtain ⟨hp, g, d, tk, os⟩ := s
    obtain ⟨hl, h⟩ := h
    have f1 := AutoSeq1.idx_int
    have c0 : (decide ((1 : Int) < -(2 ^ 63)) || decide ((1 : Int) ≥ 2 ^ 63)) = false := by decide
    have c1 : (items.isEmpty || (1 : Int) == 1) = true := by rw [show ((1 : Int) == 1) = true by decide, Bool.or_true]
    wp_walk using wpAny_loadPart' hl
    repeat (first
      | (refine wpAny_ite_false (decide_eq_false (by rw [c0]; exact Bool.false_ne_true)) ?_; wp_walk using wpAny_loadPart' hl)
      | (refine wpAny_ite_true (decide_eq_true (by rw [c1])) ?_; wp_walk using wpAny_loadPart' hl))
    exact ⟨_, rfl, h⟩
variable {X : Cx}
def rRepSame (K : PySem.W.Frag) : R2 := fun x y H Q => ∃ l xs, x = .ref l ∧ y = .int 1 ∧ SqT K H l xs ∧ xs ≠ [] ∧ Q (.ref l) H
theorem op_repSame : OpR X (binaryOp .Mult) (rRepSame X.K) := by
  intro pins s σ H x y v u Q I rx ry h
  obtain ⟨l, xs, rfl, rfl, hT, hne, q⟩ := h
  cases rx
  obtain ⟨t, rfl⟩ := ry
  obtain ⟨its, r, ⟨⟨cls, dd, data, sl⟩, ho, hc, n, hd⟩, hs⟩ := I.tuple hT
  simp only at hc hd
  subst hc hd
  refine wpAny_binaryOp_repeat_ref (T := "tuple") (U := "int") (by decide) ⟨_, ho, rfl⟩ (fun s' => typeIs_int s' 1 t) noFill_tuple_mul F.fills_int_mul F.slot_int_rmul repeat_tuple F.slot_int_index.lookup
    (call_meets F.slot_int_rmul (typeIs_int s 1 t) F.entry_int_rmul (F.args_int_rmul_2 _ _) (int_rmul_tuple 1 t l its.toArray n dd sl)
      ⟨ho, rfl, ⟨_, ho, rfl⟩, call_meets F.slot_tuple_mul ⟨_, ho, rfl⟩ F.entry_tuple_mul (F.args_tuple_mul_2 _ _) (tuple_mulSame l its.toArray n dd sl t) ⟨ho, ?_⟩⟩)
  exact ⟨.ref l, H, I, rfl, q⟩
theorem op_or {op : Value → Value → Sem Value} {r1 r2 : R2} (h1 : OpR X op r1) (h2 : OpR X op r2) : OpR X op (fun x y H Q => r1 x y H Q ∨ r2 x y H Q) := by
  intro pins s σ H x y v u Q I rx ry h
  rcases h with h | h
  · exact h1 pins s σ H x y v u Q I rx ry h
  · exact h2 pins s σ H x y v u Q I rx ry h
/-- t * k, k from 1 -/
def rRepAny (K : PySem.W.Frag) : R2 := fun x y H Q => rRepSame K x y H Q ∨ rRepT K x y H Q
theorem op_repAny : OpR X (binaryOp .Mult) (rRepAny X.K) := op_or op_repSame op_repT
/-- one int, so many times -/
theorem rep_ints {K : PySem.W.Frag} {H : Hp} {l : Addr} {p : Int} {k : Nat} {Q : VK} (hl : H l = some (.tup [.int p])) (h1 : 1 ≤ k) (h2 : k ≤ 1000) (h : ∀ a H', Same H H' → H' a = some (.tup ((List.replicate k p).map V.int)) → Q (.ref a) H') : rRepAny K (.ref l) (.int (k : Int)) H Q := by
  by_cases e : k = 1
  · subst e
    exact .inl ⟨l, _, rfl, rfl, SqT.of hl, List.cons_ne_nil _ _, h l H (fun b o e => e) hl⟩
  · refine .inr ⟨l, _, _, rfl, rfl, SqT.of hl, List.cons_ne_nil _ _, by omega, by omega, (by show 1 ≤ 1000; decide), fun a na => h a _ (fun b o e => ?_) ?_⟩
    · rw [upd_ne (ne_of_none e na)]
      exact e
    · rw [upd_same, Int.toNat_natCast]
      have : ∀ n : Nat, (List.replicate n [V.int p]).flatten = (List.replicate n p).map V.int := fun n => by
        induction n with
        | zero => rfl
        | succ n ih => rw [List.replicate_succ, List.flatten_cons, ih, List.replicate_succ, List.map_cons]; rfl
      rw [this]
end
/-! ### alternating forms: of so many vectors, at so many places -/
section
/-- a sum over the numbers below n -/
def sumN : Nat → (Nat → Int) → Int
  | 0, _ => 0
  | n + 1, f => sumN n f + f n
theorem sumN_congr {f g : Nat → Int} : ∀ {n : Nat}, (∀ m, m < n → f m = g m) → sumN n f = sumN n g
  | 0, _ => rfl
  | n + 1, h => by
    unfold sumN
    rw [sumN_congr fun m hm => h m (Nat.lt_succ_of_lt hm), h n (Nat.lt_succ_self n)]
theorem sumN_zero : ∀ (n : Nat), sumN n (fun _ => 0) = 0
  | 0 => rfl
  | n + 1 => by unfold sumN; rw [sumN_zero n]; rfl
theorem sumN_none {f : Nat → Int} {n : Nat} (h : ∀ m, m < n → f m = 0) : sumN n f = 0 := (sumN_congr h).trans (sumN_zero n)
theorem sumN_add (f g : Nat → Int) : ∀ (n : Nat), sumN n (fun m => f m + g m) = sumN n f + sumN n g
  | 0 => rfl
  | n + 1 => by
    show sumN n (fun m => f m + g m) + (f n + g n) = (sumN n f + f n) + (sumN n g + g n)
    rw [sumN_add f g n]; omega
theorem sumN_sub (f g : Nat → Int) : ∀ (n : Nat), sumN n (fun m => f m - g m) = sumN n f - sumN n g
  | 0 => rfl
  | n + 1 => by
    show sumN n (fun m => f m - g m) + (f n - g n) = (sumN n f + f n) - (sumN n g + g n)
    rw [sumN_sub f g n]; omega
theorem sumN_mul (k : Int) (f : Nat → Int) : ∀ (n : Nat), sumN n (fun m => k * f m) = k * sumN n f
  | 0 => (Int.mul_zero k).symm
  | n + 1 => by unfold sumN; rw [sumN_mul k f n, Int.mul_add]
theorem sumN_one {f : Nat → Int} {i : Nat} : ∀ {n : Nat}, i < n → (∀ m, m < n → m ≠ i → f m = 0) → sumN n f = f i
  | 0, h, _ => absurd h (Nat.not_lt_zero _)
  | n + 1, h, z => by
    unfold sumN
    by_cases e : i = n
    · rw [sumN_none fun m hm => z m (by omega) (by omega), e]
      exact Int.zero_add _
    · rw [sumN_one (i := i) (by omega) fun m hm => z m (by omega), z n (by omega) (by omega)]
      exact Int.add_zero _
theorem sumN_two {f : Nat → Int} {i k n : Nat} (hi : i < n) (hk : k < n) (ne : i ≠ k) (z : ∀ m, m < n → m ≠ i → m ≠ k → f m = 0) : sumN n f = f i + f k := by
  have e : sumN n f = sumN n (fun m => (if m = i then f i else 0) + (if m = k then f k else 0)) := sumN_congr fun m hm => by
    by_cases a : m = i
    · rw [if_pos a, if_neg (by omega), a]; omega
    · by_cases b : m = k
      · rw [if_neg a, if_pos b, b]; omega
      · rw [if_neg a, if_neg b, z m hm a b]; rfl
  rw [e, sumN_add, sumN_one hi (fun m _ h => if_neg h), sumN_one hk (fun m _ h => if_neg h), if_pos rfl, if_pos rfl]
abbrev Ve := Nat → Int
def vadd (u v : Ve) : Ve := fun c => u c + v c
def vmul (k : Int) (v : Ve) : Ve := fun c => k * v c
def lap (v : Ve) (F : List Nat → Int) : List Nat → Int
  | [] => 0
  | c :: cs => v c * F cs - lap v (fun r => F (c :: r)) cs
theorem lap_congr {u v : Ve} : ∀ {cs : List Nat} {F G : List Nat → Int}, (∀ c ∈ cs, u c = v c) → (∀ r, r ⊆ cs → F r = G r) → lap u F cs = lap v G cs
  | [], _, _, _, _ => rfl
  | c :: cs, F, G, h, hF => by
    unfold lap
    rw [h c List.mem_cons_self, hF cs (List.subset_cons_self c cs), lap_congr (F := fun r => F (c :: r)) (G := fun r => G (c :: r)) (fun x hx => h x (List.mem_cons_of_mem _ hx)) fun r hr => hF _ (List.cons_subset.mpr ⟨List.mem_cons_self, fun x hx => List.mem_cons_of_mem _ (hr hx)⟩)]
theorem lap_addF (v : Ve) : ∀ (cs : List Nat) (F G : List Nat → Int), lap v (fun r => F r + G r) cs = lap v F cs + lap v G cs
  | [], _, _ => rfl
  | c :: cs, F, G => by
    unfold lap
    rw [lap_addF v cs (fun r => F (c :: r)) (fun r => G (c :: r)), Int.mul_add]
    omega
theorem lap_mulF (v : Ve) (k : Int) : ∀ (cs : List Nat) (F : List Nat → Int), lap v (fun r => k * F r) cs = k * lap v F cs
  | [], _ => (Int.mul_zero k).symm
  | c :: cs, F => by
    unfold lap
    rw [lap_mulF v k cs (fun r => F (c :: r))]
    grind
theorem lap_zeroF (v : Ve) (cs : List Nat) : lap v (fun _ => 0) cs = 0 := by
  have h := lap_mulF v 0 cs (fun _ => 0)
  rw [Int.zero_mul] at h
  simpa using h
theorem lap_addv (u v : Ve) : ∀ (cs : List Nat) (F : List Nat → Int), lap (vadd u v) F cs = lap u F cs + lap v F cs
  | [], _ => rfl
  | c :: cs, F => by
    unfold lap
    rw [lap_addv u v cs (fun r => F (c :: r)), show vadd u v c = u c + v c from rfl, Int.add_mul]
    omega
theorem lap_mulv (k : Int) (v : Ve) : ∀ (cs : List Nat) (F : List Nat → Int), lap (vmul k v) F cs = k * lap v F cs
  | [], _ => (Int.mul_zero k).symm
  | c :: cs, F => by
    unfold lap
    rw [lap_mulv k v cs (fun r => F (c :: r)), show vmul k v c = k * v c from rfl]
    grind
theorem lap_subF (v : Ve) (cs : List Nat) (F G : List Nat → Int) : lap v (fun r => F r - G r) cs = lap v F cs - lap v G cs := by
  have e : (fun r => F r - G r) = fun r => F r + (-1) * G r := funext fun r => by omega
  rw [e, lap_addF v cs F (fun r => (-1) * G r), lap_mulF]
  omega
/-- the same vector twice -/
theorem lap_lap (v : Ve) : ∀ (cs : List Nat) (F : List Nat → Int), lap v (lap v F) cs = 0
  | [], _ => rfl
  | c :: cs, F => by
    have e : (fun r => lap v F (c :: r)) = fun r => v c * F r - lap v (fun r' => F (c :: r')) r := rfl
    show v c * lap v F cs - lap v (fun r => lap v F (c :: r)) cs = 0
    rw [e, lap_subF v cs (fun r => v c * F r) (lap v fun r' => F (c :: r')), lap_mulF, lap_lap v cs]
    omega
/-- two vectors exchanged -/
theorem lap_swap (u v : Ve) (cs : List Nat) (F : List Nat → Int) : lap u (lap v F) cs = -lap v (lap u F) cs := by
  have h := lap_lap (vadd u v) cs F
  have e : lap (vadd u v) F = fun r => lap u F r + lap v F r := funext fun r => lap_addv u v r F
  rw [e, lap_addv, lap_addF, lap_addF, lap_lap, lap_lap] at h
  omega
def wed : List Ve → List Nat → Int
  | [] => fun cs => if cs = [] then 1 else 0
  | v :: vs => lap v (wed vs)
theorem wed_mem {v : Ve} : ∀ {vs : List Ve}, v ∈ vs → ∀ cs, lap v (wed vs) cs = 0
  | [], h, _ => nomatch h
  | u :: vs, h, cs => by
    rcases List.mem_cons.mp h with e | h
    · rw [e]; exact lap_lap u cs (wed vs)
    · show lap v (lap u (wed vs)) cs = 0
      rw [lap_swap, show lap v (wed vs) = fun _ => 0 from funext fun r => wed_mem h r, lap_zeroF]
      rfl
/-- a vector stands twice -/
theorem wed_rep : ∀ {vs : List Ve} {i k : Nat} {v : Ve}, i < k → vs[i]? = some v → vs[k]? = some v → ∀ cs, wed vs cs = 0
  | [], _, _, _, _, h, _, _ => by simp at h
  | u :: vs, 0, k + 1, v, _, h1, h2, cs => by
    have e : u = v := by simpa using h1
    rw [← e] at h2
    exact wed_mem (List.mem_of_getElem? (show vs[k]? = some u by simpa using h2)) cs
  | u :: vs, i + 1, k + 1, v, h, h1, h2, cs => by
    show lap u (wed vs) cs = 0
    rw [show wed vs = fun _ => 0 from funext fun r => wed_rep (i := i) (k := k) (by omega) (by simpa using h1) (by simpa using h2) r]
    exact lap_zeroF u cs
theorem wed_rep' {vs : List Ve} {i k : Nat} {v : Ve} (ne : i ≠ k) (h1 : vs[i]? = some v) (h2 : vs[k]? = some v) (cs : List Nat) : wed vs cs = 0 := by
  rcases Nat.lt_or_gt_of_ne ne with h | h
  · exact wed_rep h h1 h2 cs
  · exact wed_rep h h2 h1 cs
theorem wed_add (u v : Ve) : ∀ (vs : List Ve) (i : Nat), i < vs.length → ∀ cs, wed (vs.set i (vadd u v)) cs = wed (vs.set i u) cs + wed (vs.set i v) cs
  | [], _, h, _ => absurd h (Nat.not_lt_zero _)
  | x :: vs, 0, _, cs => lap_addv u v cs (wed vs)
  | x :: vs, i + 1, h, cs => by
    show lap x (wed (vs.set i (vadd u v))) cs = lap x (wed (vs.set i u)) cs + lap x (wed (vs.set i v)) cs
    rw [← lap_addF, show wed (vs.set i (vadd u v)) = fun r => wed (vs.set i u) r + wed (vs.set i v) r from funext fun r => wed_add u v vs i (Nat.lt_of_succ_lt_succ h) r]
theorem wed_mul (k : Int) (v : Ve) : ∀ (vs : List Ve) (i : Nat), i < vs.length → ∀ cs, wed (vs.set i (vmul k v)) cs = k * wed (vs.set i v) cs
  | [], _, h, _ => absurd h (Nat.not_lt_zero _)
  | x :: vs, 0, _, cs => lap_mulv k v cs (wed vs)
  | x :: vs, i + 1, h, cs => by
    show lap x (wed (vs.set i (vmul k v))) cs = k * lap x (wed (vs.set i v)) cs
    rw [← lap_mulF, show wed (vs.set i (vmul k v)) = fun r => k * wed (vs.set i v) r from funext fun r => wed_mul k v vs i (Nat.lt_of_succ_lt_succ h) r]
theorem wed_sum (t : Nat → Int) (u : Nat → Ve) (vs : List Ve) (i : Nat) (h : i < vs.length) (cs : List Nat) : ∀ (n : Nat), wed (vs.set i (fun c => sumN n fun m => t m * u m c)) cs = sumN n fun m => t m * wed (vs.set i (u m)) cs
  | 0 => by
    have := wed_mul 0 (fun _ => 0) vs i h cs
    rw [Int.zero_mul] at this
    have e : (vmul 0 fun _ => 0) = fun _ => (0 : Int) := funext fun c => Int.zero_mul 0
    rw [e] at this
    exact this
  | n + 1 => by
    have e : (fun c => sumN (n + 1) fun m => t m * u m c) = vadd (fun c => sumN n fun m => t m * u m c) (vmul (t n) (u n)) := rfl
    rw [e, wed_add _ _ vs i h, wed_sum t u vs i h cs n, wed_mul _ _ vs i h]
    rfl
theorem wed_congr : ∀ {vs us : List Ve} {cs : List Nat}, vs.length = us.length → (∀ (i : Nat) (u v : Ve), vs[i]? = some v → us[i]? = some u → ∀ c ∈ cs, v c = u c) → wed vs cs = wed us cs
  | [], [], _, _, _ => rfl
  | v :: vs, u :: us, cs, hl, h => lap_congr (fun c hc => h 0 u v rfl rfl c hc) fun r hr => wed_congr (by simpa using hl) fun i a b h1 h2 c hc => h (i + 1) a b (by simpa using h1) (by simpa using h2) c (hr hc)
  | [], _ :: _, _, h, _ => nomatch h
  | _ :: _, [], _, h, _ => nomatch h
theorem wed_setC {vs : List Ve} {i : Nat} {u v : Ve} {cs : List Nat} (h : ∀ c ∈ cs, u c = v c) : wed (vs.set i u) cs = wed (vs.set i v) cs := by
  refine wed_congr (by rw [List.length_set, List.length_set]) fun j a b h1 h2 c hc => ?_
  rw [List.getElem?_set] at h1 h2
  by_cases e : i = j
  · rw [if_pos e] at h1 h2
    by_cases l : i < vs.length
    · rw [if_pos l] at h1 h2
      cases h1; cases h2
      exact h c hc
    · rw [if_neg l] at h1; cases h1
  · rw [if_neg e] at h1 h2
    rw [h1] at h2
    cases h2
    rfl
/-- two vectors exchanged, wherever they stand -/
theorem wed_swap {vs : List Ve} {i k : Nat} (ne : i ≠ k) (hi : i < vs.length) (hk : k < vs.length) (x y : Ve) (cs : List Nat) : wed ((vs.set i x).set k y) cs = -wed ((vs.set i y).set k x) cs := by
  have hk' : ∀ z, k < (vs.set i z).length := fun z => by rw [List.length_set]; exact hk
  have rep : ∀ z, wed ((vs.set i z).set k z) cs = 0 := fun z => by
    refine wed_rep' ne (v := z) ?_ ?_ cs
    · rw [List.getElem?_set_ne (Ne.symm ne), List.getElem?_set_self hi]
    · rw [List.getElem?_set_self (hk' z)]
  have com : ∀ (a b : Ve), (vs.set i a).set k b = (vs.set k b).set i a := fun a b => List.set_comm _ _ ne
  have h := rep (vadd x y)
  rw [wed_add x y _ k (hk' _), com, com, wed_add x y (vs.set k x) i (by rw [List.length_set]; exact hi), wed_add x y (vs.set k y) i (by rw [List.length_set]; exact hi), ← com, ← com, ← com, ← com, rep, rep] at h
  omega
/-! ### so many vectors of so many places -/
/-- every vector is told by these -/
def Cr (n : Nat) (B : List Ve) : Prop := B.length = n ∧ ∀ (y : Ve) (c : Nat), c < n → wed B (List.range n) * y c = sumN n fun m => wed (B.set m y) (List.range n) * (B.getD m (fun _ => 0)) c
theorem set_self {B : List Ve} {m : Nat} : B.set m (B.getD m (fun _ => 0)) = B := by
  apply List.ext_getElem?
  intro j
  rw [List.getElem?_set]
  by_cases e : m = j
  · rw [if_pos e]
    by_cases l : m < B.length
    · rw [if_pos l, ← e, List.getD_eq_getElem?_getD, List.getElem?_eq_getElem l]
      rfl
    · rw [if_neg l, ← e, List.getElem?_eq_none (by omega)]
  · rw [if_neg e]
theorem Cr.ex {n : Nat} {B : List Ve} (C : Cr n B) {i k : Nat} (hi : i < n) (hk : k < n) (ne : i ≠ k) (x y : Ve) :
    wed B (List.range n) * wed ((B.set k x).set i y) (List.range n) = wed (B.set k x) (List.range n) * wed (B.set i y) (List.range n) - wed (B.set i x) (List.range n) * wed (B.set k y) (List.range n) := by
  obtain ⟨hl, C⟩ := C
  have hi' : i < (B.set k x).length := by rw [List.length_set, hl]; exact hi
  rw [← wed_mul _ _ _ i hi', wed_setC (u := vmul (wed B (List.range n)) y) (v := fun c => sumN n fun m => wed (B.set m y) (List.range n) * (B.getD m (fun _ => 0)) c) fun c hc => C y c (List.mem_range.mp hc), wed_sum _ _ _ i hi', sumN_two hi hk ne fun m hm n1 n2 => ?_]
  · have e1 : (B.set k x).set i (B.getD i (fun _ => 0)) = B.set k x := by
      have : (B.set k x).getD i (fun _ => 0) = B.getD i (fun _ => 0) := by
        rw [List.getD_eq_getElem?_getD, List.getD_eq_getElem?_getD, List.getElem?_set_ne (Ne.symm ne)]
      rw [← this]
      exact set_self
    have e2 : wed ((B.set k x).set i (B.getD k (fun _ => 0))) (List.range n) = -wed (B.set i x) (List.range n) := by
      rw [wed_swap (Ne.symm ne) (by omega) (by omega), set_self]
    rw [e1, e2]
    grind
  · have hm' : m < B.length := by omega
    have g : B[m]? = some (B.getD m (fun _ => 0)) := by rw [List.getD_eq_getElem?_getD, List.getElem?_eq_getElem hm']; rfl
    have e : wed ((B.set k x).set i (B.getD m (fun _ => 0))) (List.range n) = 0 := wed_rep' (i := m) (k := i) (v := B.getD m (fun _ => 0)) n1 (by rw [List.getElem?_set_ne (Ne.symm n1), List.getElem?_set_ne (Ne.symm n2)]; exact g) (by rw [List.getElem?_set_self hi']) _
    rw [e, Int.mul_zero]
theorem getD_set {B : List Ve} {k m : Nat} {x : Ve} (hk : k < B.length) : (B.set k x).getD m (fun _ => 0) = if m = k then x else B.getD m (fun _ => 0) := by
  rw [List.getD_eq_getElem?_getD, List.getElem?_set]
  by_cases e : m = k
  · rw [if_pos e, if_pos e.symm, if_pos hk]
    rfl
  · rw [if_neg e, if_neg (Ne.symm e), List.getD_eq_getElem?_getD]
theorem Cr.step {n : Nat} {B : List Ve} (C : Cr n B) {k : Nat} (hk : k < n) (x : Ve) (nz : wed B (List.range n) ≠ 0) : Cr n (B.set k x) := by
  obtain ⟨hl, C'⟩ := id C
  refine ⟨by rw [List.length_set, hl], fun y c hc => ?_⟩
  refine Int.eq_of_mul_eq_mul_left nz ?_
  rw [← sumN_mul]
  have hx := C' x c hc
  have hy := C' y c hc
  have e : (sumN n fun m => wed B (List.range n) * (wed ((B.set k x).set m y) (List.range n) * ((B.set k x).getD m (fun _ => 0)) c)) =
      sumN n fun m => (wed (B.set k x) (List.range n) * (wed (B.set m y) (List.range n) * (B.getD m (fun _ => 0)) c) - wed (B.set k y) (List.range n) * (wed (B.set m x) (List.range n) * (B.getD m (fun _ => 0)) c)) + (if m = k then wed (B.set k y) (List.range n) * (wed B (List.range n) * x c) else 0) := by
    refine sumN_congr fun m hm => ?_
    rw [getD_set (by omega)]
    by_cases a : m = k
    · subst a
      rw [if_pos rfl, if_pos rfl, List.set_set]
      grind
    · rw [if_neg a, if_neg a, ← Int.mul_assoc, C.ex hm hk a x y]
      grind
  rw [e, sumN_add, sumN_sub, sumN_mul, sumN_mul, ← hx, ← hy, sumN_one hk (fun m _ h => if_neg h), if_pos rfl]
  grind
theorem Cr.swap {n : Nat} {B : List Ve} (C : Cr n B) {k f : Nat} (hk : k < n) (hf : f < n) (ne : k ≠ f) : Cr n ((B.set k (B.getD f fun _ => 0)).set f (B.getD k fun _ => 0)) ∧
    (∀ y, wed (((B.set k (B.getD f fun _ => 0)).set f (B.getD k fun _ => 0)).set k y) (List.range n) = -wed (B.set f y) (List.range n)) ∧
    (∀ y, wed (((B.set k (B.getD f fun _ => 0)).set f (B.getD k fun _ => 0)).set f y) (List.range n) = -wed (B.set k y) (List.range n)) ∧
    (∀ m y, m ≠ k → m ≠ f → wed (((B.set k (B.getD f fun _ => 0)).set f (B.getD k fun _ => 0)).set m y) (List.range n) = -wed (B.set m y) (List.range n)) ∧
    wed ((B.set k (B.getD f fun _ => 0)).set f (B.getD k fun _ => 0)) (List.range n) = -wed B (List.range n) := by
  obtain ⟨hl, C'⟩ := id C
  have lk : k < B.length := by omega
  have lf : f < B.length := by omega
  have h1 : ∀ y, wed (((B.set k (B.getD f fun _ => 0)).set f (B.getD k fun _ => 0)).set k y) (List.range n) = -wed (B.set f y) (List.range n) := fun y => by
    rw [List.set_comm _ _ (Ne.symm ne), List.set_set, wed_swap ne lk lf, set_self]
  have h2 : ∀ y, wed (((B.set k (B.getD f fun _ => 0)).set f (B.getD k fun _ => 0)).set f y) (List.range n) = -wed (B.set k y) (List.range n) := fun y => by
    rw [List.set_set, wed_swap ne lk lf, List.set_comm _ _ ne, set_self]
  have h0 : wed ((B.set k (B.getD f fun _ => 0)).set f (B.getD k fun _ => 0)) (List.range n) = -wed B (List.range n) := by
    rw [wed_swap ne lk lf, set_self, set_self]
  have h3 : ∀ m y, m ≠ k → m ≠ f → wed (((B.set k (B.getD f fun _ => 0)).set f (B.getD k fun _ => 0)).set m y) (List.range n) = -wed (B.set m y) (List.range n) := fun m y n1 n2 => by
    rw [List.set_comm _ _ (Ne.symm n2), List.set_comm _ _ (Ne.symm n1), wed_swap ne (by rw [List.length_set]; exact lk) (by rw [List.length_set]; exact lf)]
    have e1 : (B.set m y).getD k (fun _ => 0) = B.getD k fun _ => 0 := by
      rw [List.getD_eq_getElem?_getD, List.getD_eq_getElem?_getD, List.getElem?_set_ne n1]
    have e2 : (B.set m y).getD f (fun _ => 0) = B.getD f fun _ => 0 := by
      rw [List.getD_eq_getElem?_getD, List.getD_eq_getElem?_getD, List.getElem?_set_ne n2]
    rw [← e1, ← e2, set_self, set_self]
  refine ⟨⟨by rw [List.length_set, List.length_set, hl], fun y c hc => ?_⟩, h1, h2, h3, h0⟩
  rw [h0, Int.neg_mul, C' y c hc, ← Int.neg_one_mul, ← sumN_mul]
  have d : ∀ f' g' : Nat → Int, sumN n (fun m => f' m - g' m) = 0 → sumN n f' = sumN n g' := fun f' g' h => by
    rw [sumN_sub] at h
    omega
  apply d
  rw [sumN_two hk hf ne fun m hm n1 n2 => ?_]
  · rw [h1, h2, getD_set (by rw [List.length_set]; exact lf), getD_set lk, if_neg ne, if_pos rfl, getD_set (by rw [List.length_set]; exact lf), if_pos rfl]
    grind
  · rw [h3 m y n1 n2, getD_set (by rw [List.length_set]; exact lf), getD_set lk, if_neg n1, if_neg n2]
    grind
/-! ### the first ones -/
def unit (i : Nat) : Ve := fun c => if c = i then 1 else 0
theorem lap_off {v : Ve} : ∀ {cs : List Nat} {F : List Nat → Int}, (∀ c ∈ cs, v c = 0) → lap v F cs = 0
  | [], _, _ => rfl
  | c :: cs, F, h => by
    unfold lap
    rw [h c List.mem_cons_self, lap_off fun x hx => h x (List.mem_cons_of_mem _ hx), Int.zero_mul]
    rfl
/-- of vectors that are all nought at a place -/
theorem wed_off {k : Nat} : ∀ {vs : List Ve}, (∀ v ∈ vs, v k = 0) → ∀ cs, wed vs (k :: cs) = 0
  | [], _, _ => rfl
  | v :: vs, h, cs => by
    show v k * wed vs cs - lap v (fun r => wed vs (k :: r)) cs = 0
    rw [h v List.mem_cons_self, show (fun r => wed vs (k :: r)) = fun _ => 0 from funext fun r => wed_off (fun u hu => h u (List.mem_cons_of_mem _ hu)) r, lap_zeroF]
    simp
theorem wed_unit {i : Nat} {vs : List Ve} {cs : List Nat} (h : i ∉ cs) : wed (unit i :: vs) (i :: cs) = wed vs cs := by
  show unit i i * wed vs cs - lap (unit i) (fun r => wed vs (i :: r)) cs = wed vs cs
  rw [lap_off (v := unit i) (cs := cs) fun c hc => if_neg fun e : c = i => h (e ▸ hc), show unit i i = 1 from if_pos rfl]
  omega
theorem wed_units : ∀ (k i : Nat), wed ((List.range' i k).map unit) (List.range' i k) = 1
  | 0, _ => rfl
  | k + 1, i => by
    rw [List.range'_succ, List.map_cons, wed_unit (by rw [List.mem_range'_1]; omega)]
    exact wed_units k (i + 1)
theorem wed_unitS (y : Ve) : ∀ (k i m : Nat), m < k → wed (((List.range' i k).map unit).set m y) (List.range' i k) = y (i + m)
  | 0, _, _, h => absurd h (Nat.not_lt_zero _)
  | k + 1, i, 0, _ => by
    rw [List.range'_succ, List.map_cons, List.set_cons_zero]
    show y i * wed ((List.range' (i + 1) k).map unit) (List.range' (i + 1) k) - lap y (fun r => wed ((List.range' (i + 1) k).map unit) (i :: r)) (List.range' (i + 1) k) = y i
    rw [wed_units, show (fun r => wed ((List.range' (i + 1) k).map unit) (i :: r)) = fun _ => 0 from funext fun r => wed_off (fun v hv => ?_) r, lap_zeroF]
    · omega
    · obtain ⟨j, hj, rfl⟩ := List.mem_map.mp hv
      rw [List.mem_range'_1] at hj
      exact if_neg (by omega)
  | k + 1, i, m + 1, h => by
    rw [List.range'_succ, List.map_cons, List.set_cons_succ, wed_unit (by rw [List.mem_range'_1]; omega), wed_unitS y k (i + 1) m (by omega)]
    congr 1
    omega
theorem Cr.units (n : Nat) : Cr n ((List.range n).map unit) := by
  refine ⟨by rw [List.length_map, List.length_range], fun y c hc => ?_⟩
  rw [List.range_eq_range', wed_units, Int.one_mul]
  have e : (sumN n fun m => wed (((List.range' 0 n).map unit).set m y) (List.range' 0 n) * (((List.range' 0 n).map unit).getD m (fun _ => 0)) c) = sumN n fun m => if m = c then y c else 0 := by
    refine sumN_congr fun m hm => ?_
    rw [wed_unitS y n 0 m hm, Nat.zero_add, List.getD_eq_getElem?_getD, List.getElem?_map, List.getElem?_range' hm]
    show y m * unit (0 + 1 * m) c = _
    rw [show 0 + 1 * m = m by omega]
    by_cases a : m = c
    · rw [a, if_pos rfl, show unit c c = 1 from if_pos rfl, Int.mul_one]
    · rw [if_neg a, show unit m c = 0 from if_neg (Ne.symm a), Int.mul_zero]
  rw [e, sumN_one hc (fun m _ h => if_neg h), if_pos rfl]
/-! ### how great -/
def l1 (cs : List Nat) (v : Ve) : Nat := (cs.map fun c => (v c).natAbs).sum
theorem l1_sub (v : Ve) {r cs : List Nat} (h : r.Sublist cs) : l1 r v ≤ l1 cs v := by
  induction h with
  | slnil => exact Nat.le_refl _
  | cons a _ ih =>
    unfold l1 at ih ⊢
    rw [List.map_cons, List.sum_cons]
    omega
  | cons_cons a _ ih =>
    unfold l1 at ih ⊢
    rw [List.map_cons, List.sum_cons, List.map_cons, List.sum_cons]
    omega
theorem lap_le {v : Ve} {K : Nat} : ∀ {cs : List Nat} {F : List Nat → Int}, (∀ r, r.Sublist cs → (F r).natAbs ≤ K) → (lap v F cs).natAbs ≤ l1 cs v * K
  | [], _, _ => Nat.zero_le _
  | c :: cs, F, h => by
    have h1 := h cs (List.sublist_cons_self c cs)
    have h2 := lap_le (v := v) (cs := cs) (F := fun r => F (c :: r)) fun r hr => h _ (hr.cons_cons c)
    have e : l1 (c :: cs) v = (v c).natAbs + l1 cs v := by unfold l1; rw [List.map_cons, List.sum_cons]
    rw [e, Nat.add_mul]
    have h3 : (v c * F cs).natAbs ≤ (v c).natAbs * K := by
      rw [Int.natAbs_mul]
      exact Nat.mul_le_mul_left _ h1
    have h4 := Int.natAbs_sub_le (v c * F cs) (lap v (fun r => F (c :: r)) cs)
    unfold lap
    omega
theorem wed_le {L : Nat} (hL : 1 ≤ L) : ∀ {vs : List Ve} {cs : List Nat}, (∀ v ∈ vs, l1 cs v ≤ L) → (wed vs cs).natAbs ≤ L ^ vs.length
  | [], cs, _ => by
    show (if cs = [] then (1 : Int) else 0).natAbs ≤ 1
    split <;> decide
  | v :: vs, cs, h => by
    have h1 := lap_le (v := v) (cs := cs) (F := wed vs) (K := L ^ vs.length) fun r hr => wed_le hL fun u hu => Nat.le_trans (l1_sub u hr) (h u (List.mem_cons_of_mem _ hu))
    refine Nat.le_trans h1 ?_
    rw [List.length_cons, Nat.pow_succ, Nat.mul_comm]
    exact Nat.mul_le_mul_left _ (h v List.mem_cons_self)
theorem l1_unit (i : Nat) : ∀ {cs : List Nat}, cs.Nodup → l1 cs (unit i) ≤ 1
  | [], _ => Nat.zero_le _
  | c :: cs, h => by
    have e : l1 (c :: cs) (unit i) = (unit i c).natAbs + l1 cs (unit i) := by unfold l1; rw [List.map_cons, List.sum_cons]
    rw [e]
    rw [List.nodup_cons] at h
    by_cases a : c = i
    · have z : l1 cs (unit i) = 0 := by
        unfold l1
        have : (cs.map fun c => (unit i c).natAbs) = cs.map fun _ => 0 := List.map_congr_left fun x hx => by
          have : x ≠ i := fun e => h.1 (by rw [a, ← e]; exact hx)
          rw [show unit i x = 0 from if_neg this]
          rfl
        rw [this]
        clear this h e
        induction cs with
        | nil => rfl
        | cons _ _ ih => rw [List.map_cons, List.sum_cons, ih]
      rw [z, show unit i c = 1 from if_pos a]
      decide
    · have := l1_unit i h.2
      rw [show unit i c = 0 from if_neg a]
      simpa using this
/-! ### Bareiss -/
/-- the column j of the equations -/
def colA (A : Nat → Nat → Int) (j : Nat) : Ve := fun r => A r j
/-- what stands behind k turns -/
def BInv (n : Nat) (A : Nat → Nat → Int) (L k : Nat) (M : Nat → Nat → Int) (d : Int) : Prop := ∃ (σ : Int) (B : List Ve), σ * σ = 1 ∧ Cr n B ∧ (∀ m, m < k → B.getD m (fun _ => 0) = colA A m) ∧ d = σ * wed B (List.range n) ∧ d ≠ 0 ∧
  (∀ v ∈ B, l1 (List.range n) v ≤ L) ∧ ∀ i j, i < n → j ≤ n → M i j = σ * wed (B.set i (colA A j)) (List.range n)
theorem BInv.init {n L : Nat} {A : Nat → Nat → Int} (hL : 1 ≤ L) : BInv n A L 0 A 1 := by
  refine ⟨1, (List.range n).map unit, rfl, Cr.units n, fun m h => absurd h (Nat.not_lt_zero _), ?_, by decide, fun v hv => ?_, fun i j hi hj => ?_⟩
  · rw [List.range_eq_range', wed_units]
    rfl
  · obtain ⟨i, _, rfl⟩ := List.mem_map.mp hv
    exact Nat.le_trans (l1_unit i List.nodup_range) hL
  · rw [List.range_eq_range', wed_unitS _ n 0 i hi, Nat.zero_add, Int.one_mul]
    rfl
theorem sg_cases {σ : Int} (h : σ * σ = 1) : σ = 1 ∨ σ = -1 := by
  have h1 : σ ∣ 1 := ⟨σ, h.symm⟩
  have := Int.natAbs_dvd_natAbs.mpr h1
  have h2 : σ.natAbs = 1 := Nat.dvd_one.mp this
  omega
theorem BInv.le {n L k : Nat} {A M : Nat → Nat → Int} {d : Int} (I : BInv n A L k M d) (hL : 1 ≤ L) (hA : ∀ j, j ≤ n → l1 (List.range n) (colA A j) ≤ L) : d.natAbs ≤ L ^ n ∧ ∀ i j, i < n → j ≤ n → (M i j).natAbs ≤ L ^ n := by
  obtain ⟨σ, B, hs, C, hc, hd, nz, hB, hM⟩ := I
  have sa : σ.natAbs = 1 := by
    rcases sg_cases hs with e | e <;> rw [e] <;> rfl
  refine ⟨?_, fun i j hi hj => ?_⟩
  · rw [hd, Int.natAbs_mul, sa, Nat.one_mul, ← C.1]
    have := wed_le hL hB
    rw [C.1] at this ⊢
    exact this
  · rw [hM i j hi hj, Int.natAbs_mul, sa, Nat.one_mul]
    have e := C.1
    have := wed_le hL (vs := B.set i (colA A j)) (cs := List.range n) fun v hv => by
      rcases List.mem_or_eq_of_mem_set hv with h | h
      · exact hB v h
      · rw [h]; exact hA j hj
    rw [List.length_set, e] at this
    exact this
/-- two rows exchanged, none of them done -/
theorem BInv.swap {n L k f : Nat} {A M : Nat → Nat → Int} {d : Int} (I : BInv n A L k M d) (hk : k < n) (hf : f < n) (kf : k ≤ f) :
    BInv n A L k (fun i j => M (if i = k then f else if i = f then k else i) j) d := by
  by_cases ne : k = f
  · subst ne
    have e : (fun (i : Nat) (j : Nat) => M (if i = k then k else if i = k then k else i) j) = M := funext fun i => funext fun j => by
      by_cases a : i = k
      · rw [if_pos a, a]
      · rw [if_neg a, if_neg a]
    rw [e]
    exact I
  obtain ⟨σ, B, hs, C, hc, hd, nz, hB, hM⟩ := I
  have hl := C.1
  obtain ⟨C', h1, h2, h3, h0⟩ := C.swap hk hf ne
  have lk : k < B.length := by omega
  have lf : f < B.length := by omega
  refine ⟨-σ, _, by rw [Int.neg_mul_neg]; exact hs, C', fun m hm => ?_, ?_, nz, fun v hv => ?_, fun i j hi hj => ?_⟩
  · rw [getD_set (by rw [List.length_set]; exact lf), if_neg (by omega), getD_set lk, if_neg (by omega)]
    exact hc m hm
  · rw [h0, Int.neg_mul_neg]
    exact hd
  · have mem : ∀ m, m < B.length → l1 (List.range n) (B.getD m fun _ => 0) ≤ L := fun m hm => hB _ (by rw [List.getD_eq_getElem?_getD, List.getElem?_eq_getElem hm]; exact List.getElem_mem hm)
    rcases List.mem_or_eq_of_mem_set hv with h | h
    · rcases List.mem_or_eq_of_mem_set h with h | h
      · exact hB v h
      · rw [h]; exact mem f lf
    · rw [h]; exact mem k lk
  · show M (if i = k then f else if i = f then k else i) j = _
    by_cases a : i = k
    · rw [if_pos a, a, h1, Int.neg_mul_neg]
      exact hM f j hf hj
    · by_cases b : i = f
      · rw [if_neg a, if_pos b, b, h2, Int.neg_mul_neg]
        exact hM k j hk hj
      · rw [if_neg a, if_neg b, h3 i _ a b, Int.neg_mul_neg]
        exact hM i j hi hj
/-- a turn: the division leaves no rest -/
theorem BInv.step {n L k : Nat} {A M : Nat → Nat → Int} {d : Int} (I : BInv n A L k M d) (hk : k < n) (hA : ∀ j, j ≤ n → l1 (List.range n) (colA A j) ≤ L) (pv : M k k ≠ 0) :
    BInv n A L (k + 1) (fun i j => if i = k then M k j else (M k k * M i j - M i k * M k j) / d) (M k k) := by
  obtain ⟨σ, B, hs, C, hc, hd, nz, hB, hM⟩ := I
  have hl := C.1
  have lk : k < B.length := by omega
  have w0 : wed B (List.range n) ≠ 0 := fun e => nz (by rw [hd, e, Int.mul_zero])
  have ek := hM k k hk (by omega)
  refine ⟨σ, B.set k (colA A k), hs, C.step hk _ w0, fun m hm => ?_, ek, pv, fun v hv => ?_, fun i j hi hj => ?_⟩
  · rw [getD_set lk]
    by_cases a : m = k
    · rw [if_pos a, a]
    · rw [if_neg a]
      exact hc m (by omega)
  · rcases List.mem_or_eq_of_mem_set hv with h | h
    · exact hB v h
    · rw [h]; exact hA k (by omega)
  · show (if i = k then M k j else (M k k * M i j - M i k * M k j) / d) = _
    by_cases a : i = k
    · rw [if_pos a, a, List.set_set]
      exact hM k j hk hj
    · rw [if_neg a, hM i j hi hj, ek, hM i k hi (by omega), hM k j hk hj]
      have := C.ex hi hk a (colA A k) (colA A j)
      have e : (σ * wed (B.set k (colA A k)) (List.range n)) * (σ * wed (B.set i (colA A j)) (List.range n)) - (σ * wed (B.set i (colA A k)) (List.range n)) * (σ * wed (B.set k (colA A j)) (List.range n)) =
          d * (σ * wed ((B.set k (colA A k)).set i (colA A j)) (List.range n)) := by
        rw [hd]
        generalize wed (B.set k (colA A k)) (List.range n) = p1 at this ⊢
        generalize wed (B.set i (colA A j)) (List.range n) = p2 at this ⊢
        generalize wed (B.set i (colA A k)) (List.range n) = p3 at this ⊢
        generalize wed (B.set k (colA A j)) (List.range n) = p4 at this ⊢
        generalize wed ((B.set k (colA A k)).set i (colA A j)) (List.range n) = p5 at this ⊢
        generalize wed B (List.range n) = p6 at this ⊢
        grind
      rw [e]
      exact Int.mul_ediv_cancel_left _ nz
/-- a row that can lead is found -/
theorem BInv.pivot {n L k : Nat} {A M : Nat → Nat → Int} {d : Int} (I : BInv n A L k M d) (hk : k < n) (inj : ∀ z : Nat → Int, (∀ r, r < n → sumN n (fun m => A r m * z m) = 0) → ∀ m, m < n → z m = 0) : ∃ f, k ≤ f ∧ f < n ∧ M f k ≠ 0 := by
  refine Classical.byContradiction fun h => ?_
  have h' : ∀ f, k ≤ f → f < n → M f k = 0 := fun f h1 h2 => Classical.byContradiction fun c => h ⟨f, h1, h2, c⟩
  obtain ⟨σ, B, hs, C, hc, hd, nz, hB, hM⟩ := I
  have s0 : σ ≠ 0 := fun e => by rw [e] at hs; cases hs
  have w0 : wed B (List.range n) ≠ 0 := fun e => nz (by rw [hd, e, Int.mul_zero])
  have z := inj (fun m => if m = k then -wed B (List.range n) else if m < k then wed (B.set m (colA A k)) (List.range n) else 0) (fun r hr => ?_) k hk
  · rw [if_pos rfl] at z
    exact w0 (by omega)
  · have e := C.2 (colA A k) r hr
    have e2 : sumN n (fun m => A r m * (if m = k then -wed B (List.range n) else if m < k then wed (B.set m (colA A k)) (List.range n) else 0)) =
        sumN n fun m => wed (B.set m (colA A k)) (List.range n) * (B.getD m (fun _ => 0)) r - (if m = k then wed B (List.range n) * A r k else 0) := by
      refine sumN_congr fun m hm => ?_
      by_cases a : m = k
      · have := h' k (Nat.le_refl _) hk
        rw [hM k k hk (by omega)] at this
        have := (Int.mul_eq_zero.mp this).resolve_left s0
        rw [if_pos a, if_pos a, a, this]
        grind
      · rw [if_neg a, if_neg a]
        by_cases b : m < k
        · rw [if_pos b, hc m b]
          show _ = _ * A r m - 0
          grind
        · have := h' m (by omega) hm
          rw [hM m k hm (by omega)] at this
          have := (Int.mul_eq_zero.mp this).resolve_left s0
          rw [if_neg b, this]
          grind
    rw [e2, sumN_sub, ← e, sumN_one hk (fun m _ h => if_neg h), if_pos rfl]
    show _ * A r k - _ = 0
    omega
/-- behind all turns -/
theorem BInv.done {n L : Nat} {A M : Nat → Nat → Int} {d : Int} (I : BInv n A L n M d) : (∀ i, i < n → M i i = d) ∧ ∀ r, r < n → sumN n (fun m => A r m * M m n) = d * A r n := by
  obtain ⟨σ, B, hs, C, hc, hd, nz, hB, hM⟩ := I
  refine ⟨fun i hi => ?_, fun r hr => ?_⟩
  · rw [hM i i hi (by omega), ← hc i hi, set_self]
    exact hd.symm
  · have e := C.2 (colA A n) r hr
    rw [hd, Int.mul_assoc, show A r n = colA A n r from rfl, e, ← sumN_mul]
    refine sumN_congr fun m hm => ?_
    rw [hM m n hm (by omega), hc m hm]
    show A r m * _ = σ * (_ * A r m)
    grind
end
section
theorem BInv.dvd {n L k : Nat} {A M : Nat → Nat → Int} {d : Int} (I : BInv n A L k M d) (hk : k < n) {i j : Nat} (hi : i < n) (hj : j ≤ n) (ne : i ≠ k) : d ∣ M k k * M i j - M i k * M k j := by
  obtain ⟨σ, B, hs, C, hc, hd, nz, hB, hM⟩ := I
  have := C.ex hi hk ne (colA A k) (colA A j)
  refine ⟨σ * wed ((B.set k (colA A k)).set i (colA A j)) (List.range n), ?_⟩
  rw [hM k k hk (by omega), hM i j hi hj, hM i k hi (by omega), hM k j hk hj, hd]
  generalize wed (B.set k (colA A k)) (List.range n) = p1 at this ⊢
  generalize wed (B.set i (colA A j)) (List.range n) = p2 at this ⊢
  generalize wed (B.set i (colA A k)) (List.range n) = p3 at this ⊢
  generalize wed (B.set k (colA A j)) (List.range n) = p4 at this ⊢
  generalize wed ((B.set k (colA A k)).set i (colA A j)) (List.range n) = p5 at this ⊢
  generalize wed B (List.range n) = p6 at this ⊢
  grind
theorem BInv.nz {n L k : Nat} {A M : Nat → Nat → Int} {d : Int} (I : BInv n A L k M d) : d ≠ 0 := by
  obtain ⟨σ, B, hs, C, hc, hd, nz, _⟩ := I
  exact nz
end
/-! ### stationary weights of a flow -/
section
theorem sumN_swap (f : Nat → Nat → Int) (n : Nat) : ∀ m, sumN m (fun i => sumN n fun j => f i j) = sumN n fun j => sumN m fun i => f i j
  | 0 => (sumN_zero n).symm
  | m + 1 => by
    show sumN m (fun i => sumN n fun j => f i j) + sumN n (fun j => f m j) = sumN n fun j => sumN m (fun i => f i j) + f m j
    rw [sumN_swap f n m, sumN_add]
theorem sumN_nn {f : Nat → Int} : ∀ {n : Nat}, (∀ m, m < n → 0 ≤ f m) → 0 ≤ sumN n f
  | 0, _ => Int.le_refl 0
  | n + 1, h => by
    unfold sumN
    have h1 := sumN_nn fun m hm => h m (Nat.lt_succ_of_lt hm)
    have h2 := h n (Nat.lt_succ_self n)
    omega
theorem sumN_mono {f g : Nat → Int} : ∀ {n : Nat}, (∀ m, m < n → f m ≤ g m) → sumN n f ≤ sumN n g
  | 0, _ => Int.le_refl 0
  | n + 1, h => by
    unfold sumN
    have h1 := sumN_mono fun m hm => h m (Nat.lt_succ_of_lt hm)
    have h2 := h n (Nat.lt_succ_self n)
    omega
theorem sumN_le {f : Nat → Int} {i : Nat} : ∀ {n : Nat}, (∀ m, m < n → 0 ≤ f m) → i < n → f i ≤ sumN n f
  | 0, _, h => absurd h (Nat.not_lt_zero _)
  | n + 1, h, hi => by
    unfold sumN
    by_cases e : i = n
    · have := sumN_nn fun m hm => h m (Nat.lt_succ_of_lt hm)
      rw [e]; omega
    · have h1 := sumN_le (i := i) (fun m hm => h m (Nat.lt_succ_of_lt hm)) (by omega)
      have h2 := h n (Nat.lt_succ_self n)
      omega
theorem sumN_z {f : Nat → Int} {n : Nat} (h : ∀ m, m < n → 0 ≤ f m) (z : sumN n f = 0) (m : Nat) (hm : m < n) : f m = 0 := by
  have h1 := sumN_le h hm
  have h2 := h m hm
  omega
theorem sumN_ex {f : Nat → Int} : ∀ {n : Nat}, sumN n f ≠ 0 → ∃ m, m < n ∧ f m ≠ 0
  | 0, h => absurd rfl h
  | n + 1, h => by
    by_cases e : f n = 0
    · obtain ⟨m, hm, h1⟩ := sumN_ex (f := f) (n := n) (fun z => h (by unfold sumN; rw [z, e]; rfl))
      exact ⟨m, by omega, h1⟩
    · exact ⟨n, by omega, e⟩
structure Flow (n : Nat) (c : Nat → Nat → Int) (W : Int) : Prop where
  nn : ∀ b e, b < n → e < n → 0 ≤ c b e
  row : ∀ b, b < n → sumN n (c b) = W
  W0 : 0 < W
def Stat (n : Nat) (c : Nat → Nat → Int) (W : Int) (z : Nat → Int) : Prop := ∀ e, e < n → sumN n (fun b => c b e * z b) = W * z e
def ClSet (n : Nat) (c : Nat → Nat → Int) (G : Nat → Prop) : Prop := ∀ b, b < n → G b → ∀ e, e < n → 0 < c b e → G e
variable {n : Nat} {c : Nat → Nat → Int} {W : Int}
theorem Flow.all (F : Flow n c W) (z : Nat → Int) : sumN n (fun e => sumN n (fun b => c b e * z b) - W * z e) = 0 := by
  rw [sumN_sub, sumN_mul, sumN_swap (fun e b => c b e * z b)]
  have e : (sumN n fun j => sumN n fun i => c j i * z j) = sumN n fun j => W * z j := sumN_congr fun j hj => by
    have : (fun i => c j i * z j) = fun i => z j * c j i := funext fun i => Int.mul_comm _ _
    rw [this, sumN_mul, F.row j hj, Int.mul_comm]
  rw [e, sumN_mul]
  omega
def posP (z : Nat → Int) : Nat → Int := fun b => if 0 < z b then z b else 0
theorem posP_nn (z : Nat → Int) (b : Nat) : 0 ≤ posP z b := by
  unfold posP
  split <;> omega
theorem posP_ge (z : Nat → Int) (b : Nat) : z b ≤ posP z b := by
  unfold posP
  split <;> omega
theorem posP_pos {z : Nat → Int} {b : Nat} : 0 < posP z b ↔ 0 < z b := by
  unfold posP
  split <;> omega
theorem Flow.pos (F : Flow n c W) {z : Nat → Int} (S : Stat n c W z) : Stat n c W (posP z) := by
  have nn : ∀ e, e < n → 0 ≤ sumN n (fun b => c b e * posP z b) - W * posP z e := fun e he => by
    have h1 : sumN n (fun b => c b e * z b) ≤ sumN n (fun b => c b e * posP z b) := sumN_mono fun b hb => Int.mul_le_mul_of_nonneg_left (posP_ge z b) (F.nn b e hb he)
    have h2 : 0 ≤ sumN n (fun b => c b e * posP z b) := sumN_nn fun b hb => Int.mul_nonneg (F.nn b e hb he) (posP_nn z b)
    have h3 := S e he
    by_cases p : 0 < z e
    · have : posP z e = z e := if_pos p
      rw [this]; omega
    · have : posP z e = 0 := if_neg p
      rw [this, Int.mul_zero]; omega
  intro e he
  have := sumN_z nn (F.all (posP z)) e he
  omega
theorem Flow.posCl (F : Flow n c W) {z : Nat → Int} (nz : ∀ b, b < n → 0 ≤ z b) (S : Stat n c W z) : ClSet n c (fun b => 0 < z b) := by
  intro b hb p e he ce
  show 0 < z e
  have h1 : c b e * z b ≤ sumN n (fun b => c b e * z b) := sumN_le (f := fun b => c b e * z b) (fun m hm => Int.mul_nonneg (F.nn m e hm he) (nz m hm)) hb
  rw [S e he] at h1
  have h2 : 0 < c b e * z b := Int.mul_pos ce p
  have h3 : 0 < W * z e := by omega
  have h4 := nz e he
  by_cases q : z e = 0
  · rw [q, Int.mul_zero] at h3; omega
  · omega
open Classical in
theorem Flow.off (F : Flow n c W) {z : Nat → Int} (nz : ∀ b, b < n → 0 ≤ z b) (S : Stat n c W z) {G : Nat → Prop} (hG : ClSet n c G) : Stat n c W (fun b => if G b then 0 else z b) := by
  have nn : ∀ e, e < n → 0 ≤ sumN n (fun b => c b e * (if G b then 0 else z b)) - W * (if G e then 0 else z e) := fun e he => by
    by_cases g : G e
    · rw [if_pos g, Int.mul_zero]
      have : 0 ≤ sumN n (fun b => c b e * (if G b then 0 else z b)) := sumN_nn fun b hb => Int.mul_nonneg (F.nn b e hb he) (by split; exact Int.le_refl 0; exact nz b hb)
      omega
    · rw [if_neg g, ← S e he]
      have : sumN n (fun b => c b e * (if G b then 0 else z b)) = sumN n (fun b => c b e * z b) := sumN_congr fun b hb => by
        by_cases gb : G b
        · have h0 : c b e = 0 := by
            have h1 := F.nn b e hb he
            by_cases p : 0 < c b e
            · exact absurd (hG b hb gb e he p) g
            · omega
          rw [h0, Int.zero_mul, Int.zero_mul]
        · rw [if_neg gb]
      omega
  intro e he
  have := sumN_z nn (F.all (fun b => if G b then 0 else z b)) e he
  show sumN n (fun b => c b e * (if G b then 0 else z b)) = W * (if G e then 0 else z e)
  omega
theorem Stat.neg {z : Nat → Int} (S : Stat n c W z) : Stat n c W (fun b => -z b) := by
  intro e he
  have h := S e he
  have : (fun b => c b e * -z b) = fun b => (-1) * (c b e * z b) := funext fun b => by grind
  show sumN n (fun b => c b e * -z b) = W * -z e
  rw [this, sumN_mul, h]
  grind
structure OneCl (n : Nat) (c : Nat → Nat → Int) (G : Nat → Prop) : Prop where
  cl : ClSet n c G
  some : ∃ b, b < n ∧ G b
  least : ∀ E : Nat → Prop, ClSet n c E → (∃ b, b < n ∧ E b) → ∀ b, b < n → G b → E b
variable {G : Nat → Prop}
open Classical in
theorem Flow.only (F : Flow n c W) (O : OneCl n c G) {z : Nat → Int} (nz : ∀ b, b < n → 0 ≤ z b) (S : Stat n c W z) : ∀ b, b < n → 0 < z b → G b := by
  intro b hb p
  apply byContradiction
  intro g
  have S2 := F.off nz S O.cl
  have C2 := F.posCl (fun e he => by show 0 ≤ (if G e then (0 : Int) else z e); split; exact Int.le_refl 0; exact nz e he) S2
  obtain ⟨q, hq, gq⟩ := O.some
  have h := O.least _ C2 ⟨b, hb, by show 0 < (if G b then (0 : Int) else z b); rw [if_neg g]; exact p⟩ q hq gq
  have h' : 0 < (if G q then (0 : Int) else z q) := h
  rw [if_pos gq] at h'
  omega
theorem Flow.supp (F : Flow n c W) (O : OneCl n c G) {z : Nat → Int} (nz : ∀ b, b < n → 0 ≤ z b) (S : Stat n c W z) (ne : ∃ b, b < n ∧ 0 < z b) : ∀ b, b < n → (0 < z b ↔ G b) := fun b hb =>
  ⟨F.only O nz S b hb, O.least _ (F.posCl nz S) ne b hb⟩
/-- not both above nought and below -/
theorem Flow.sign (F : Flow n c W) (O : OneCl n c G) {z : Nat → Int} (S : Stat n c W z) (p : ∃ b, b < n ∧ 0 < z b) : ∀ b, b < n → 0 ≤ z b := by
  intro b hb
  apply Classical.byContradiction
  intro h
  have s1 := F.supp O (fun b _ => posP_nn z b) (F.pos S) (by obtain ⟨b, hb, h⟩ := p; exact ⟨b, hb, posP_pos.mpr h⟩)
  have s2 := F.supp O (fun b _ => posP_nn (fun b => -z b) b) (F.pos S.neg) ⟨b, hb, posP_pos.mpr (by show 0 < -z b; omega)⟩
  obtain ⟨q, hq, gq⟩ := O.some
  have a1 := posP_pos.mp ((s1 q hq).mpr gq)
  have a2 : 0 < -z q := posP_pos.mp ((s2 q hq).mpr gq)
  omega
theorem Flow.inj (F : Flow n c W) (O : OneCl n c G) {z : Nat → Int} (S : Stat n c W z) (z0 : sumN n z = 0) : ∀ b, b < n → z b = 0 := by
  intro b hb
  by_cases p : ∃ b, b < n ∧ 0 < z b
  · exact sumN_z (F.sign O S p) z0 b hb
  · by_cases p2 : ∃ b, b < n ∧ 0 < -z b
    · have h := F.sign O S.neg p2
      have e : sumN n (fun b => -z b) = 0 := by
        have : (fun b => -z b) = fun b => (-1) * z b := funext fun b => by omega
        rw [this, sumN_mul, z0]; rfl
      have := sumN_z h e b hb
      have h2 : -z b = 0 := this
      omega
    · have h1 : ¬ 0 < z b := fun h => p ⟨b, hb, h⟩
      have h2 : ¬ 0 < -z b := fun h => p2 ⟨b, hb, h⟩
      omega
/-! ### the balance -/
def balA (n : Nat) (c : Nat → Nat → Int) (W : Int) (r m : Nat) : Int := if r + 1 < n then (if m = n then 0 else if m = r then c m r - W else c m r) else 1
theorem bal_row {r : Nat} (h : r + 1 < n) (z : Nat → Int) : sumN n (fun m => balA n c W r m * z m) = sumN n (fun m => c m r * z m) - W * z r := by
  have e : sumN n (fun m => balA n c W r m * z m) = sumN n (fun m => c m r * z m - (if m = r then W * z r else 0)) := sumN_congr fun m hm => by
    unfold balA
    rw [if_pos h, if_neg (by omega)]
    by_cases q : m = r
    · rw [if_pos q, if_pos q, q]; grind
    · rw [if_neg q, if_neg q]; omega
  rw [e, sumN_sub, sumN_one (i := r) (by omega) (fun m _ q => if_neg q), if_pos rfl]
theorem bal_last {r : Nat} (h : ¬ r + 1 < n) (z : Nat → Int) : sumN n (fun m => balA n c W r m * z m) = sumN n z := by
  refine sumN_congr fun m hm => ?_
  unfold balA
  rw [if_neg h]
  omega
theorem sumN_rest {u : Nat → Int} (h : sumN n u = 0) (z : ∀ e, e + 1 < n → u e = 0) : ∀ e, e < n → u e = 0 := by
  intro e he
  by_cases q : e + 1 < n
  · exact z e q
  · have : sumN n u = u e := sumN_one he fun m hm ne => z m (by omega)
    omega
theorem bal_stat (F : Flow n c W) {z : Nat → Int} (h : ∀ r, r + 1 < n → sumN n (fun m => balA n c W r m * z m) = 0) : Stat n c W z := by
  have := sumN_rest (F.all z) fun e he => by
    have := h e he
    rw [bal_row he] at this
    exact this
  intro e he
  have := this e he
  omega
theorem bal_inj (F : Flow n c W) (O : OneCl n c G) (z : Nat → Int) (h : ∀ r, r < n → sumN n (fun m => balA n c W r m * z m) = 0) : ∀ m, m < n → z m = 0 := by
  have n0 : 0 < n := by obtain ⟨b, hb, _⟩ := O.some; omega
  refine F.inj O (bal_stat F fun r hr => h r (by omega)) ?_
  have := h (n - 1) (by omega)
  rw [bal_last (by omega)] at this
  exact this
theorem bal_sol (F : Flow n c W) (O : OneCl n c G) {X : Nat → Int} {d : Int} (d0 : d ≠ 0) (h : ∀ r, r < n → sumN n (fun m => balA n c W r m * X m) = d * balA n c W r n) :
    ∃ (z : Nat → Int) (t : Int), 0 < t ∧ ((t = d ∧ z = X) ∨ (t = -d ∧ z = fun m => -X m)) ∧ Stat n c W z ∧ sumN n z = t ∧ (∀ b, b < n → 0 ≤ z b) ∧ ∀ b, b < n → (0 < z b ↔ G b) := by
  have n0 : 0 < n := by obtain ⟨b, hb, _⟩ := O.some; omega
  have S : Stat n c W X := bal_stat F fun r hr => by
    rw [h r (by omega)]
    unfold balA
    rw [if_pos hr, if_pos rfl, Int.mul_zero]
  have e : sumN n X = d := by
    have := h (n - 1) (by omega)
    rw [bal_last (by omega)] at this
    rw [this]
    unfold balA
    rw [if_neg (by omega), Int.mul_one]
  have key : ∀ (z : Nat → Int) (t : Int), 0 < t → Stat n c W z → sumN n z = t → (∀ b, b < n → 0 ≤ z b) ∧ ∀ b, b < n → (0 < z b ↔ G b) := fun z t t0 Sz ez => by
    have p : ∃ b, b < n ∧ 0 < z b := by
      apply Classical.byContradiction
      intro hn
      have h1 : 0 ≤ sumN n (fun b => -z b) := sumN_nn fun b hb => by
        have : ¬ 0 < z b := fun h => hn ⟨b, hb, h⟩
        omega
      have : (fun b => -z b) = fun b => (-1) * z b := funext fun b => by omega
      rw [this, sumN_mul] at h1
      omega
    exact ⟨F.sign O Sz p, F.supp O (F.sign O Sz p) Sz p⟩
  by_cases dp : 0 < d
  · obtain ⟨k1, k2⟩ := key X d dp S e
    exact ⟨X, d, dp, .inl ⟨rfl, rfl⟩, S, e, k1, k2⟩
  · have e2 : sumN n (fun b => -X b) = -d := by
      have : (fun b => -X b) = fun b => (-1) * X b := funext fun b => by omega
      rw [this, sumN_mul, e]
      omega
    obtain ⟨k1, k2⟩ := key _ (-d) (by omega) S.neg e2
    exact ⟨_, -d, by omega, .inr ⟨rfl, rfl⟩, S.neg, e2, k1, k2⟩
theorem l1_sum (v : Ve) : ∀ n : Nat, ((l1 (List.range n) v : Nat) : Int) = sumN n fun r => ((v r).natAbs : Int)
  | 0 => rfl
  | n + 1 => by
    have h := l1_sum v n
    unfold l1 at h ⊢
    rw [List.range_succ, List.map_append, List.sum_append]
    show _ = sumN n (fun r => ((v r).natAbs : Int)) + ((v n).natAbs : Int)
    rw [← h]
    simp
theorem bal_l1 (F : Flow n c W) {K : Nat} (hK : 2 * W + 1 ≤ (K : Int)) : ∀ j, j ≤ n → l1 (List.range n) (colA (balA n c W) j) ≤ K := by
  intro j hj
  have h : ((l1 (List.range n) (colA (balA n c W) j) : Nat) : Int) ≤ 2 * W + 1 := by
    rw [l1_sum]
    have last : ∀ g : Nat → Int, (∀ r, r < n → 0 ≤ g r) → sumN n (fun r => g r + (if r + 1 = n then 1 else 0)) ≤ sumN n g + 1 := fun g hg => by
      rw [sumN_add]
      by_cases n0 : 0 < n
      · rw [sumN_one (i := n - 1) (by omega) (fun m _ q => if_neg (by omega)), if_pos (by omega)]
        omega
      · have : n = 0 := by omega
        subst this
        show (0 : Int) + 0 ≤ 0 + 1
        decide
    by_cases e : j = n
    · have h1 : (sumN n fun r => ((colA (balA n c W) j r).natAbs : Int)) ≤ sumN n (fun r => 0 + (if r + 1 = n then 1 else 0)) := sumN_mono fun r hr => by
        show ((balA n c W r j).natAbs : Int) ≤ _
        unfold balA
        by_cases q : r + 1 < n
        · rw [if_pos q, if_pos e, if_neg (by omega)]; decide
        · rw [if_neg q, if_pos (by omega)]; decide
      have h2 := last (fun _ => 0) fun _ _ => Int.le_refl 0
      rw [sumN_zero] at h2
      have := F.W0
      omega
    · have hj' : j < n := by omega
      have h1 : (sumN n fun r => ((colA (balA n c W) j r).natAbs : Int)) ≤ sumN n (fun r => (c j r + (if r = j then W else 0)) + (if r + 1 = n then 1 else 0)) := sumN_mono fun r hr => by
        show ((balA n c W r j).natAbs : Int) ≤ _
        have p := F.nn j r hj' hr
        have w := F.W0
        unfold balA
        by_cases q : r + 1 < n
        · rw [if_pos q, if_neg e, if_neg (show ¬ r + 1 = n by omega)]
          by_cases q2 : j = r
          · rw [if_pos q2, if_pos q2.symm]; omega
          · rw [if_neg q2, if_neg (Ne.symm q2)]; omega
        · rw [if_neg q, if_pos (show r + 1 = n by omega)]
          by_cases q2 : r = j
          · rw [if_pos q2]; omega
          · rw [if_neg q2]; omega
      have h2 := last (fun r => c j r + (if r = j then W else 0)) fun r hr => by
        have p := F.nn j r hj' hr
        have w := F.W0
        by_cases q2 : r = j
        · rw [if_pos q2]; omega
        · rw [if_neg q2]; omega
      have h3 : sumN n (fun r => c j r + (if r = j then W else 0)) = W + W := by
        rw [sumN_add, show sumN n (fun r => c j r) = W from F.row j hj', sumN_one (i := j) hj' (fun m _ q => if_neg q), if_pos rfl]
      rw [h3] at h2
      omega
  omega
end
section
variable {X : Cx}
/-- a // b, b any but 0 -/
def CDivZ (i j : Int) : Prop := j ≠ 0 ∧ j.natAbs.log2 < 9000
theorem op_fdivZ : OpR X (binaryOp .FloorDiv) (rI CDivZ fun i j => .int (i.fdiv j)) := opI fun i j _ _ _ _ _ hc q => by
  have h1 : j ≠ 0 := hc.1
  exact floordiv_int h1 q (.inl (PyProof.noPylong_of_log2 hc.2))
theorem div_ok {i j : Int} {b : Nat} (h : j ≠ 0) (hb : j.natAbs < 2 ^ b) (h0 : 0 < b) (h9 : b ≤ 9000) : CDivZ i j := ⟨h, Nat.lt_of_lt_of_le (PySem.Flt.log2_lt_of h0 hb) h9⟩
end
/-! ### fractions: the mathematics -/
def gcdI (x y : Int) : Int := ((Nat.gcd x.natAbs y.natAbs : Nat) : Int)
def frac (x y : Int) : Int × Int := (x / gcdI x y, y / gcdI x y)
theorem gcdI_pos {x y : Int} (h : 0 < y) : 0 < gcdI x y := by
  unfold gcdI
  have : 0 < Nat.gcd x.natAbs y.natAbs := Nat.gcd_pos_of_pos_right _ (by omega)
  omega
theorem gcdI_dl (x y : Int) : gcdI x y ∣ x := by
  unfold gcdI
  exact Int.ofNat_dvd_left.mpr (Nat.gcd_dvd_left _ _)
theorem gcdI_dr (x y : Int) : gcdI x y ∣ y := by
  unfold gcdI
  exact Int.ofNat_dvd_left.mpr (Nat.gcd_dvd_right _ _)
theorem gcdI_scale {k : Int} (hk : 0 < k) (x y : Int) : gcdI (k * x) (k * y) = k * gcdI x y := by
  unfold gcdI
  rw [Int.natAbs_mul, Int.natAbs_mul, Nat.gcd_mul_left]
  have : ((k.natAbs : Nat) : Int) = k := by omega
  rw [Int.natCast_mul, this]
theorem frac_scale {k : Int} (hk : 0 < k) (x y : Int) : frac (k * x) (k * y) = frac x y := by
  unfold frac
  rw [gcdI_scale hk, Int.mul_ediv_mul_of_pos _ _ hk, Int.mul_ediv_mul_of_pos _ _ hk]
theorem frac_l (x y : Int) : gcdI x y * (frac x y).1 = x := Int.mul_ediv_cancel' (gcdI_dl x y)
theorem frac_r (x y : Int) : gcdI x y * (frac x y).2 = y := Int.mul_ediv_cancel' (gcdI_dr x y)
theorem frac_pos {x y : Int} (h : 0 < y) : 0 < (frac x y).2 := by
  have h1 := frac_r x y
  have h2 := gcdI_pos (x := x) h
  refine Int.not_le.mp fun hn => ?_
  have h3 := Int.mul_le_mul_of_nonneg_left hn (Int.le_of_lt h2)
  rw [h1, Int.mul_zero] at h3
  omega
theorem frac_le {x y : Int} (h : 0 < y) : (frac x y).2 ≤ y := by
  have h1 := frac_r x y
  have h2 := gcdI_pos (x := x) h
  have h3 := frac_pos (x := x) h
  have h4 : 1 * (frac x y).2 ≤ gcdI x y * (frac x y).2 := Int.mul_le_mul_of_nonneg_right (by omega) (by omega)
  omega
theorem frac_nn {x y : Int} (hx : 0 ≤ x) (h : 0 < y) : 0 ≤ (frac x y).1 := Int.ediv_nonneg hx (Int.le_of_lt (gcdI_pos h))
theorem frac_top {x y : Int} (hx : 0 ≤ x) (h : 0 < y) : (frac x y).1 ≤ x := Int.ediv_le_self _ hx
theorem frac_idem {x y : Int} (h : 0 < y) : frac (frac x y).1 (frac x y).2 = frac x y := by
  have h2 := gcdI_pos (x := x) h
  have e := frac_scale h2 (frac x y).1 (frac x y).2
  rw [frac_l, frac_r] at e
  exact e.symm
/-- the sum of two fractions of one bottom -/
theorem frac_add {x y z : Int} (h : 0 < z) : frac ((frac x z).1 * (frac y z).2 + (frac y z).1 * (frac x z).2) ((frac x z).2 * (frac y z).2) = frac (x + y) z := by
  have g1 := gcdI_pos (x := x) h
  have g2 := gcdI_pos (x := y) h
  have e1 := frac_l x z
  have e2 := frac_r x z
  have e3 := frac_l y z
  have e4 := frac_r y z
  generalize (frac x z).1 = a at *
  generalize (frac x z).2 = b at *
  generalize (frac y z).1 = c at *
  generalize (frac y z).2 = d at *
  generalize gcdI x z = k at *
  generalize gcdI y z = l at *
  rw [← frac_scale (Int.mul_pos g1 g2)]
  have f1 : k * l * (a * d + c * b) = z * (x + y) := by
    have : k * l * (a * d + c * b) = (k * a) * (l * d) + (l * c) * (k * b) := by
      rw [Int.mul_add]
      congr 1
      · ac_rfl
      · ac_rfl
    rw [this, e1, e4, e3, e2, Int.mul_add, Int.mul_comm x z, Int.mul_comm y z]
  have f2 : k * l * (b * d) = z * z := by
    have : k * l * (b * d) = (k * b) * (l * d) := by ac_rfl
    rw [this, e2, e4]
  rw [f1, f2]
  exact frac_scale h _ _
theorem frac_self {z : Int} (h : 0 < z) : frac z z = (1, 1) := by
  have e := frac_scale h 1 1
  rw [Int.mul_one] at e
  rw [e]
  decide
theorem frac_zero {z : Int} (h : 0 < z) : frac 0 z = (0, 1) := by
  have e := frac_scale h 0 1
  rw [Int.mul_one, Int.mul_zero] at e
  rw [e]
  decide
/-- the steps of the law's own reckoning keep the greatest divisor -/
theorem gcdI_step {x y : Int} (hx : 0 ≤ x) (hy : 0 < y) : gcdI y (x % y) = gcdI x y := by
  unfold gcdI
  have h1 : (x % y).natAbs = x.natAbs % y.natAbs := Int.natAbs_emod_of_nonneg hx y |> fun z => z
  rw [h1]
  congr 1
  rw [Nat.gcd_comm, ← Nat.gcd_rec, Nat.gcd_comm]
theorem gcdI_zero {x : Int} (hx : 0 ≤ x) : gcdI x 0 = x := by
  unfold gcdI
  rw [show (0 : Int).natAbs = 0 from rfl, Nat.gcd_zero_right]
  omega
theorem gcdI_abs (x y : Int) : gcdI (if x < 0 then -x else x) y = gcdI x y := by
  unfold gcdI
  congr 2
  split <;> omega

/-! ### enumerate(a tuple): a rule of our own -/
set_option maxHeartbeats 1000000 in
theorem enum_new1 {v : Value} {o : Obj} {Hc : Heap → Prop} (B : Begins v o Hc) : Meets (Builtin.«enumerate.__new__» ⟨[.type "enumerate", v], []⟩) (fun _ R s => Hc s.heap ∧
    R (.ok (.ret (.ref (s.heap.push o).objs.size))) { s with heap := (s.heap.push o).push { cls := .type "enumerate", data := .fields #[.none, .bool false, .ref s.heap.objs.size, rawInt 0, .none, .none] } }) := by
  refine .of_wp fun prog w A R s hR => ?_
  obtain ⟨hp, gn, dr, tk, os⟩ := s
  obtain ⟨hc, hR⟩ := hR
  have subE := sub_enumerate
  have begin_ : ∀ {A' : Around} {E Q : Value → Shared → Prop}, Q (.ref hp.objs.size) ⟨hp.push o, gn, dr, tk, os⟩ → wpAny (model prog w) A' (pyIter v) Q E ⟨hp, gn, dr, tk, os⟩ := fun q => B.iter prog w _ _ ⟨hp, gn, dr, tk, os⟩ _ hc q
  wp_walk using begin_
  refine wpAny_stack_any fun st => wpAny_pure ?_
  split
  case h_1 c _ _ _ _ _ =>
    cases (c == Value.type "enumerate") <;> (wp_walk using begin_; exact ⟨_, rfl, hR⟩)
  all_goals (wp_walk using begin_; exact ⟨_, rfl, hR⟩)
theorem call_enum1 {prog : Program} {w : World} {A : Around} {E : Value → Shared → Prop} {s : Shared} {v : Value} {o : Obj} {Hc : Heap → Prop} {Q : Value → Shared → Prop} (B : Begins v o Hc) (hc : Hc s.heap)
    (h : ∀ h', IsEnum h' (s.heap.objs.size + 1) s.heap.objs.size 0 .none → h'.get? s.heap.objs.size = some o → (∀ b u, s.heap.get? b = some u → h'.get? b = some u) → Q (.ref (s.heap.objs.size + 1)) { s with heap := h' }) :
    wpAny (model prog w) A (call (.type "enumerate") [v]) Q E s := by
  refine callType_new F.called_enumerate (by decide) (F.typeCall_enumerate_1 _) (F.newCall_enumerate_1 _) (fun obj => F.args_object_init_2 obj _) F.entry_enumerate_new (enum_new1 B) ⟨hc, ?_⟩
  have sz : (s.heap.push o).objs.size = s.heap.objs.size + 1 := Heap.size_push ..
  have e1 := Heap.get?_push_size (s.heap.push o) (o := { cls := .type "enumerate", data := .fields #[.none, .bool false, .ref s.heap.objs.size, rawInt 0, .none, .none] }) rfl
  rw [sz] at e1
  show _ ∧ _
  rw [sz]
  exact ⟨⟨_, e1, rfl⟩, h _ e1 (Heap.get?_push_of_some _ (Heap.get?_push_size _ B.free)) fun b u e => Heap.get?_push_of_some _ (Heap.get?_push_of_some _ e)⟩
/-- the tuple at a, each item in a new pair -/
def ItEt (K : PySem.W.Frag) (a : Addr) : It :=
  ⟨fun i H => ∃ (xs : List V) (x : V), SqT K H a xs ∧ xs[i]? = some x, fun i H v H' => ∃ T x, v = .ref T ∧ H T = none ∧ H' = upd H T (.tup [.int (i : Nat), x]) ∧ ∀ xs, SqT K H a xs → xs[i]? = some x, fun i H => ∃ xs : List V, SqT K H a xs ∧ xs.length = i⟩
theorem turn_enumT {P : Program} {w : World} {K : PySem.W.Frag} {elts : List Expr} {kk : Nat} {tpos : Pos} (a e it : Addr) :
    Turn P w K (.Tuple elts kk tpos) (ItEt K a) [e, it] e (fun i h => (∃ old, IsEnum h e it ((i : Nat) : Int) old) ∧ h.IsTupleIter it a i ∧ e ≠ it ∧ a ≠ it ∧ a ≠ e) where
  mem := List.mem_cons_self
  obj := fun i h ⟨⟨old, he⟩, ⟨o, ho, _, hd⟩, _⟩ b hb => by
    rcases List.mem_cons.mp hb with z | z
    · subst z
      exact ⟨_, he, fun v q => nomatch q⟩
    · have z2 : b = it := by simpa using z
      subst z2
      exact ⟨o, ho, fun v q => by rw [hd] at q; cases q⟩
  keep := fun i h h' ⟨⟨old, he⟩, ⟨o, ho, r⟩, hne⟩ k => ⟨⟨old, k e List.mem_cons_self _ he⟩, ⟨o, k it (by simp) o ho, r⟩, hne⟩
  item := by
    intro X hP hw hK hc i pins s σ H E I hf ⟨⟨old, he⟩, hit, hne, nai, nae⟩ ⟨xs, x, hq, hx⟩
    subst hP hw hK
    obtain ⟨its, rv, tp, hz⟩ := I.tuple hq
    have tp1 : s.heap.IsTuple a its.toArray := tp
    obtain ⟨u, hu, ru⟩ := rv.get hx
    have lte : e < s.heap.objs.size := Heap.lt_size he
    have lti : it < s.heap.objs.size := let ⟨_, q, _⟩ := hit; Heap.lt_size q
    have hh : X.A.in1.handled = none := I.ok.hd hc
    have Dr := Draws.tuple (prog := X.prog) (w := X.w) hh it a nai its.toArray
    have hlt : i < its.toArray.size := by
      obtain ⟨q, _⟩ := List.getElem?_eq_some_iff.mp hu
      simpa using q
    refine wpAny_pyNext_enum_itemD Dr he ⟨hit, tp1⟩ hlt hne (by simp [hne, Ne.symm nae]) fun x' h' tk hP ho ⟨hit', _⟩ hT hsz hk => ⟨_, rfl, wpAny_letOwnedTupleGo_enum (s := { s with heap := h', toks := tk + 1 }) ho fun h2 he2 sb => ?_⟩
    have ex' : x' = u := by
      have q : its[i]? = some x' := by simpa using hP
      rw [hu] at q
      exact (Option.some.inj q).symm
    subst ex'
    have hT2 : h2.get? s.heap.objs.size = some { cls := .type "tuple", data := .seq #[.int i tk, x'] } := (sb.2 _ (Nat.ne_of_gt lte)).trans hT
    have new : ObjOk X.prog X.w (upd H s.heap.objs.size (.tup [.int (i : Nat), x])) h2 s.heap.objs.size (.tup [.int (i : Nat), x]) := ⟨by show 2 ≤ sizeLine; decide, [.int i tk, x'], .cons ⟨_, rfl⟩ (.cons ru .nil), ⟨_, hT2, rfl, _, rfl⟩⟩
    have I1 : Inv X pins σ (upd H s.heap.objs.size (.tup [.int (i : Nat), x])) { s with heap := h2, toks := tk + 1 } :=
      I.turnedNew (ch := [e, it]) (fun b ob hb q => (sb.2 b (fun z => hb (by simp [z]))).trans (hk b ob (fun z => hb (by simp [z])) (fun z => hb (by simp [z])) q)) hf (Nat.le_refl _) new
    refine ⟨.ref s.heap.objs.size, _, I1, rfl, ⟨_, x, rfl, I.hok.fresh (Nat.le_refl _), rfl, fun ys hy => by rw [I.tuple_inj hy hq]; exact hx⟩, ⟨⟨x', ?_⟩, ?_, hne, nai, nae⟩, fun b hb => ?_⟩
    · rw [show ((i + 1 : Nat) : Int) = (i : Int) + 1 by omega]
      exact he2
    · obtain ⟨o, q1, q2⟩ := hit'
      exact ⟨o, (sb.2 it (Ne.symm hne)).trans q1, q2⟩
    · have ltb : b < s.heap.objs.size := by
        rcases List.mem_cons.mp hb with z | z
        · rw [z]
          exact lte
        · have z2 : b = it := by simpa using z
          rw [z2]
          exact lti
      rw [upd_ne (Nat.ne_of_lt ltb)]
      exact (hf b hb).1
  done := by
    intro X hP hw hK hc i pins s σ H E I hf ⟨⟨old, he⟩, hit, hne, nai, nae⟩ ⟨xs, hq, hx⟩
    subst hP hw hK
    obtain ⟨its, rv, tp, hz⟩ := I.tuple hq
    have tp1 : s.heap.IsTuple a its.toArray := tp
    have hh : X.A.in1.handled = none := I.ok.hd hc
    have Dr := Draws.tuple (prog := X.prog) (w := X.w) hh it a nai its.toArray
    have en : i = its.toArray.size := by
      have := rv.length
      simp only [List.size_toArray]
      omega
    subst en
    obtain ⟨f0, f1, f2, f3, f4, f5⟩ := hf it (by simp)
    exact wpAny_pyNext_enum_endD Dr he ⟨hit, tp1⟩ fun h' eb => ⟨rfl, I.turned (t' := s.toks) (fun b o hb q => eb b o hb q) f0 f1 f3 f4 f5⟩
  self := fun A i s Q E ⟨⟨_, he⟩, _⟩ h => wpAny_pyIter_enum he h
def iEnumT (K : PySem.W.Frag) (ta : TA) : TI := fun σ H R => ta σ H fun vs H1 => ∃ a xs, vs = [.ref a] ∧ SqT K H1 a xs ∧ R (ItEt K a) H1
theorem pi_enumT {X : Cx} {e : Expr} {ta : TA} {p pos tpos : Pos} {elts : List Expr} {kk : Nat} (hg : Gl X "enumerate") (hm : X.mg "enumerate" = none) (ha : PA X [e] ta) (hs : starEach [e] X.env = [(false, eval e X.env)] := by rfl) :
    PI X (.Tuple elts kk tpos) (.Call (.Name "enumerate" p) [e] [] pos) (iEnumT X.K ta) := by
  refine ⟨fun pins s σ H R I h => Call_ (ld_blt I hg hm boot_enumerate (PyProof.Rows.callWith_type1 (thn (ha.run pos pins s σ H _ I h) fun us s1 hq => ?_) hs rfl))⟩
  obtain ⟨vs, H1, I1, r1, a, xs, ex, hq, q⟩ := hq
  subst ex
  cases r1 with
  | cons r rr =>
    cases rr
    cases r
    obtain ⟨its, rv, tp, hz⟩ := I1.tuple hq
    have tp1 : s1.heap.IsTuple a its.toArray := tp
    have lta : a < s1.heap.objs.size := let ⟨_, g, _⟩ := tp1; Heap.lt_size g
    refine call_enum1 (begins_tuple a its.toArray) tp1 fun h' he hit hk => wpAny_pyIter_enum he ?_
    refine ⟨s1.heap.objs.size + 1, [s1.heap.objs.size + 1, s1.heap.objs.size], _, _, H1, rfl, I1.kept (t' := s1.toks) hk, turn_enumT a (s1.heap.objs.size + 1) s1.heap.objs.size, ⟨⟨.none, he⟩, ⟨_, hit, rfl, rfl⟩, Nat.succ_ne_self _, Nat.ne_of_lt lta, Nat.ne_of_lt (Nat.lt_succ_of_lt lta)⟩, fun b hb => ?_, q⟩
    have hle : s1.heap.objs.size ≤ b := by
      rcases List.mem_cons.mp hb with z | z
      · rw [z]
        exact Nat.le_succ _
      · have z2 : b = s1.heap.objs.size := by simpa using z
        rw [z2]
        exact Nat.le_refl _
    exact I1.fpOk hle (I1.hok.fresh hle)
theorem walk_enumT {K : PySem.W.Frag} {a : Addr} {xs : List V} : Walk (ItEt K a) xs.length (fun H => SqT K H a xs) (YPair (fun i => some (.int (i : Nat))) (fun i => xs[i]?)) :=
  ⟨fun i _ hi q => ⟨xs, xs[i], q, by simp [hi]⟩, fun _ q => ⟨xs, q, rfl⟩, fun i H v H' _ q ⟨T, x, h1, h2, h3, h4⟩ => ⟨T, .int (i : Nat), x, h1, h2, h3, rfl, h4 xs q⟩⟩
/-! ### isinstance(e, (A, B, ..)) of the exception that an except suite holds: a rule of our own -/
/-- e, the classes in a tuple -/
def rExT (K : PySem.W.Frag) (D a : Addr) : List V → Hp → VK → Prop := fun xs H Q =>
  ∃ (tp : Addr) (cs : List V) (us : List Value) (b : Bool), xs = [.ref a, .ref tp] ∧ H tp = some (.tup cs) ∧ Paired ClsV cs us ∧ PySem.W.kitAny K (.ref D) us = some b ∧ Q (.bl b) H
theorem held_at {oe : Obj} {a D : Addr} {h : Heap} (got : h.get? a = some oe) (z : Zc (.ref D) none oe) (f : ∃ vs, oe.data = .fields vs) : PySem.W.InstAt h a oe D none := by
  obtain ⟨vs, fv⟩ := f
  obtain ⟨c0, d0, data0, s0⟩ := oe
  have z1 : c0 = .ref D := z.1
  have z2 : d0 = none := z.2
  have z3 : data0 = .fields vs := fv
  subst z1
  subst z2
  subst z3
  exact ⟨got, rfl, rfl, trivial⟩
theorem call_exT {X : Cx} {a D : Addr} {oe : Obj} {pn : List (Addr × Obj)} (C : ExcC X.K D) (z : Zc (.ref D) none oe) (f : ∃ vs, oe.data = .fields vs) : CallR (X.suite a ((a, oe) :: pn)) (.builtin "isinstance") (rExT X.K D a) := by
  intro pins s σ H xs us Q I r h
  obtain ⟨tp, cs, ws, b, rfl, hT, k, e, q⟩ := h
  obtain ⟨u1, u2, rfl, r1, r2⟩ := vals2 r
  cases (show u1 = Value.ref a from r1)
  cases (show u2 = Value.ref tp from r2)
  have got := (I.pin (a, oe) (List.mem_append.mpr (.inl List.mem_cons_self))).1
  obtain ⟨_, its, rv, ⟨oc, od, dt, sl⟩, g1, g2, n, g3⟩ := (show ObjOk X.prog X.w H s.heap tp (.tup cs) from I.hok tp _ hT)
  have same := ClsV.all k rv
  subst same
  have c1 : oc = .type "tuple" := g2
  have c2 : dt = .seq its.toArray n := g3
  subst c1
  subst c2
  exact PySem.W.kia_tup (PySem.W.handS_kitx_exc C.hg C.hk C.hs C.hd C.ha C.hn C.ht C.hm) I.kIn (held_at got z f) g1 e (fun z => nomatch z) fun tk => ⟨.bl b, H, I.tok tk, rfl, q⟩
/-- an own error without an __init__ of its own, at C -/
structure OwnE (K : PySem.W.Frag) (mg : Str → Option Value) (x : Str) (C : Addr) : Prop where
  g : mg x = some (.ref C)
  k : PySem.W.keepIn K (.ref C) = true
  x : PySem.W.excIn K C [.type "ValueError", .type "Exception", .type "BaseException", .type "object"] "ValueError.__new__" = true
  b : PySem.W.subIn K (.ref C) (.type "BaseException") = some true
  t : PySem.W.typeIn K (.ref C) = some (.type "type")
theorem app_fits {a b : Str} (h1 : a.length ≤ 1000) (h2 : b.length ≤ 1921) : (a ++ b).length ≤ sizeLine := by
  have e : (a ++ b).length = a.length + b.length := by
    show (a.cps ++ b.cps).size = a.cps.size + b.cps.size
    rw [Array.size_append]
  rw [e]
  exact Nat.le_trans (show a.length + b.length ≤ 2921 by omega) (by decide)
theorem app_le {a b : Str} {m n : Nat} (h1 : a.length ≤ m) (h2 : b.length ≤ n) : (a ++ b).length ≤ m + n := by
  have e : (a ++ b).length = a.length + b.length := by
    show (a.cps ++ b.cps).size = a.cps.size + b.cps.size
    rw [Array.size_append]
  omega
theorem line4k {n : Nat} (h : n ≤ 9000) : n ≤ sizeLine := Nat.le_trans h (by decide)
theorem log_small {n : Int} (h : n.natAbs ≤ 2000000) : n.natAbs.log2 < 1920 := by
  by_cases c : n.natAbs = 0
  · rw [c]
    decide
  · exact (Nat.log2_lt c).mpr (Nat.lt_of_le_of_lt h (by decide))
theorem int_len {n : Int} (h : n.natAbs.log2 < 1920) : (Str.ofString (toString n)).length ≤ 1921 := by
  have e := int_text_length_le (k := 1920) (by decide) h
  rw [PySem.ofString_length]
  omega
theorem fitA {a b : Str} {m n : Nat} (h1 : a.length ≤ m) (h2 : b.length ≤ n) (h : m + n ≤ 9000) : (a ++ b).length ≤ sizeLine := Nat.le_trans (app_le h1 h2) (line4k h)
/-! ### an error that is caught and looked at: isinstance(e, (six others)), then isinstance(e, its own) and isinstance(e, ValueError) -/
theorem FnOk.or {P : Program} {w : World} {K : PySem.W.Frag} {mg : Str → Option Value} {base : Heap} {CX : CXT} {k : Nat} {f : Addr} {fd : FuncData} {ps : List Str} {sp sq : Sp} (F : FnOk P w K mg base CX k f fd ps sp) (G : FnOk P w K mg base CX k f fd ps sq) : FnOk P w K mg base CX k f fd ps (fun vs H Q E => sp vs H Q E ∨ sq vs H Q E) :=
  ⟨fun vs H Q E h => h.elim (F.len vs H Q E) (G.len vs H Q E), fun A outer s H args us vs Q E hr e b v h => h.elim (F.run A outer s H args us vs Q E hr e b v) (G.run A outer s H args us vs Q E hr e b v)⟩
theorem pss_given {X : Cx} {ss : List Stmt} {t : TS} {p : Prop} (h : p → PSs X ss t) : PSs X ss (fun D σ H => p ∧ t D σ H) := ⟨fun pins s σ H D I hh => (h hh.1).run pins s σ H D I hh.2⟩
structure RefG (K : PySem.W.Frag) (mg : Str → Option Value) (xE x1 x2 x3 x4 x5 x6 : Str) (CL CE c1 c2 c3 c4 c5 c6 : Addr) : Prop where
  gL : mg "LongError" = some (.ref CL)
  ex : PySem.W.exmOne K (.ref CE) (.ref CL) = some true
  N : OwnE K mg xE CE
  E : ExcC K CE
  g1 : mg x1 = some (.ref c1)
  g2 : mg x2 = some (.ref c2)
  g3 : mg x3 = some (.ref c3)
  g4 : mg x4 = some (.ref c4)
  g5 : mg x5 = some (.ref c5)
  g6 : mg x6 = some (.ref c6)
  no : PySem.W.kitAny K (.ref CE) [.ref c1, .ref c2, .ref c3, .ref c4, .ref c5, .ref c6] = some false
  yes : PySem.W.kitOne K (.ref CE) (.ref CE) = some true
  val : PySem.W.kitOne K (.ref CE) (.type "ValueError") = some true
  mi : mg "isinstance" = none
  mv : mg "ValueError" = none
def t_suiteG (K : PySem.W.Frag) (i : Nat) (CE c1 c2 c3 c4 c5 c6 : Addr) (a : Addr) : TS :=
  tSeq (tIfS (tB (tCB (rExT K CE a) (tCons (tVar i) (tCons (tTup (tCons (tC (.ref c1)) (tCons (tC (.ref c2)) (tCons (tC (.ref c3)) (tCons (tC (.ref c4)) (tCons (tC (.ref c5)) (tCons (tC (.ref c6)) tNil))))))) tNil)))) (tRet (tC (.bl false))) tNext)
    (tRet (tAndV (tCB (rIsE K CE a) (tCons (tVar i) (tCons (tC (.ref CE)) tNil))) (tCB (rIsE K CE a) (tCons (tVar i) (tCons (tC (.ty "ValueError")) tNil)))))
/-- what the suite comes to -/
theorem suiteG {K : PySem.W.Frag} {mg : Str → Option Value} {xE x1 x2 x3 x4 x5 x6 : Str} {CL CE c1 c2 c3 c4 c5 c6 a : Addr} (R : RefG K mg xE x1 x2 x3 x4 x5 x6 CL CE c1 c2 c3 c4 c5 c6) {i : Nat} {D : Ends} {σ : L2.St} {H : Hp} (hi : σ[i]? = some (some (.ref a)))
    (q : ∀ p o, H p = none → D.rt (.bl true) (upd H p o)) : t_suiteG K i CE c1 c2 c3 c4 c5 c6 a D σ H := by
  refine ⟨.ref a, hi, (by show 6 ≤ sizeLine; decide), fun tp ntp => ?_⟩
  refine ⟨tp, _, _, false, rfl, upd_same, .cons (.own _) (.cons (.own _) (.cons (.own _) (.cons (.own _) (.cons (.own _) (.cons (.own _) .nil))))), R.no, false, rfl, iteF ?_⟩
  refine ⟨.ref a, hi, .ref CE, _, true, rfl, (fun u r => r), R.yes, true, rfl, iteT ?_⟩
  exact ⟨.ref a, hi, .ty "ValueError", _, true, rfl, (fun u r => r), R.val, q _ _ ntp⟩
def goK (f : List Int) (p : Int) : Int := f.getD p.toNat 0
theorem rise_same : ∀ {xs ys : List Int}, xs.Pairwise (· < ·) → ys.Pairwise (· < ·) → (∀ k, k ∈ xs ↔ k ∈ ys) → xs = ys
  | [], [], _, _, _ => rfl
  | [], y :: ys, _, _, h => by have := (h y).mpr List.mem_cons_self; simp at this
  | x :: xs, [], _, _, h => by have := (h x).mp List.mem_cons_self; simp at this
  | x :: xs, y :: ys, hx, hy, h => by
    obtain ⟨x1, x2⟩ := List.pairwise_cons.mp hx
    obtain ⟨y1, y2⟩ := List.pairwise_cons.mp hy
    have e : x = y := by
      rcases List.mem_cons.mp ((h x).mp List.mem_cons_self) with a | a
      · exact a
      · rcases List.mem_cons.mp ((h y).mpr List.mem_cons_self) with b | b
        · exact b.symm
        · have := y1 x a
          have := x1 y b
          omega
    subst e
    rw [rise_same x2 y2 fun k => ⟨fun hk => ?_, fun hk => ?_⟩]
    · rcases List.mem_cons.mp ((h k).mp (List.mem_cons_of_mem _ hk)) with a | a
      · have := x1 k hk
        omega
      · exact a
    · rcases List.mem_cons.mp ((h k).mpr (List.mem_cons_of_mem _ hk)) with a | a
      · have := y1 k hk
        omega
      · exact a
/-! ### what is the same in all these texts: heaps -/
/-- all that is tracked, but at d, is as it was -/
def Gr (d : Addr) (H H' : Hp) : Prop := ∀ b o, b ≠ d → H b = some o → H' b = some o
theorem Gr.refl (d : Addr) (H : Hp) : Gr d H H := fun _ _ _ e => e
theorem Gr.trans {d : Addr} {H H1 H2 : Hp} (a : Gr d H H1) (b : Gr d H1 H2) : Gr d H H2 := fun c o n e => b c o n (a c o n e)
theorem Gr.new {d : Addr} {H H1 : Hp} {p : Addr} {o : HO} (a : Gr d H H1) (h : H1 p = none) : Gr d H (upd H1 p o) := fun b u n e => by
  have q := a b u n e
  rw [upd_ne (ne_of_none q h)]
  exact q
theorem Gr.off {d : Addr} {H H1 H2 : Hp} (a : Gr d H H1) (h : ∀ b, b ≠ d → H2 b = H1 b) : Gr d H H2 := fun b u n e => by
  rw [h b n]
  exact a b u n e
theorem same_new {H : Hp} {p : Addr} {o : HO} (h : H p = none) : Same H (upd H p o) := fun b x e => by
  rw [upd_ne (ne_of_none e h)]
  exact e
theorem Gr.of_same {d : Addr} {H H' : Hp} (s : Same H H') : Gr d H H' := fun b o _ e => s b o e
/-- the dice at d -/
def dl (s0 : Int) (l : Addr) (k big : Int) : List V := [.int s0, .ref l, .int k, .int big]
theorem map_int_dl {ns : List Int} {s0 k big : Int} {l : Addr} : ns.map V.int ≠ dl s0 l k big := by
  intro e
  have h : (ns.map V.int)[1]? = some (V.ref l) := by rw [e]; rfl
  rw [List.getElem?_map] at h
  cases q : ns[1]? with
  | none => rw [q] at h; cases h
  | some z => rw [q] at h; cases h
/-- a list that is known ahead of p's making, and p's writing -/
theorem seq_put {K : PySem.W.Frag} {H0 H : Hp} {l p : Addr} {xs : List V} {o : HO} (h0 : SqL K H0 l xs) (n0 : H0 p = none) (h : SqL K H l xs) : SqL K (upd H p o) l xs := by
  have ne : Rd H0 l (.lst xs) → l ≠ p := fun r => by
    rcases r with r | ⟨o', r⟩
    · exact ne_of_none r n0
    · exact ne_of_none r n0
  rcases h0 with r0 | k
  · have n := ne r0
    rcases h with (h | ⟨o', h⟩) | h
    · exact .inl (.inl (by rw [upd_ne n]; exact h))
    · exact .inl (.inr ⟨o', by rw [upd_ne n]; exact h⟩)
    · exact .inr h
  · exact .inr k
/-- the script stands when the dice turns -/
theorem seq_turn {K : PySem.W.Frag} {H H' : Hp} {d l l' : Addr} {ns : List Int} {s0 k big : Int} (hd : H d = some (.lst (dl s0 l' k big))) (h : SqL K H l (ns.map V.int)) (q : ∀ b, b ≠ d → H' b = H b) : SqL K H' l (ns.map V.int) := by
  rcases h with (h | ⟨o, h⟩) | h
  · refine .inl (.inl ?_)
    rw [q]
    · exact h
    · intro z
      rw [z, hd] at h
      injection h with h
      injection h with h
      exact map_int_dl h.symm
  · refine .inl (.inr ⟨o, ?_⟩)
    rw [q]
    · exact h
    · intro z
      rw [z, hd] at h
      cases h
  · exact .inr h
def Dc (K : PySem.W.Frag) (l : Addr) (ns : List Int) (H : Hp) (d : Addr) : Prop := ∃ (s0 k big : Int), H d = some (.lst (dl s0 l k big)) ∧ SqL K H l (ns.map V.int) ∧ ns.length ≤ 63 ∧ 0 ≤ s0 ∧ s0 < 2147483647 ∧ 0 ≤ k ∧ 0 ≤ big
theorem Dc.same {K : PySem.W.Frag} {H H' : Hp} {l d : Addr} {ns : List Int} (s : Same H H') (h : Dc K l ns H d) : Dc K l ns H' d := by
  obtain ⟨s0, k, big, h1, h2, h3⟩ := h
  exact ⟨s0, k, big, s _ _ h1, s.seq h2, h3⟩
theorem Dc.seq {K : PySem.W.Frag} {H : Hp} {l d : Addr} {ns : List Int} (h : Dc K l ns H d) : SqL K H l (ns.map V.int) := by
  obtain ⟨s0, k, big, h1, h2, h3⟩ := h
  exact h2
theorem Dc.new {K : PySem.W.Frag} {H : Hp} {l d p : Addr} {ns : List Int} {o : HO} (h : Dc K l ns H d) (n : H p = none) : Dc K l ns (upd H p o) d := h.same (same_new n)
theorem Dc.some {K : PySem.W.Frag} {H : Hp} {l d : Addr} {ns : List Int} (h : Dc K l ns H d) : ∃ s0 k big, H d = Option.some (HO.lst (dl s0 l k big)) := by
  obtain ⟨s0, k, big, h1, _⟩ := h
  exact ⟨s0, k, big, h1⟩
theorem Dc.ne {K : PySem.W.Frag} {H : Hp} {l d p : Addr} {ns : List Int} (h : Dc K l ns H d) (n : H p = none) : p ≠ d := by
  obtain ⟨s0, k, big, e⟩ := h.some
  exact (ne_of_none e n).symm
/-- the dice is a list that begins with an int and a ref: no other list that we know -/
theorem Dc.ne_of {K : PySem.W.Frag} {H : Hp} {l d p : Addr} {ns : List Int} {u : HO} (h : Dc K l ns H d) (n : H p = Option.some u) (q : ∀ s0 l k big, u ≠ .lst (dl s0 l k big)) : p ≠ d := by
  obtain ⟨s0, k, big, e⟩ := h.some
  intro z
  rw [z, e] at n
  exact q _ _ _ _ (Option.some.inj n).symm
/-- another list is written, one that is newer than the script -/
theorem Dc.turn {K : PySem.W.Frag} {H0 H : Hp} {l d d0 p : Addr} {ns : List Int} {o : HO} (h : Dc K l ns H d) (h0 : Dc K l ns H0 d0) (n0 : H0 p = none) (n : p ≠ d) : Dc K l ns (upd H p o) d := by
  obtain ⟨s0, k, big, h1, h2, h3⟩ := h
  refine ⟨s0, k, big, ?_, seq_put h0.seq n0 h2, h3⟩
  rw [upd_ne n.symm]
  exact h1
/-! ### a chain's data -/
abbrev Mv := Int × List Int
def GoodRow (many : Nat) (row : List Int) : Prop := row.length = many ∧ ∀ x ∈ row, 0 ≤ x ∧ x < (many : Int)
def GoodMv (many : Nat) (m : Mv) : Prop := 1 ≤ m.1 ∧ m.1 ≤ 99 ∧ GoodRow many m.2
structure Good (many : Nat) (ms : List Mv) : Prop where
  m1 : 1 ≤ many
  m6 : many ≤ 6
  l1 : 1 ≤ ms.length
  l8 : ms.length ≤ 8
  mv : ∀ m ∈ ms, GoodMv many m
def MoveAt (H : Hp) (v : V) (m : Mv) : Prop := ∃ a q, v = .ref a ∧ H a = some (.tup [.int m.1, .ref q]) ∧ H q = some (.tup (m.2.map V.int))
abbrev MovesAt (H : Hp) : List V → List Mv → Prop := Paired (MoveAt H)
theorem MoveAt.same {H H' : Hp} {v : V} {m : Mv} (s : ∀ b xs, H b = some (.tup xs) → H' b = some (.tup xs)) (h : MoveAt H v m) : MoveAt H' v m := by
  obtain ⟨a, q, e, h1, h2⟩ := h
  exact ⟨a, q, e, s _ _ h1, s _ _ h2⟩
theorem MovesAt.same {H H' : Hp} (s : ∀ b xs, H b = some (.tup xs) → H' b = some (.tup xs)) : ∀ {vs : List V} {ms : List Mv}, MovesAt H vs ms → MovesAt H' vs ms
  | _, _, .nil => .nil
  | _, _, .cons h t => .cons (h.same s) (MovesAt.same s t)
theorem MovesAt.snoc {H : Hp} {v : V} {m : Mv} (h : MoveAt H v m) : ∀ {vs : List V} {ms : List Mv}, MovesAt H vs ms → MovesAt H (vs ++ [v]) (ms ++ [m])
  | _, _, .nil => .cons h .nil
  | _, _, .cons q t => .cons q (MovesAt.snoc h t)
theorem MovesAt.get {H : Hp} : ∀ {vs : List V} {ms : List Mv} {i : Nat} {m : Mv}, MovesAt H vs ms → ms[i]? = some m → ∃ v, vs[i]? = some v ∧ MoveAt H v m
  | _, _, _, _, .nil, e => by simp at e
  | _, _, 0, _, .cons h _, e => by
    simp at e
    subst e
    exact ⟨_, rfl, h⟩
  | _, _, i + 1, m, .cons _ t, e => by
    obtain ⟨v, h1, h2⟩ := MovesAt.get (i := i) (m := m) t (by simpa using e)
    exact ⟨v, by simpa using h1, h2⟩
theorem MovesAt.get' {H : Hp} : ∀ {vs : List V} {ms : List Mv} {i : Nat} {v : V}, MovesAt H vs ms → vs[i]? = some v → ∃ m, ms[i]? = some m ∧ MoveAt H v m
  | _, _, _, _, .nil, e => by simp at e
  | _, _, 0, _, .cons h _, e => by
    simp at e
    subst e
    exact ⟨_, rfl, h⟩
  | _, _, i + 1, v, .cons _ t, e => by
    obtain ⟨m, h1, h2⟩ := MovesAt.get' (i := i) (v := v) t (by simpa using e)
    exact ⟨m, by simpa using h1, h2⟩
/-- a told chain: (many, moves) at t, the moves' list at m -/
def ToldAt (H : Hp) (t m : Addr) (many : Nat) (vs : List V) (ms : List Mv) : Prop := H t = some (.tup [.int (many : Int), .ref m]) ∧ H m = some (.lst vs) ∧ MovesAt H vs ms
theorem Gr.tups {d l : Addr} {ns : List Int} {H H' : Hp} {K : PySem.W.Frag} (hd : Dc K l ns H d) (g : Gr d H H') : ∀ b xs, H b = some (.tup xs) → H' b = some (.tup xs) := fun b xs e =>
  g b _ (hd.ne_of e fun _ _ _ _ q => nomatch q) e
theorem Same.tups {H H' : Hp} (g : Same H H') : ∀ b xs, H b = some (.tup xs) → H' b = some (.tup xs) := fun b xs e => g b _ e
theorem ifD {c A B : Prop} [Decidable c] (hc : c) (h : A) : if decide c = true then A else B := by
  rw [decide_eq_true hc]
  exact iteT h
theorem small8 {n : Nat} (h : n ≤ 8) : n < sizeLine := Nat.lt_of_le_of_lt h (by decide)
section
variable {P : Program} {w : World} {K : PySem.W.Frag} {mg : Str → Option Value} {base : Heap}
/-! ### _law_cell -/
theorem scCell : FnScope ["_law_script", "_law_k"] ["_law_script", "_law_k"] (defScope sCell) := ⟨rfl, rfl, rfl, by decide +kernel, rfl, by decide +kernel, by decide +kernel⟩
def spCell (K : PySem.W.Frag) : Sp := fun vs H Q _ => ∃ (l : Addr) (ns : List Int) (j : Int), vs = [.ref l, .int j] ∧ SqL K H l (ns.map V.int) ∧ 0 ≤ j ∧ ∀ x : Int, Q (.int x) H
theorem ok_cell {f : Addr} {fd : FuncData} {k : Nat} (F : Fun K "_law_cell" "_law_cell" sCell f fd) (ml : mg "len" = none) : FnOk P w K mg base CX0 (k + 1) f fd ["_law_script", "_law_k"] (spCell K) := by
  refine F.ok scCell (fun vs H Q E h => ?_) (fun cdv A outer s H vs Q E hr h => ?_)
  · obtain ⟨l, ns, j, rfl, _⟩ := h
    rfl
  · obtain ⟨l, ns, j, rfl, hS, hj, q⟩ := h
    refine ⟨_, pss_cons (ps_if (pt_cmpR op_lt (pv 1) (pe_callB call_len_seq (by rfl) ml PySem.boot_len (pa_cons (pv 0) pa_nil)) (nomark _))
        (pss_one (ps_ret (pe_ix ix_list (pv 0) (pv 1) (fun _ _ => rfl)))) pss_nil)
      (pss_one (ps_ret pe_int)), ?_⟩
    refine ⟨.int j, rfl, .ref l, rfl, l, ns.map V.int, rfl, .inl hS, j, _, rfl, rfl, _, rfl, ite2 (fun e => ?_) (fun e => ?_)⟩
    · have e1 : j < ((ns.map V.int).length : Int) := of_decide_eq_true e
      rw [List.length_map] at e1
      have hn : j.toNat < ns.length := by omega
      have ej : j = ((j.toNat : Nat) : Int) := by omega
      have g : (ns.map V.int)[j.toNat]? = some (.int ns[j.toNat]) := by
        rw [List.getElem?_map, List.getElem?_eq_getElem hn]
        rfl
      exact ⟨.ref l, rfl, .int j, rfl, l, _, j, _, rfl, rfl, hS, at_of ej g, q _⟩
    · exact q 0
/-! ### _law_dice -/
theorem scDice : FnScope ["_law_script", "_law_k", "_law_cell_here"] ["_law_script", "_law_k"] (defScope sDice) := ⟨rfl, rfl, rfl, by decide +kernel, rfl, by decide +kernel, by decide +kernel⟩
def spDice (K : PySem.W.Frag) : Sp := fun vs H Q _ => ∃ (l : Addr) (ns : List Int) (j : Int), vs = [.ref l, .int j] ∧ SqL K H l (ns.map V.int) ∧ ns.length ≤ 63 ∧ 0 ≤ j ∧ ∀ H' d, Same H H' → H d = none → Dc K l ns H' d → Q (.ref d) H'
theorem abs_nn (x : Int) : 0 ≤ (if x < 0 then -x else x) := by
  split <;> omega
theorem ok_dice {f fC : Addr} {fd fdC : FuncData} (F : Fun K "_law_dice" "_law_dice" sDice f fd) (FC : Fun K "_law_cell" "_law_cell" sCell fC fdC) (bC : Binds K fdC ["_law_script", "_law_k"] []) (gC : mg "_law_cell" = some (.ref fC))
    (ml : mg "len" = none) (ma : mg "abs" = none) (mi : mg "int" = none) : FnOk P w K mg base CX0 2 f fd ["_law_script", "_law_k"] (spDice K) := by
  have GC : FnOk P w K mg base CX0 1 fC fdC ["_law_script", "_law_k"] (spCell K) := ok_cell FC ml
  refine F.ok scDice (fun vs H Q E h => ?_) (fun cdv A outer s H vs Q E hr h => ?_)
  · obtain ⟨l, ns, j, rfl, _⟩ := h
    rfl
  · obtain ⟨l, ns, j, rfl, hS, hl, hj, q⟩ := h
    refine ⟨_, pss_cons (ps_set (i := 2) scDice.nd rfl (.inl rfl) (pe_callB call_abs (by rfl) ma (by decide +kernel) (pa_cons (pe_call GC hr (by rfl) gC FC.kp bC .nil pass0 (pa_cons (pv 0) (pa_cons (pv 1) pa_nil))) pa_nil)))
      (pss_one (ps_ret (pe_lst (pa_cons (pe_op op_mod (pv 2) pe_int) (pa_cons (pv 0) (pa_cons (pe_op op_add (pv 1) pe_int)
        (pa_cons (pe_op op_mul (pe_callTy call_int1 (by rfl) mi (by decide +kernel) (pa_cons (pe_cmpR op_ge (pv 2) (pe_op op_pow pe_int pe_int) (nomark _)) pa_nil)) (pv 2)) pa_nil))))))), ?_⟩
    refine ⟨.ref l, rfl, .int j, rfl, l, ns, j, rfl, hS, hj, fun x => ?_⟩
    refine ⟨x, rfl, ?_⟩
    have ha := abs_nn x
    generalize (if x < 0 then -x else x) = c at ha ⊢
    have m0 : 0 ≤ c % 2147483647 := Int.emod_nonneg _ (by decide)
    have m1 : c % 2147483647 < 2147483647 := Int.emod_lt_of_pos _ (by decide)
    refine ⟨.int c, rfl, c, 2147483647, rfl, rfl, (by show (0 : Int) < 2147483647; decide), .ref l, rfl, .int j, rfl, j, 1, rfl, rfl, ?_⟩
    refine ⟨.int c, rfl, 10, 18, rfl, rfl, ⟨by decide, by decide, by decide⟩, c, _, rfl, rfl, .inr ⟨_, rfl, ?_⟩⟩
    refine ⟨.int c, rfl, _, c, rfl, rfl, .inl ?_, ?_⟩
    · split <;> decide
    · refine ⟨by show 4 ≤ sizeLine; decide, fun d nd => ?_⟩
      refine q _ d (same_new nd) nd ⟨_, _, _, upd_same, (same_new nd).seq hS, hl, m0, m1, by omega, ?_⟩
      split
      · omega
      · omega
/-! ### _law_off -/
theorem scOff : FnScope ["_law_d", "_law_most", "_law_found", "_law_more"] ["_law_d", "_law_most"] (defScope sOff) := ⟨rfl, rfl, rfl, by decide +kernel, rfl, by decide +kernel, by decide +kernel⟩
def spOff (K : PySem.W.Frag) : Sp := fun vs H Q _ => ∃ (d l : Addr) (ns : List Int) (most : Int), vs = [.ref d, .int most] ∧ Dc K l ns H d ∧ 1 ≤ most ∧ most ≤ 1000000 ∧ ∀ (r : Nat) H', (r : Int) < most → Dc K l ns H' d → (∀ b, b ≠ d → H' b = H b) → Q (.int (r : Int)) H'
theorem max1 (x : Int) (h : 0 ≤ x) : 1 ≤ (if x > 1 then x else 1) := by
  split <;> omega
theorem ok_off {f fC : Addr} {fd fdC : FuncData} (F : Fun K "_law_off" "_law_off" sOff f fd) (FC : Fun K "_law_cell" "_law_cell" sCell fC fdC) (bC : Binds K fdC ["_law_script", "_law_k"] []) (gC : mg "_law_cell" = some (.ref fC))
    (ml : mg "len" = none) (ma : mg "abs" = none) (mm : mg "max" = none) : FnOk P w K mg base CX0 2 f fd ["_law_d", "_law_most"] (spOff K) := by
  have GC : FnOk P w K mg base CX0 1 fC fdC ["_law_script", "_law_k"] (spCell K) := ok_cell FC ml
  refine F.ok scOff (fun vs H Q E h => ?_) (fun cdv A outer s H vs Q E hr h => ?_)
  · obtain ⟨d, l, ns, most, rfl, _⟩ := h
    rfl
  · obtain ⟨d, l, ns, most, rfl, ⟨s0, k, big, hD, hS, hl, z0, z1, hk, hb⟩, hm1, hm2, q⟩ := h
    refine ⟨_, pss_cons (ps_if (pt_cmpR op_gt (pe_ix ix_list (pv 0) pe_int (fun _ _ => rfl)) pe_int (nomark _))
        (pss_cons (ps_set (i := 2) scOff.nd rfl (.inl rfl) (pe_op op_mod (pe_ix ix_list (pv 0) pe_int (fun _ _ => rfl)) (pv 1)))
          (pss_cons (ps_asg (pe_op op_fdiv (pe_ix ix_list (pv 0) pe_int (fun _ _ => rfl)) (pv 1)) (pg_sub (pv 0) pe_int set_list))
            (pss_one (ps_ret (pv 2))))) pss_nil)
      (pss_cons (ps_set (i := 3) scOff.nd rfl (.inl rfl) (pe_callB call_abs (by rfl) ma (by decide +kernel) (pa_cons (pe_call GC hr (by rfl) gC FC.kp bC .nil pass0
          (pa_cons (pe_ix ix_list (pv 0) pe_int (fun _ _ => rfl)) (pa_cons (pe_op op_mod (pe_ix ix_list (pv 0) pe_int (fun _ _ => rfl))
            (pe_callB (call_max2 rfl) (by rfl) mm (by decide +kernel) (pa_cons pe_int (pa_cons (pe_callB call_len_seq (by rfl) ml PySem.boot_len (pa_cons (pe_ix ix_list (pv 0) pe_int (fun _ _ => rfl)) pa_nil)) pa_nil)))) pa_nil))) pa_nil)))
      (pss_cons (ps_asg (pe_op op_add (pe_ix ix_list (pv 0) pe_int (fun _ _ => rfl)) pe_int) (pg_sub (pv 0) pe_int set_list))
      (pss_cons (ps_asg (pe_op op_mod (pe_op op_add (pe_op op_add (pe_op op_mul (pe_ix ix_list (pv 0) pe_int (fun _ _ => rfl)) pe_int) pe_int) (pv 3)) pe_int) (pg_sub (pv 0) pe_int set_list))
      (pss_one (ps_ret (pe_op op_mod (pe_op op_fdiv (pe_ix ix_list (pv 0) pe_int (fun _ _ => rfl)) pe_int) (pv 1)))))))
      , ?_⟩
    have hD0 : SqL K H d (dl s0 l k big) := SqL.of hD
    refine ⟨.ref d, rfl, d, _, 3, _, rfl, rfl, hD0, atI_nat (j := 3) rfl, big, 0, rfl, rfl, _, rfl, ite2 (fun e => ?_) (fun e => ?_)⟩
    · have e1 : 0 < big := of_decide_eq_true e
      refine ⟨.ref d, rfl, d, _, 3, _, rfl, rfl, hD0, atI_nat (j := 3) rfl, .int most, rfl, big, most, rfl, rfl, (by show 0 < most; omega), ?_⟩
      refine ⟨.ref d, rfl, d, _, 3, _, rfl, rfl, hD0, atI_nat (j := 3) rfl, .int most, rfl, big, most, rfl, rfl, ⟨by show 0 < most; omega, by show most < 1073741824; omega⟩, ?_⟩
      refine ⟨.ref d, rfl, d, _, 3, 3, rfl, rfl, hD, rfl, ?_⟩
      have r0 : 0 ≤ big % most := Int.emod_nonneg _ (by omega)
      have r1 : big % most < most := Int.emod_lt_of_pos _ (by omega)
      have er : big % most = (((big % most).toNat : Nat) : Int) := by omega
      refine ⟨.int (big % most), rfl, ?_⟩
      rw [er]
      refine q _ _ (by omega) ⟨s0, k, big / most, upd_same, seq_turn hD hS (fun b hb => upd_ne hb), hl, z0, z1, hk, Int.ediv_nonneg hb (by omega)⟩ (fun b hb => upd_ne hb)
    · refine ⟨.ref d, rfl, d, _, 1, _, rfl, rfl, hD0, atI_nat (j := 1) rfl, .ref d, rfl, d, _, 2, _, rfl, rfl, hD0, atI_nat (j := 2) rfl, ?_⟩
      refine ⟨.ref d, rfl, d, _, 1, _, rfl, rfl, hD0, atI_nat (j := 1) rfl, l, _, rfl, .inl hS, 1, _, rfl, ?_⟩
      have hx := max1 (((ns.map V.int).length : Nat) : Int) (by omega)
      generalize (if (((ns.map V.int).length : Nat) : Int) > 1 then (((ns.map V.int).length : Nat) : Int) else 1) = mx at hx ⊢
      refine ⟨k, mx, rfl, rfl, (by show 0 < mx; omega), l, ns, k % mx, rfl, hS, Int.emod_nonneg _ (by omega), fun x => ⟨x, rfl, ?_⟩⟩
      have ha := abs_nn x
      generalize (if x < 0 then -x else x) = c at ha ⊢
      -- d[2] = d[2] + 1
      refine ⟨.ref d, rfl, d, _, 2, _, rfl, rfl, hD0, atI_nat (j := 2) rfl, k, 1, rfl, rfl, .ref d, rfl, d, _, 2, 2, rfl, rfl, hD, rfl, ?_⟩
      have g1 : (upd H d (.lst (dl s0 l (k + 1) big))) d = some (.lst (dl s0 l (k + 1) big)) := upd_same
      have g2 : SqL K (upd H d (.lst (dl s0 l (k + 1) big))) d (dl s0 l (k + 1) big) := SqL.of g1
      refine ⟨.ref d, rfl, d, _, 0, _, rfl, rfl, g2, atI_nat (j := 0) rfl, s0, 48271, rfl, rfl, .inl ⟨by omega, by omega⟩, s0 * 48271, 11, rfl, rfl, .int c, rfl, s0 * 48271 + 11, c, rfl, rfl, s0 * 48271 + 11 + c, 2147483647, rfl, rfl, (by show (0 : Int) < 2147483647; decide), ?_⟩
      have m0 : 0 ≤ (s0 * 48271 + 11 + c) % 2147483647 := Int.emod_nonneg _ (by decide)
      have m1 : (s0 * 48271 + 11 + c) % 2147483647 < 2147483647 := Int.emod_lt_of_pos _ (by decide)
      refine ⟨.ref d, rfl, d, _, 0, 0, rfl, rfl, g1, rfl, ?_⟩
      rw [upd_upd]
      have g3 : (upd H d (.lst (dl ((s0 * 48271 + 11 + c) % 2147483647) l (k + 1) big))) d = some (.lst (dl ((s0 * 48271 + 11 + c) % 2147483647) l (k + 1) big)) := upd_same
      have g4 : SqL K (upd H d (.lst (dl ((s0 * 48271 + 11 + c) % 2147483647) l (k + 1) big))) d (dl ((s0 * 48271 + 11 + c) % 2147483647) l (k + 1) big) := SqL.of g3
      refine ⟨.ref d, rfl, d, _, 0, _, rfl, rfl, g4, atI_nat (j := 0) rfl, ((s0 * 48271 + 11 + c) % 2147483647), 64, rfl, rfl, ⟨by decide, by decide⟩, .int most, rfl, ((s0 * 48271 + 11 + c) % 2147483647) / 64, most, rfl, rfl, (by show 0 < most; omega), ?_⟩
      have r0 : 0 ≤ ((s0 * 48271 + 11 + c) % 2147483647) / 64 % most := Int.emod_nonneg _ (by omega)
      have r1 : ((s0 * 48271 + 11 + c) % 2147483647) / 64 % most < most := Int.emod_lt_of_pos _ (by omega)
      have er : ((s0 * 48271 + 11 + c) % 2147483647) / 64 % most = (((((s0 * 48271 + 11 + c) % 2147483647) / 64 % most).toNat : Nat) : Int) := by omega
      show Q (.int (((s0 * 48271 + 11 + c) % 2147483647) / 64 % most)) _
      rw [er]
      exact q _ _ (by omega) ⟨((s0 * 48271 + 11 + c) % 2147483647), k + 1, big, g3, seq_turn hD hS (fun b hb => upd_ne hb), hl, m0, m1, by omega, hb⟩ (fun b hb => upd_ne hb)
end
section
variable {P : Program} {w : World} {K : PySem.W.Frag} {mg : Str → Option Value} {base : Heap}
/-! ### _law_chain -/
def nChain : List Str := ["_law_d", "_law_most", "_law_many", "_law_way", "_law_moves", "_law_k", "_law_row", "_law_weight", "_law_place"]
theorem scChain : FnScope ["_law_d", "_law_most", "_law_many", "_law_way", "_law_moves", "_law_k", "_law_row", "_law_weight", "_law_place"] ["_law_d", "_law_most"] (defScope sChain) := ⟨rfl, rfl, rfl, by decide +kernel, rfl, by decide +kernel, by decide +kernel⟩
def spChain (K : PySem.W.Frag) : Sp := fun vs H Q _ => ∃ (d l : Addr) (ns : List Int) (most : Nat), vs = [.ref d, .int (most : Int)] ∧ Dc K l ns H d ∧ 1 ≤ most ∧ most ≤ 6 ∧
  ∀ (t m : Addr) (many : Nat) (ws : List V) (ms : List Mv) H', Good many ms → many ≤ most → ToldAt H' t m many ws ms → Dc K l ns H' d → Gr d H H' → Q (.ref t) H'
/-- what the law's texts call -/
structure LawTxt (K : PySem.W.Frag) (mg : Str → Option Value) (fC fD fO : Addr) (fdC fdD fdO : FuncData) : Prop where
  FC : Fun K "_law_cell" "_law_cell" sCell fC fdC
  bC : Binds K fdC ["_law_script", "_law_k"] []
  gC : mg "_law_cell" = some (.ref fC)
  FD : Fun K "_law_dice" "_law_dice" sDice fD fdD
  bD : Binds K fdD ["_law_script", "_law_k"] []
  gD : mg "_law_dice" = some (.ref fD)
  FO : Fun K "_law_off" "_law_off" sOff fO fdO
  bO : Binds K fdO ["_law_d", "_law_most"] []
  gO : mg "_law_off" = some (.ref fO)
  ml : mg "len" = none
  ma : mg "abs" = none
  mm : mg "max" = none
  mn : mg "min" = none
  mi : mg "int" = none
  mr : mg "range" = none
  ms : mg "sorted" = none
  mt : mg "tuple" = none
section
variable {fC fD fO : Addr} {fdC fdD fdO : FuncData}
theorem LawTxt.off (T : LawTxt K mg fC fD fO fdC fdD fdO) : FnOk P w K mg base CX0 2 fO fdO ["_law_d", "_law_most"] (spOff K) := ok_off T.FO T.FC T.bC T.gC T.ml T.ma T.mm
theorem LawTxt.dice (T : LawTxt K mg fC fD fO fdC fdD fdO) : FnOk P w K mg base CX0 2 fD fdD ["_law_script", "_law_k"] (spDice K) := ok_dice T.FD T.FC T.bC T.gC T.ml T.ma T.mi
theorem perm_row {many : Nat} {xs ys : List Int} (p : ys.Perm xs) (h : GoodRow many xs) : GoodRow many ys := ⟨p.length_eq.trans h.1, fun x hx => h.2 x (p.mem_iff.mp hx)⟩
theorem clamp (m x : Int) (h : 0 ≤ m) : 0 ≤ (if (if x < m then x else m) > 0 then (if x < m then x else m) else 0) ∧ (if (if x < m then x else m) > 0 then (if x < m then x else m) else 0) < m + 1 := by
  split <;> split at * <;> omega
theorem ok_chain {f : Addr} {fd : FuncData} (F : Fun K "_law_chain" "_law_chain" sChain f fd) (T : LawTxt K mg fC fD fO fdC fdD fdO) : FnOk P w K mg base CX0 3 f fd ["_law_d", "_law_most"] (spChain K) := by
  have GO : FnOk P w K mg base CX0 2 fO fdO ["_law_d", "_law_most"] (spOff K) := T.off
  refine F.ok scChain (fun vs H Q E h => ?_) (fun cdv A outer s H vs Q E hr h => ?_)
  · obtain ⟨d, l, ns, most, rfl, _⟩ := h
    rfl
  · obtain ⟨d, l, ns, most, rfl, hD, hm1, hm6, q⟩ := h
    refine ⟨_, pss_cons (ps_set (i := 2) scChain.nd rfl (.inr rfl) (pe_op op_add pe_int (pe_call GO hr (by rfl) T.gO T.FO.kp T.bO .nil pass0 (pa_cons (pv 0) (pa_cons (pv 1) pa_nil)))))
      (pss_cons (ps_set (i := 3) scChain.nd rfl (.inl rfl) (pe_call GO hr (by rfl) T.gO T.FO.kp T.bO .nil pass0 (pa_cons (pv 0) (pa_cons pe_int pa_nil))))
      (pss_cons (ps_set (i := 4) scChain.nd rfl (.inl rfl) (pe_lst pa_nil))
      (pss_cons (ps_for PassesOwn.never rfl (pi_range1 (by rfl) T.mr (pa_cons (pe_op op_add pe_int (pe_call GO hr (by rfl) T.gO T.FO.kp T.bO .nil pass0 (pa_cons (pv 0)
            (pa_cons (pe_ix ix_list (pe_lst (pa_cons pe_int (pa_cons pe_int (pa_cons pe_int pa_nil)))) (pe_call GO hr (by rfl) T.gO T.FO.kp T.bO .nil pass0 (pa_cons (pv 0) (pa_cons pe_int pa_nil))) (fun _ _ => rfl)) pa_nil)))) pa_nil))
          (pg_name (i := 5) scChain.nd rfl (.inl rfl))
          (pss_cons (ps_setLc (i := 6) (own := [("_law_place", 8)]) (g := gName 8) (tt := tYes) rfl scChain.nd rfl rfl (sw_true rfl rfl rfl (by decide +kernel)) (pi_range1 (by rfl) T.mr (pa_cons (pv 2) pa_nil)) (blkOk_by (N := nChain) (sc := defScope sChain) (by decide +kernel))
              (fun _ _ _ _ _ => pg_name (i := 8) scChain.nd rfl (.inl rfl)) (fun _ _ _ _ _ => pts_nil)
              (fun _ _ _ _ _ => pe_call GO hr (by rfl) T.gO T.FO.kp T.bO .nil pass0 (pa_cons (pv 0) (pa_cons (pv 2) pa_nil))))
          (C8.pss_cut (ps_if (pt_cmpR op_eq (pv 3) pe_int (nomark _)) (pss_one (ps_set (i := 6) scChain.nd rfl (.inl rfl) (pe_callB cr_sorted (by rfl) T.ms (by decide +kernel) (pa_cons (pv 6) pa_nil)))) pss_nil)
          (C8.pss_cut (ps_if (pt_cmpR op_eq (pv 3) pe_int (nomark _)) (pss_one
              (ps_setLc (i := 6) (own := [("_law_place", 8)]) (g := gName 8) (tt := tYes) rfl scChain.nd rfl rfl (sw_true rfl rfl rfl (by decide +kernel)) (pi_range1 (by rfl) T.mr (pa_cons (pv 2) pa_nil)) (blkOk_by (N := nChain) (sc := defScope sChain) (by decide +kernel))
              (fun _ _ _ _ _ => pg_name (i := 8) scChain.nd rfl (.inl rfl)) (fun _ _ _ _ _ => pts_nil)
              (fun _ _ _ _ _ => pe_callB (call_max2 rfl) (by rfl) T.mm (by decide +kernel) (pa_cons pe_int (pa_cons (pe_callB (call_min2 rfl) (by rfl) T.mn (by decide +kernel) (pa_cons (pe_op op_sub (pv 2) pe_int) (pa_cons
                (pe_op op_sub (pe_op op_add (pv 8) (pe_call GO hr (by rfl) T.gO T.FO.kp T.bO .nil pass0 (pa_cons (pv 0) (pa_cons pe_int pa_nil)))) pe_int) pa_nil))) pa_nil))))) pss_nil)
          (pss_cons (ps_set (i := 7) scChain.nd rfl (.inl rfl) (pe_ix ix_list (pe_lst (pa_cons pe_int (pa_cons (pe_op op_add pe_int (pe_call GO hr (by rfl) T.gO T.FO.kp T.bO .nil pass0 (pa_cons (pv 0) (pa_cons pe_int pa_nil))))
              (pa_cons (pe_op op_add pe_int (pe_call GO hr (by rfl) T.gO T.FO.kp T.bO .nil pass0 (pa_cons (pv 0) (pa_cons pe_int pa_nil)))) pa_nil)))) (pe_call GO hr (by rfl) T.gO T.FO.kp T.bO .nil pass0 (pa_cons (pv 0) (pa_cons pe_int pa_nil))) (fun _ _ => rfl)))
          (pss_one (ps_expr (pe_bm PySem.F.plainAttrs_list PySem.F.slot_list_append PySem.F.type_list_append mt_append (pv 4) (pa_cons (pe_tup (pa_cons (pv 7) (pa_cons (pe_callTy call_tuple_of (by rfl) T.mt (by decide +kernel) (pa_cons (pv 6) pa_nil)) pa_nil))) pa_nil)))))))))
      (pss_one (ps_ret (pe_tup (pa_cons (pv 2) (pa_cons (pv 4) pa_nil)))))))), ?_⟩
    -- many, way, moves
    refine ⟨.ref d, rfl, .int most, rfl, d, l, ns, _, rfl, hD, by omega, by omega, fun r H1 hr1 hD1 o1 => ?_⟩
    refine ⟨1, r, rfl, rfl, .ref d, rfl, d, l, ns, _, rfl, hD1, by omega, by omega, fun way H2 hr2 hD2 o2 => ?_⟩
    obtain ⟨many, em⟩ : ∃ many : Nat, many = 1 + r := ⟨_, rfl⟩
    have em2 : (1 : Int) + (r : Int) = (many : Int) := by omega
    have g2 : Gr d H H2 := ((Gr.refl d H).off o1).off o2
    refine ⟨Nat.zero_le _, fun m nm => ?_⟩
    have hD3 : Dc K l ns (upd H2 m (.lst [])) d := hD2.new nm
    have g3 : Gr d H (upd H2 m (.lst [])) := g2.new nm
    have hm3 : (upd H2 m (.lst [])) m = some (.lst []) := upd_same
    -- the loop's range
    refine ⟨.ref d, rfl, (by show 3 ≤ sizeLine; decide), fun L nL => ?_⟩
    have hD4 := hD3.new (o := .lst [.int 4, .int 4, .int 8]) nL
    have g4 : Gr d H (upd (upd H2 m (.lst [])) L (.lst [.int 4, .int 4, .int 8])) := g3.new nL
    have nLm : L ≠ m := fun z => by rw [z, upd_same] at nL; cases nL
    have hm4 : (upd (upd H2 m (.lst [])) L (.lst [.int 4, .int 4, .int 8])) m = some (.lst []) := by rw [upd_ne (Ne.symm nLm)]; exact hm3
    have hL4 : (upd (upd H2 m (.lst [])) L (.lst [.int 4, .int 4, .int 8])) L = some (.lst [.int 4, .int 4, .int 8]) := upd_same
    generalize (upd (upd H2 m (.lst [])) L (.lst [.int 4, .int 4, .int 8])) = H4 at hD4 g4 hm4 hL4 ⊢
    refine ⟨.ref d, rfl, d, l, ns, _, rfl, hD4, by omega, by omega, fun r3 H5 hr3 hD5 o5 => ?_⟩
    have nmd : m ≠ d := hD2.ne nm
    have nLd : L ≠ d := hD3.ne nL
    have hL5 : H5 L = some (.lst [.int 4, .int 4, .int 8]) := by rw [o5 _ nLd]; exact hL4
    have hm5 : H5 m = some (.lst []) := by rw [o5 _ nmd]; exact hm4
    have g5 : Gr d H H5 := g4.off o5
    obtain ⟨c, hc4, hc8, hc⟩ : ∃ c : Int, 4 ≤ c ∧ c ≤ 8 ∧ ([.int 4, .int 4, .int 8] : List V)[r3]? = some (.int c) := by
      have h3 : r3 < 3 := by omega
      match r3, h3 with
      | 0, _ => exact ⟨4, by decide, by decide, rfl⟩
      | 1, _ => exact ⟨4, by decide, by decide, rfl⟩
      | 2, _ => exact ⟨8, by decide, by decide, rfl⟩
    refine ⟨L, _, _, _, rfl, rfl, SqL.of hL5, atI_nat hc, d, l, ns, _, rfl, hD5, by omega, by omega, fun cnt H6 hr6 hD6 o6 => ?_⟩
    have hm6' : H6 m = some (.lst []) := by rw [o6 _ nmd]; exact hm5
    have g6 : Gr d H H6 := g5.off o6
    refine ⟨1, cnt, rfl, rfl, _, rfl, by omega, by omega, ?_⟩
    have en : ((1 : Int) + (cnt : Int)).toNat = 1 + cnt := by omega
    refine for_range (lo := 0) (n := ((1 : Int) + (cnt : Int)).toNat)
      (fun i σ H' => ∃ y5 y6 y7 ms ws, σ = [some (.ref d), some (.int (most : Int)), some (.int ((1 : Int) + (r : Int))), some (.int (way : Int)), some (.ref m), y5, y6, y7, none] ∧
        Dc K l ns H' d ∧ Gr d H H' ∧ H' m = some (.lst ws) ∧ MovesAt H' ws ms ∧ ms.length = i ∧ ∀ mv ∈ ms, GoodMv many mv)
      ⟨none, none, none, [], [], rfl, hD6, g6, hm6', .nil, rfl, fun _ z => nomatch z⟩ ?_ ?_
    · rintro i σ H7 hi ⟨y5, y6, y7, ms, ws, rfl, hD7, g7, hm7, hM7, hl7, hg7⟩
      rw [en] at hi
      -- row = [off(d, many) for place in range(many)]
      refine ⟨_, rfl, _, rfl, by omega, by omega, fun D nD => ?_⟩
      have nDd : D ≠ d := hD7.ne nD
      have er : ((1 : Int) + (r : Int)).toNat = many := by omega
      refine lc_range (lo := 0) (n := ((1 : Int) + (r : Int)).toNat)
        (fun j H' => ∃ row : List Int, H' D = some (.lst (row.map V.int)) ∧ row.length = j ∧ (∀ x ∈ row, 0 ≤ x ∧ x < (many : Int)) ∧ Dc K l ns H' d ∧ Gr d H7 H')
        ⟨[], upd_same, rfl, (fun _ z => nomatch z), hD7.new nD, (Gr.refl d H7).new nD⟩ ?_ ?_
      · rintro j H8 hj ⟨row, hrow, hrl, hrx, hD8, g8⟩
        refine ⟨rfl, .ref d, rfl, _, rfl, d, l, ns, _, rfl, hD8, by omega, by omega, fun x H9 hx hD9 o9 => ?_⟩
        have hrow9 : H9 D = some (.lst (row.map V.int)) := by rw [o9 _ nDd]; exact hrow
        refine ⟨_, hrow9, ?_, row ++ [(x : Int)], ?_, ?_, ?_, hD9.turn hD7 nD nDd, ?_⟩
        · rw [List.length_map, hrl]
          exact small8 (by omega)
        · rw [upd_same, List.map_append]
          rfl
        · rw [List.length_append, hrl]
          rfl
        · intro z hz
          rcases List.mem_append.mp hz with hz | hz
          · exact hrx z hz
          · have e : z = (x : Int) := by simpa using hz
            omega
        · intro b o nb e
          have e8 := g8.off o9 b o nb e
          rw [upd_ne (ne_of_none e nD)]
          exact e8
      · rintro H8 ⟨row, hrow, hrl, hrx, hD8, g8⟩
        have hR : GoodRow many row := ⟨hrl.trans er, hrx⟩
        let Mid : L2.St → Hp → Prop := fun σ H9 => ∃ D9 row, σ = [some (.ref d), some (.int (most : Int)), some (.int ((1 : Int) + (r : Int))), some (.int (way : Int)), some (.ref m), some (.int (0 + (i : Int))), some (.ref D9), y7, none] ∧
          H9 D9 = some (.lst (row.map V.int)) ∧ GoodRow many row ∧ Dc K l ns H9 d ∧ Gr d H7 H9
        have mid0 : Mid [some (.ref d), some (.int (most : Int)), some (.int ((1 : Int) + (r : Int))), some (.int (way : Int)), some (.ref m), some (.int (0 + (i : Int))), some (.ref D), y7, none] H8 := ⟨D, row, rfl, hrow, hR, hD8, g8⟩
        refine ⟨Mid, ⟨_, rfl, rfl, _, rfl, ite2 (fun e => ?_) (fun e => mid0)⟩, ?_⟩
        · -- row = sorted(row)
          refine ⟨_, rfl, D, row, rfl, SqL.of hrow, by omega, fun ns' p hp _ np => ?_⟩
          exact ⟨p, ns', rfl, upd_same, perm_row hp hR, hD8.new np, g8.new np⟩
        · rintro σ9 H9 ⟨D9, row9, rfl, hrow9, hR9, hD9, g9⟩
          refine ⟨Mid, ⟨_, rfl, rfl, _, rfl, ite2 (fun e => ?_) (fun e => ⟨D9, row9, rfl, hrow9, hR9, hD9, g9⟩)⟩, ?_⟩
          · -- row = [max(0, min(many - 1, ..)) ..]
            refine ⟨_, rfl, _, rfl, by omega, by omega, fun D' nD' => ?_⟩
            have nDd' : D' ≠ d := hD9.ne nD'
            refine lc_range (lo := 0) (n := ((1 : Int) + (r : Int)).toNat)
              (fun j H' => ∃ row : List Int, H' D' = some (.lst (row.map V.int)) ∧ row.length = j ∧ (∀ x ∈ row, 0 ≤ x ∧ x < (many : Int)) ∧ Dc K l ns H' d ∧ Gr d H9 H')
              ⟨[], upd_same, rfl, (fun _ z => nomatch z), hD9.new nD', (Gr.refl d H9).new nD'⟩ ?_ ?_
            · rintro j H10 hj ⟨row', hrow', hrl', hrx', hD10, g10⟩
              refine ⟨rfl, _, rfl, _, _, rfl, rfl, _, rfl, .ref d, rfl, d, l, ns, _, rfl, hD10, by omega, by omega, fun x H11 hx hD11 o11 => ?_⟩
              refine ⟨_, _, rfl, rfl, _, _, rfl, rfl, _, _, rfl, _, _, rfl, ?_⟩
              have cl := clamp ((1 : Int) + (r : Int) - 1) (0 + (j : Int) + (x : Int) - 1) (by omega)
              generalize (if (if 0 + (j : Int) + (x : Int) - 1 < (1 : Int) + (r : Int) - 1 then 0 + (j : Int) + (x : Int) - 1 else (1 : Int) + (r : Int) - 1) > 0 then
                (if 0 + (j : Int) + (x : Int) - 1 < (1 : Int) + (r : Int) - 1 then 0 + (j : Int) + (x : Int) - 1 else (1 : Int) + (r : Int) - 1) else 0) = z at cl ⊢
              have hrow9 : H11 D' = some (.lst (row'.map V.int)) := by rw [o11 _ nDd']; exact hrow'
              refine ⟨_, hrow9, ?_, row' ++ [z], ?_, ?_, ?_, hD11.turn hD9 nD' nDd', ?_⟩
              · rw [List.length_map, hrl']
                exact small8 (by omega)
              · rw [upd_same, List.map_append]
                rfl
              · rw [List.length_append, hrl']
                rfl
              · intro y hy
                rcases List.mem_append.mp hy with hy | hy
                · exact hrx' y hy
                · have e : y = z := by simpa using hy
                  omega
              · intro b o nb e
                have e8 := g10.off o11 b o nb e
                rw [upd_ne (ne_of_none e nD')]
                exact e8
            · rintro H10 ⟨row', hrow', hrl', hrx', hD10, g10⟩
              exact ⟨D', row', rfl, hrow', ⟨hrl'.trans er, hrx'⟩, hD10, g9.trans g10⟩
          · rintro σ10 H10 ⟨D10, row, rfl, hrow, hR, hD10, g10⟩
            -- weight = [1, 1 + off(d, 4), 1 + off(d, 99)][off(d, 3)]
            have g10' : Gr d H H10 := g7.trans g10
            refine ⟨.ref d, rfl, d, l, ns, _, rfl, hD10, by omega, by omega, fun x1 H11 hx1 hD11 o11 => ?_⟩
            refine ⟨1, x1, rfl, rfl, .ref d, rfl, d, l, ns, _, rfl, hD11, by omega, by omega, fun x2 H12 hx2 hD12 o12 => ?_⟩
            refine ⟨1, x2, rfl, rfl, (by show 3 ≤ sizeLine; decide), fun W nW => ?_⟩
            have hD13 := hD12.new (o := .lst [.int 1, .int (1 + (x1 : Int)), .int (1 + (x2 : Int))]) nW
            have nWd : W ≠ d := hD12.ne nW
            have g13 : Gr d H10 (upd H12 W (.lst [.int 1, .int (1 + (x1 : Int)), .int (1 + (x2 : Int))])) := (((Gr.refl d H10).off o11).off o12).new nW
            have hW13 : (upd H12 W (.lst [.int 1, .int (1 + (x1 : Int)), .int (1 + (x2 : Int))])) W = some (.lst [.int 1, .int (1 + (x1 : Int)), .int (1 + (x2 : Int))]) := upd_same
            refine ⟨.ref d, rfl, d, l, ns, _, rfl, hD13, by omega, by omega, fun x3 H14 hx3 hD14 o14 => ?_⟩
            have hW14 : H14 W = some (.lst [.int 1, .int (1 + (x1 : Int)), .int (1 + (x2 : Int))]) := by rw [o14 _ nWd]; exact hW13
            have g14 : Gr d H10 H14 := g13.off o14
            obtain ⟨wt, hw1, hw9, hw⟩ : ∃ c : Int, 1 ≤ c ∧ c ≤ 99 ∧ ([.int 1, .int (1 + (x1 : Int)), .int (1 + (x2 : Int))] : List V)[x3]? = some (.int c) := by
              have h3 : x3 < 3 := by omega
              match x3, h3 with
              | 0, _ => exact ⟨1, by decide, by decide, rfl⟩
              | 1, _ => exact ⟨1 + (x1 : Int), by omega, by omega, rfl⟩
              | 2, _ => exact ⟨1 + (x2 : Int), by omega, by omega, rfl⟩
            refine ⟨W, _, _, _, rfl, rfl, SqL.of hW14, atI_nat hw, ?_⟩
            -- moves.append((weight, tuple(row)))
            have nm' : ∀ {H'}, Dc K l ns H' d → H' m = H' m := fun _ => rfl
            have hm14 : H14 m = some (.lst ws) := (g10.trans g14) m _ nmd hm7
            have nD10 : D10 ≠ d := hD10.ne_of hrow fun s0 l k big z => by
              injection z with z
              exact map_int_dl z
            have hrow14 : H14 D10 = some (.lst (row.map V.int)) := g14 D10 _ nD10 hrow
            refine ⟨.ref m, rfl, .inl ⟨rfl, _, SqL.of hm14⟩, .int wt, rfl, .ref D10, rfl, D10, _, rfl, .inl ⟨SqL.of hrow14, fun tq ntq => ?_⟩⟩
            refine ⟨by show 2 ≤ sizeLine; decide, fun tp ntp => ?_⟩
            have g16 : Same H14 (upd (upd H14 tq (.tup (row.map V.int))) tp (.tup [.int wt, .ref tq])) := (same_new ntq).trans (same_new ntp)
            have htp : (upd (upd H14 tq (.tup (row.map V.int))) tp (.tup [.int wt, .ref tq])) tp = some (.tup [.int wt, .ref tq]) := upd_same
            have htq : (upd (upd H14 tq (.tup (row.map V.int))) tp (.tup [.int wt, .ref tq])) tq = some (.tup (row.map V.int)) := by
              rw [upd_ne (ne_of_none upd_same ntp)]
              exact upd_same
            have hD16 := hD14.same g16
            generalize (upd (upd H14 tq (.tup (row.map V.int))) tp (.tup [.int wt, .ref tq])) = H16 at g16 htp htq hD16 ⊢
            have hm16 := g16 m _ hm14
            have gt : Gr d H7 H16 := (g10.trans g14).trans (Gr.of_same g16)
            have hM16 : MovesAt H16 ws ms := hM7.same (gt.tups (K := K) hD7)
            have hl := hM16.length
            refine ⟨m, _, _, rfl, rfl, hm16, by rw [hl]; exact small8 (by omega), ?_⟩
            refine ⟨some (.int (0 + (i : Int))), some (.ref D10), some (.int wt), ms ++ [(wt, row)], ws ++ [.ref tp], rfl, hD16.turn hD2 nm nmd, ?_, upd_same, ?_, by rw [List.length_append, hl7]; rfl, ?_⟩
            · intro b o nb e
              by_cases hb : b = m
              · rw [hb] at e nb
                have z := g2 m o nb e
                rw [nm] at z
                cases z
              · rw [upd_ne hb]
                exact (g7.trans gt) b o nb e
            · refine MovesAt.same (H := H16) ?_ (MovesAt.snoc ⟨tp, tq, rfl, htp, htq⟩ hM16)
              intro b xs e
              rw [upd_ne]
              · exact e
              · intro z
                rw [z, hm16] at e
                cases e
            · intro mv hmv
              rcases List.mem_append.mp hmv with hmv | hmv
              · exact hg7 mv hmv
              · have e : mv = (wt, row) := by simpa using hmv
                subst e
                exact ⟨hw1, hw9, hR⟩
    · rintro σ7 H7 ⟨y5, y6, y7, ms, ws, rfl, hD7, g7, hm7, hM7, hl7, hg7⟩
      refine ⟨_, rfl, .ref m, rfl, (by show 2 ≤ sizeLine; decide), fun t nt => ?_⟩
      refine q t m many ws ms _ ⟨by omega, by omega, by omega, by omega, hg7⟩ (by omega) ⟨?_, same_new nt _ _ hm7, hM7.same (Same.tups (same_new nt))⟩ (hD7.new nt) (g7.new nt)
      rw [← em2]
      exact upd_same
end
end
/-! ### all(x in range(y) for x in a tuple of ints): a rule of our own -/
/-- the element: x in range(y), y a captured int -/
def eltR (x y : Str) (p1 p2 p3 p4 p5 : Pos) : Expr := .Compare (.Name x p1) [.In] [.Call (.Name "range" p2) [.Name y p3] [] p4] p5
def inR (n z : Int) : Bool := decide (0 ≤ z ∧ z < n)
theorem elt_range {prog : Program} {w : World} {cenv : Env} {A : Around} {E : Value → Shared → Prop} {x y : Str} {p1 p2 p3 p4 p5 : Pos} {s : Shared} {m mg mb : Str → Option Value} {cc : Addr} {z n : Int} {t u : Tok}
    (kf : cenv.scope.kind = .function) (kx : cenv.kindOf x = some .local) (ky : cenv.kindOf y = some .free) (kr : cenv.kindOf "range" = some .globalImplicit) (hm : s.heap.Ns cenv.locals m) (ex : m x = some (.int z t))
    (hc : cenv.cells.lookup y = some cc) (ec : s.heap.IsCell cc (some (.int n u))) (hg : s.heap.Ns cenv.globals mg) (nr : mg "range" = none) (hb : s.heap.Ns cenv.builtins mb) (br : mb "range" = some (.type "range"))
    (dx : (x == ("__debug__" : Str)) = false) (dy : (y == ("__debug__" : Str)) = false) (cy : (y == ("__classdict__" : Str)) = false) :
    wpAny (model prog w) A (eval (eltR x y p1 p2 p3 p4 p5) cenv) (fun v s' => v = .bool (inR n z) ∧ Keeps s s') E s := by
  refine wpAny_Compare1 (wpAny_Name (wpAny_loadName_local kf kx hm ex ?_) dx) (by rfl)
  refine wpAny_Call_Name_kw (Calls.Name_function_global kf kr (Calls.loadGlobal_builtin hg nr hb br ?_) (by decide))
  refine PyProof.Rows.callWith_type1 (Calls.spliced_cons (wpAny_Name (wpAny_loadName_free kf ky hc ec ?_ cy) dy)) (by rfl) (by rfl)
  refine Calls.spliced_nil (call_range_1 ?_)
  have ho := Heap.get?_push_size s.heap (o := { cls := .type "range", data := .fields #[.int 0 s.toks, .int n u, .int 1 (s.toks + 1)] }) rfl
  show wpAny _ _ (do return Value.bool (← contains (Value.ref s.heap.objs.size) (Value.int z t))) _ _ _
  refine wpAny_bind (wpAny_contains_slot (T := "range") ⟨_, ho, rfl⟩ F.slot_range_contains (call_meets F.slot_range_contains ⟨_, ho, rfl⟩ F.entry_range_contains (F.args_range_contains_2 _ _) (q_contains s.heap.objs.size 0 n z s.toks u (s.toks + 1) t) ⟨ho, ?_⟩))
  refine wpAny_truthy_bool (wpAny_pure ⟨?_, _, _, rfl, fun b o e => Heap.get?_push_of_some _ e⟩)
  rw [place1]
  rfl
open GxR in
/-- the walk that all(..) makes, once the generator stands at g -/
def AllReady (X : Cx) (pins : List (Addr × Obj)) (σ : L2.St) (H1 : Hp) (P : Addr) (bs : List Bool) (g : Addr) (s5 : Shared) : Prop :=
  ∃ (fp wr : List Addr) (G : Array GenState → Array GenState → Prop) (F : Nat → Value → Prop) (St : Nat → Shared → Prop) (tr : Nat → Bool),
    WalksS X.prog X.w X.A.in1 g fp wr G bs.length F St ∧ St 0 s5 ∧ TruthOf X.prog X.w X.A.in1 F tr ∧ (∀ j b, bs[j]? = some b → tr j = b) ∧
    ∀ s', Moved wr G s5 s' → ∃ H2, Tabbed P H1 H2 ∧ Inv X pins σ H2 s'
theorem clo_one {cells : List (Str × Addr)} : ∀ (names : List (Str × NameKind)) (acc : List (Str × Addr)) (y : Str) (cc : Addr), (∀ p ∈ names, p.2 = .free → cells.lookup p.1 = some ((cells.lookup p.1).getD 0)) → cells.lookup y = some cc →
    ((y, NameKind.free) ∈ names ∨ acc.lookup y = some cc) → (cloFrom cells names acc).lookup y = some cc := by
  intro names
  induction names with
  | nil =>
    intro acc y cc _ _ h
    rcases h with h | h
    · cases h
    · exact h
  | cons p r ih =>
    intro acc y cc hf hy h
    obtain ⟨n, kd⟩ := p
    unfold cloFrom
    have hf' : ∀ p ∈ r, p.2 = .free → cells.lookup p.1 = some ((cells.lookup p.1).getD 0) := fun p hp => hf p (List.mem_cons_of_mem _ hp)
    by_cases hk : (kd == NameKind.free) = true
    · rw [if_pos hk]
      refine ih _ y cc hf' hy ?_
      by_cases hn : y = n
      · subst hn
        refine .inr ?_
        rw [List.lookup_cons_self, hy]
        rfl
      · rcases h with h | h
        · rcases List.mem_cons.mp h with e | e
          · injection e with e1 _
            exact absurd e1 hn
          · exact .inl e
        · refine .inr ?_
          rw [List.lookup_cons, show (y == n) = false from by simpa using hn]
          exact h
    · rw [if_neg hk]
      refine ih _ y cc hf' hy ?_
      rcases h with h | h
      · rcases List.mem_cons.mp h with e | e
        · injection e with _ e2
          exact absurd (by rw [← e2]; rfl) hk
        · exact .inl e
      · exact .inr h
/-- the generator's code object: there already, or made and put into the table -/
theorem gen_code {M : Model} {A : Around} {env : Env} {c P : Addr} {gpos : Pos} {q : Str} {scope : Scope} {E : Value → Shared → Prop} {Q : Value → Shared → Prop} {s : Shared} {ps : Array Value} (hcode : env.code = .ref c) (cd : PySem.W.CodeHd s.heap c P)
    (hP : s.heap.get? P = some { cls := .none, data := .fields ps }) (ht : TriplesOk ps.toList)
    (h : ∀ (code : Value) (h3 : Heap) (tk : Nat) (more : Array Value), Heap.ExtBut P s.heap h3 → s.heap.objs.size ≤ h3.objs.size → h3.get? P = some { cls := .none, data := .fields (ps ++ more) } → TriplesOk (ps ++ more).toList → Q code { s with heap := h3, toks := tk }) :
    wpAny M A (genexprCode env gpos q scope) Q E s := by
  match hf : codeAmong gpos ps.toList with
  | some cv => exact wpAny_genexprCode_hit hcode (cd.code hP ht) hf (h cv s.heap s.toks #[] (Heap.ExtBut.refl _ _) (Nat.le_refl _) (by rw [Array.append_empty]; exact hP) (by rw [Array.append_empty]; exact ht))
  | none =>
    refine wpAny_genexprCodeX hcode (cd.code hP ht) (cd.tab hP) hf fun c' h' tk hx hge hlt hco _ htab _ => h _ h' tk _ hx (Nat.le_trans hge (Nat.le_of_lt hlt)) htab.2 ?_
    obtain ⟨_, _, _, _, _, _, _, _, _, _, _, _, _, _, _, _, _, _, _, htr, _⟩ := hco
    exact htr
section
variable {X : Cx} {pins : List (Addr × Obj)} {σ : L2.St} {H : Hp} {s : Shared}
open GxR in
theorem gen_range {c P : Addr} {iter : Expr} {x y : Str} {px gpos p1 p2 p3 p4 p5 : Pos} {scope : Scope} {te : TE} {k i : Nat} {Q' : Value → Shared → Prop} {R : List Int → Int → Hp → Prop}
    (hr : Room k X.A) (TB : TabB X.base X.mg c P) (hcode : X.env.code = .ref c) (S : GenS X.env scope x) (hi : PE X iter te) (hy : X.N[i]? = some y) (vy : X.env.kindOf y = some .cell) (fy : (y, NameKind.free) ∈ scope.names) (ly : scope.names.lookup y = some .free)
    (lr : scope.names.lookup ("range" : Str) = some .globalImplicit) (nr : X.mg "range" = none) (dx : (x == ("__debug__" : Str)) = false) (dy : (y == ("__debug__" : Str)) = false) (cy : (y == ("__classdict__" : Str)) = false)
    (hs : ∀ v, genFold iter X.env v = pure v) (I : Inv X pins σ H s) (h : te σ H fun v H1 => ∃ (a : Addr) (ns : List Int) (n : Int), v = .ref a ∧ SqT X.K H1 a (ns.map V.int) ∧ TabG H1 P ∧ σ[i]? = some (some (.int n)) ∧ R ns n H1)
    (hQ : ∀ ns n H1 g s5, R ns n H1 → AllReady X pins σ H1 P (ns.map (inR n)) g s5 → Q' (.ref g) s5) :
    wpAny (model X.prog X.w) X.A (eval (.GeneratorExp (eltR x y p1 p2 p3 p4 p5) [⟨.Name x px, iter, [], 0⟩] scope gpos) X.env) Q' X.xe s := by
  refine wpAny_GeneratorExp_walksQ hr.hd S.co (closure_ok S.free) S.cell S.dot S.loc S.kind (by have := hr.dp; omega) ?_ hs
  refine thn (hi.run pins s σ H _ I h) fun xv s1 ⟨v, H1, I1, r1, a, ns, n, ev, hT, hTab, hn, hR⟩ => ?_
  subst ev
  obtain rfl : xv = Value.ref a := r1
  obtain ⟨its, rv, hTup, hz⟩ := I1.tuple hT
  have tupAt : s1.heap.IsTuple a its.toArray := hTup
  -- the captured int
  obtain ⟨cc, u, hcc, hcell⟩ : ∃ (cc : Addr) (u : Tok), X.env.cells.lookup y = some cc ∧ s1.heap.IsCell cc (some (.int n u)) := by
    obtain ⟨m, _, hl⟩ := I1.loc
    obtain ⟨uv, ru, lk⟩ := hl i y (.int n) hy hn (.inr (.inl vy))
    obtain ⟨u, eu⟩ := ru
    subst eu
    rcases lk with ⟨k1, _⟩ | ⟨_, cc, e1, e2⟩
    · rw [vy] at k1
      cases k1
    · exact ⟨cc, u, e1, e2⟩
  obtain ⟨mb, bb1, bb2⟩ := I1.mod.blt
  have lenI : its.toArray.size = ns.length := by
    have e := rv.length
    rw [List.length_map] at e
    simp only [List.size_toArray]
    omega
  obtain ⟨ps, hP, hps⟩ := hTab
  refine wpAny_pyIter_tuple tupAt ?_
  -- it: the iterator's object
  let it : Obj := { cls := .type "tuple_iterator", data := .fields #[.ref a, .int 0 0] }
  have atP : s1.heap.get? P = some { cls := .none, data := .fields ps } := I1.hok P _ hP
  have ltP : P < s1.heap.objs.size := Heap.lt_size atP
  have limI : (s1.heap.push it).NoLimit := I1.nolimit.push it
  have keepI : ∀ b o, s1.heap.get? b = some o → (s1.heap.push it).get? b = some o := fun b o e => Heap.get?_push_of_some _ e
  have codeI : PySem.W.CodeHd (s1.heap.push it) c P := TB.code.keeps fun b o e => keepI b o (I1.bk b o e)
  have ltS : cStatics < s1.heap.objs.size := let ⟨_, q, _⟩ := I1.nolimit; q.lt
  have neS : cStatics ≠ P := fun e => by
    obtain ⟨_, ⟨o', es, ep, g1, g2, _⟩, _⟩ := I1.nolimit
    rw [e, atP] at g1
    cases g1
    cases g2
  have szI : (s1.heap.push it).objs.size = s1.heap.objs.size + 1 := Heap.size_push ..
  have iterI : (s1.heap.push it).IsTupleIter s1.heap.objs.size a 0 := ⟨_, Heap.get?_push_size _ rfl, rfl, rfl⟩
  have tupI : (s1.heap.push it).IsTuple a its.toArray := by
    obtain ⟨o, e, r⟩ := tupAt
    exact ⟨o, keepI _ _ e, r⟩
  have neIt : a ≠ s1.heap.objs.size := by
    obtain ⟨o, e, _⟩ := tupAt
    exact Nat.ne_of_lt (Heap.lt_size e)
  have neAP : a ≠ P := fun e => by
    obtain ⟨o, g, _, nn, dd⟩ := tupAt
    rw [e, atP] at g
    cases g
    cases dd
  have Wk : ∀ A' : Around, A'.handled = none → Walks X.prog X.w A' s1.heap.objs.size [s1.heap.objs.size, a] [s1.heap.objs.size] its.toArray.size (fun j v => its.toArray[j]? = some v) (fun j hp => hp.IsTupleIter s1.heap.objs.size a j ∧ hp.IsTuple a its.toArray) :=
    fun A' hA => Walks.tuple hA s1.heap.objs.size a neIt its.toArray
  refine ⟨limI, gen_code hcode codeI (keepI _ _ atP) hps fun code h3 tk more hx hge hP3 ht3 => ?_⟩
  have hge2 : s1.heap.objs.size + 1 ≤ h3.objs.size := by
    rw [← szI]
    exact hge
  have keep3 : ∀ b o, b ≠ P → s1.heap.get? b = some o → h3.get? b = some o := fun b o nb e => hx b o nb (keepI b o e)
  obtain ⟨bm, ob, f1, f2, f3, f4, f5, f6, f7, f8⟩ := TB.bm
  have glob3 : h3.Ns X.env.globals X.mg := by
    rw [I1.ok.glob]
    exact ((I1.mod.glob.keeps I1.bk).push it).extBut hx TB.gP
  refine wpAny_builtinsFor (m := X.mg) glob3 f1 f2 (keep3 _ _ f4 (I1.bk _ _ f5)) f6 f7 f8 ?_
  refine ⟨s1.heap.objs.size, [s1.heap.objs.size, a], [s1.heap.objs.size], its.toArray.size, fun j v => its.toArray[j]? = some v, _, fun _ => true, fun j v => ∃ z, ns[j]? = some z ∧ v = .bool (inR n z), rfl, Wk, ?_, ?_, limI.extBut hx neS, ?_, ?_, ?_⟩
  · refine ⟨?_, ?_⟩
    · obtain ⟨o, e, r⟩ := iterI
      exact ⟨o, hx _ _ (Nat.ne_of_gt ltP) e, r⟩
    · obtain ⟨o, e, r⟩ := tupI
      exact ⟨o, hx _ _ neAP e, r⟩
  · intro b hb
    show b < h3.objs.size
    rcases List.mem_cons.mp hb with e | e
    · rw [e]
      exact Nat.lt_of_succ_le hge2
    · have e2 : b = a := by simpa using e
      obtain ⟨o, g, _⟩ := tupAt
      have lta := Heap.lt_size g
      rw [e2]
      exact Nat.lt_of_lt_of_le lta (by omega)
  · intro hmem
    have e : cStatics = s1.heap.objs.size := by simpa using hmem
    rw [e] at ltS
    exact Nat.lt_irrefl _ ltS
  · intro href hhref
    refine ⟨fun A' E' j v s₂ m₂ hA hPv ha2 hb2 hk => ?_, fun A' E' j v s₂ m₂ hA hPv _ ha2 hb2 hk => ?_⟩
    · simp only [List.forIn_nil]
      exact wpAny_pure ⟨rfl, s₂.heap, s₂.toks, rfl, fun _ _ e => e⟩
    · -- what stood ahead of the generator stands
      have old : ∀ b o, b ≠ P → s1.heap.get? b = some o → s₂.heap.get? b = some o := fun b o nb e => by
        refine hk b (List.mem_range.mpr ?_) (fun z => ?_) o (hhref b o (keep3 b o nb e))
        · exact Nat.lt_of_lt_of_le (Heap.lt_size e) (by show s1.heap.objs.size ≤ h3.objs.size; omega)
        · have e2 : b = s1.heap.objs.size := by simpa using z
          exact Nat.ne_of_lt (Heap.lt_size e) e2
      have nPb : ∀ b o, X.base.get? b = some o → b ≠ P := fun b o e z => by
        have q := (I1.bs b o e).2
        rw [z, hP] at q
        cases q
      have hjv : its[j]? = some v := by simpa using hPv
      obtain ⟨zv, ez, rz⟩ : ∃ z, ns[j]? = some z ∧ RelV (.int z) v := by
        have hj : j < ns.length := by
          obtain ⟨h, _⟩ := List.getElem?_eq_some_iff.mp hjv
          simpa [lenI] using (show j < its.toArray.size by simpa using h)
        obtain ⟨uu, g1, g2⟩ := rv.get (i := j) (x := .int ns[j]) (by rw [List.getElem?_map, List.getElem?_eq_getElem hj]; rfl)
        rw [hjv] at g1
        cases g1
        exact ⟨_, List.getElem?_eq_getElem hj, g2⟩
      obtain ⟨tz, rfl⟩ := rz
      have cellS : s₂.heap.IsCell cc (some (.int n u)) := by
        obtain ⟨o, e, d⟩ := hcell
        refine ⟨o, old _ _ (fun z => ?_) e, d⟩
        rw [z, atP] at e
        cases e
        cases d
      have gS : s₂.heap.Ns mainGlobals X.mg := by
        obtain ⟨o, es, ep, e, r⟩ := I1.mod.glob
        exact ⟨o, es, ep, old _ _ (nPb _ _ e) (I1.bk _ _ e), r⟩
      have bS : s₂.heap.Ns builtinsNs mb := by
        obtain ⟨o, es, ep, e, r⟩ := bb1
        exact ⟨o, es, ep, old _ _ (nPb _ _ e) (I1.bk _ _ e), r⟩
      have hclo : (cloFrom X.env.cells scope.names []).lookup y = some cc := clo_one _ _ _ _ (fun p hp hf => by
        obtain ⟨c', ec'⟩ := S.free p hp hf
        rw [ec']
        rfl) hcc (.inl fy)
      refine thn (elt_range (x := x) (y := y) S.kind S.loc ly lr ha2 hb2 hclo cellS (mg := X.mg) (by show s₂.heap.Ns X.env.globals X.mg; rw [I1.ok.glob]; exact gS) nr bS ((bb2 "range" (by decide)).trans (by decide +kernel)) dx dy cy) fun v' s3 hv => ⟨⟨zv, ez, hv.1⟩, hv.2⟩
  · intro g h5 tk5 gs hbare hag hsz5 hk5 W5 hat
    have e0 : passing (fun _ => true) its.toArray.size 0 = List.range its.toArray.size := GxR.passing_true _
    rw [e0] at W5
    rw [List.length_range, lenI] at W5
    have oldA : ∀ b o, s1.heap.get? b = some o → b ∉ h3.objs.size :: [s1.heap.objs.size] := fun b o e hb => by
      have l0 := Heap.lt_size e
      rcases List.mem_cons.mp hb with z | z
      · rw [z] at l0
        exact absurd (Nat.lt_of_lt_of_le l0 (Nat.le_of_succ_le hge2)) (Nat.lt_irrefl _)
      · have z2 : b = s1.heap.objs.size := by simpa using z
        exact Nat.ne_of_lt l0 z2
    have W6 := W5.in4_1
    rw [show ns.length = (ns.map (inR n)).length from (List.length_map _).symm] at W6
    rw [lenI, show ns.length = (ns.map (inR n)).length from (List.length_map _).symm] at hat
    refine hQ ns n H1 g _ hR ⟨_, _, _, _, _, fun j => (ns.map (inR n)).getD j false, W6, hat, ?_, fun j b hb => by show (ns.map (inR n)).getD j false = b; rw [List.getD_eq_getElem?_getD, hb]; rfl, fun s' hm => ?_⟩
    · intro j yv sj Qj Ej hy hQj
      obtain ⟨i', hij, z, hz', rfl⟩ := hy
      obtain ⟨hj, ej⟩ := List.getElem?_eq_some_iff.mp hij
      rw [List.getElem_range] at ej
      subst ej
      refine wpAny_truthy_bool ?_
      have eb : (ns.map (inR n)).getD j false = inR n z := by
        rw [List.getD_eq_getElem?_getD, List.getElem?_map, hz']
        rfl
      have hQj' : Qj ((ns.map (inR n)).getD j false) sj := hQj
      rw [eb] at hQj'
      exact hQj'
    · have J := inv_tab (more := more) (h' := s'.heap) (g' := s'.gens) (d' := s'.drawn) (t' := s'.toks) I1 hP (fun b o nb e => hm.heap b o (oldA b o e) (hk5 b o (keep3 b o nb e))) (hm.heap P _ (oldA P _ atP) (hk5 P _ hP3)) (AllBare.movedS (I1.bare.push hbare) hm)
      rw [sh_eta s1 s' hm.os] at J
      exact ⟨upd H1 P (.tbl (ps ++ more)), ⟨⟨ps ++ more, upd_same, ht3⟩, fun b hb => upd_ne hb⟩, J⟩
/-- all(x in range(y) for x in e): e a tuple of ints, y an int in slot i -/
def tAllR (K : PySem.W.Frag) (P : Addr) (i : Nat) (te : TE) : TE := fun σ H Q => te σ H fun v H1 => ∃ (a : Addr) (ns : List Int) (n : Int), v = .ref a ∧ SqT K H1 a (ns.map V.int) ∧ GxR.TabG H1 P ∧ σ[i]? = some (some (.int n)) ∧
  ∀ H2, GxR.Tabbed P H1 H2 → Q (.bl (ns.all (inR n))) H2
theorem all_tr : ∀ (bs : List Bool) (tr : Nat → Bool), (∀ j b, bs[j]? = some b → tr j = b) → (List.range bs.length).all tr = bs.all id := by
  intro bs tr h
  rw [Bool.eq_iff_iff, List.all_eq_true, List.all_eq_true]
  constructor
  · intro g b hb
    obtain ⟨j, hj, e⟩ := List.getElem_of_mem hb
    have q := g j (List.mem_range.mpr hj)
    rw [h j b (by rw [List.getElem?_eq_getElem hj, e])] at q
    exact q
  · intro g j hj
    have hj' := List.mem_range.mp hj
    rw [h j bs[j] (List.getElem?_eq_getElem hj')]
    exact g _ (List.getElem_mem hj')
theorem pe_allR {c P : Addr} {iter : Expr} {x y : Str} {px p pos gpos p1 p2 p3 p4 p5 : Pos} {scope : Scope} {te : TE} {k i : Nat}
    (hr : Room k X.A) (hg : Gl X "all") (hm : X.mg "all" = none) (TB : GxR.TabB X.base X.mg c P) (hcode : X.env.code = .ref c) (S : GxR.GenS X.env scope x) (hi : PE X iter te) (hy : X.N[i]? = some y) (vy : X.env.kindOf y = some .cell) (fy : (y, NameKind.free) ∈ scope.names) (ly : scope.names.lookup y = some .free)
    (lr : scope.names.lookup ("range" : Str) = some .globalImplicit) (nr : X.mg "range" = none) (dx : (x == ("__debug__" : Str)) = false) (dy : (y == ("__debug__" : Str)) = false) (cy : (y == ("__classdict__" : Str)) = false)
    (hs : ∀ v, genFold iter X.env v = pure v)
    (he : starEach [.GeneratorExp (eltR x y p1 p2 p3 p4 p5) [⟨.Name x px, iter, [], 0⟩] scope gpos] X.env = (false, eval (.GeneratorExp (eltR x y p1 p2 p3 p4 p5) [⟨.Name x px, iter, [], 0⟩] scope gpos) X.env) :: starEach [] X.env := by rfl) :
    PE X (.Call (.Name "all" p) [.GeneratorExp (eltR x y p1 p2 p3 p4 p5) [⟨.Name x px, iter, [], 0⟩] scope gpos] [] pos) (tAllR X.K P i te) := by
  refine ⟨fun pins s σ H Q I h => wpAny_Call_Name_kw (ld_blt I hg hm (by decide +kernel) (PyProof.Rows.callWith_builtin1 (id := "all") ?_ he (by rfl)))⟩
  rw [he]
  show wpAny _ _ (spliced (_ :: backTo pos (starEach [] X.env))) _ _ s
  refine Calls.spliced_cons (gen_range (R := fun ns n H1 => ∀ H2, GxR.Tabbed P H1 H2 → Q (.bl (ns.all (inR n))) H2) hr TB hcode S hi hy vy fy ly lr nr dx dy cy hs I h fun ns n H1 g s5 hR ⟨fp, wr, G, F, St', tr, W, hst, htr, hb, hI⟩ => Calls.spliced_nil ?_)
  refine call_all_walkS (W.self 0 _ _ _ hst ⟨g, fp, wr, G, _, F, St', _, rfl, W, hst, htr, fun s' hmv => ?_⟩)
  obtain ⟨H2, hT, J⟩ := hI s' hmv
  refine ⟨.bl _, H2, J, rfl, ?_⟩
  rw [all_tr _ tr hb, List.all_map]
  exact hR H2 hT
end
/-! ### a def of the text whose code object is known -/
structure FunT (K : PySem.W.Frag) (x qual : Str) (st : Stmt) (f : Addr) (fd : FuncData) (c : Addr) : Prop where
  ex : ∃ (oc : Value) (od : Option Addr) (kV doc pm : Value) (an : Option Addr) (ct : Value) (osl : Array (Option Value)),
    fd = PySem.W.fnOf x qual (defArgs st) (defBody st) (defScope st) .none kV doc pm an (.ref c) ct ∧ K.lookup f = some ⟨oc, od, .func fd, osl⟩ ∧ PySem.W.codeIn K (.ref c) qual = true
  kp : PySem.W.keepIn K (.ref f) = true
/-- x not in range(..) -/
theorem op_notIn_rng {X : Cx} : OpR X (compareOp .NotIn) (fun x y H Q => ∃ i a lo hi, x = V.int i ∧ y = V.ref a ∧ H a = some (.rng lo hi) ∧ Q (.bl (!decide (lo ≤ i ∧ i < hi))) H) := by
  intro pins s σ H x y v u Q I rx ry ⟨i, a, lo, hi, ex, ey, ha, q⟩
  subst ex ey
  obtain ⟨k, rfl⟩ := rx
  have e2 : u = Value.ref a := ry
  subst e2
  obtain ⟨t1, t2, t3, ho⟩ := I.hok a _ ha
  show wpAny _ _ (do return Value.bool (!(← contains (Value.ref a) (Value.int i k)))) _ _ s
  refine wpAny_bind (wpAny_contains_slot (T := "range") ⟨_, ho, rfl⟩ F.slot_range_contains (call_meets F.slot_range_contains ⟨_, ho, rfl⟩ F.entry_range_contains (F.args_range_contains_2 _ _) (q_contains a lo hi i t1 t2 t3 k) ⟨ho, wpAny_truthy_bool ?_⟩))
  refine wpAny_pure ⟨.bl _, H, I, rfl, ?_⟩
  rw [place1]
  exact q
section
variable {P : Program} {w : World} {K : PySem.W.Frag} {mg : Str → Option Value} {base : Heap}
/-! ### _is_move -/
theorem scIsMove : FnScope ["many", "move", "weight", "whither"] ["many", "move"] (defScope sIsMove) := ⟨rfl, rfl, rfl, by decide +kernel, rfl, by decide +kernel, by decide +kernel⟩
def isMv (many : Int) (m : Mv) : Bool := decide (1 ≤ m.1 ∧ m.1 < 100) && decide ((m.2.length : Int) = many) && m.2.all (inR many)
def spIsMove (T : Addr) : Sp := fun vs H Q _ => ∃ (many : Int) (v : V) (m : Mv), vs = [.int many, v] ∧ MoveAt H v m ∧ GxR.TabG H T ∧ ∀ H', Gr T H H' → GxR.TabG H' T → Q (.bl (isMv many m)) H'
/-- the program's names that a chain leans on -/
structure ChTxt (K : PySem.W.Frag) (mg : Str → Option Value) (fM cM tM : Addr) (fdM : FuncData) (C fI : Addr) (fdI : FuncData) : Prop where
  FM : FunT K "_is_move" "_is_move" sIsMove fM fdM cM
  bM : Binds K fdM ["many", "move"] []
  gM : mg "_is_move" = some (.ref fM)
  FI : Fun K "__init__" "Chain.__init__" (inClass cChain 0) fI fdI
  bI : Binds K fdI ["self", "many", "moves"] []
  mC : Mk K C fI
  cl : Cls K C
  nM : NoAttr K C "_many"
  nV : NoAttr K C "_moves"
  gC : mg "Chain" = some (.ref C)
  gP : ∃ t, mg "MOST_PLACES" = some (.int 6 t)
  gV : ∃ t, mg "MOST_MOVES" = some (.int 8 t)
  gW : ∃ t, mg "MOST_WEIGHT" = some (.int 99 t)
  ml : mg "len" = none
  mi : mg "isinstance" = none
  mt : mg "tuple" = none
  mr : mg "range" = none
  ma : mg "all" = none
  me : mg "enumerate" = none
  mL : mg "list" = none
section
variable {fM cM tM : Addr} {fdM : FuncData} {C fI : Addr} {fdI : FuncData}
theorem genS_move {L f : Addr} {cdv : Value} {scope : Scope} (hs : scope.names = [((".0" : Str), .local), (("place" : Str), .local), (("many" : Str), .free), (("range" : Str), .globalImplicit)]) (hk : scope.kind = .function) (hc : scope.isCoroutine = false) (ha : (envOfC "_is_move" (defScope sIsMove) L f cdv).cells.lookup ("many" : Str) ≠ none) :
    GxR.GenS (envOfC "_is_move" (defScope sIsMove) L f cdv) scope "place" := by
  refine ⟨hk, hc, ?_, ?_, ?_, ?_⟩
  · rw [hs]
    decide +kernel
  · rw [hs]
    decide +kernel
  · rw [hs]
    decide +kernel
  · intro y hy hf
    rw [hs] at hy
    have e : y.1 = ("many" : Str) := by
      rcases List.mem_cons.mp hy with e | hy
      · rw [e] at hf
        cases hf
      rcases List.mem_cons.mp hy with e | hy
      · rw [e] at hf
        cases hf
      rcases List.mem_cons.mp hy with e | hy
      · rw [e]
      rcases List.mem_cons.mp hy with e | hy
      · rw [e] at hf
        cases hf
      · cases hy
    rw [e]
    cases q : (envOfC "_is_move" (defScope sIsMove) L f cdv).cells.lookup ("many" : Str) with
    | none => exact absurd q ha
    | some c => exact ⟨c, rfl⟩
theorem ok_ismove (T : ChTxt K mg fM cM tM fdM C fI fdI) (TB : GxR.TabB base mg cM tM) : FnOk P w K mg base CX0 1 fM fdM ["many", "move"] (spIsMove tM) := by
  obtain ⟨oc, od, kV, doc, pm, an, ct, osl, efd, lk, hcd⟩ := T.FM.ex
  subst efd
  obtain ⟨tw, gW⟩ := T.gW
  refine fn_of (N := ["many", "move", "weight", "whither"]) lk hcd scIsMove (fun vs H Q E h => ?_) (fun A outer s H vs Q E hr h => ?_)
  · obtain ⟨many, v, m, rfl, _⟩ := h
    rfl
  · obtain ⟨many, v, m, rfl, ⟨a, b, rfl, ha, hb⟩, hTab, q⟩ := h
    refine ⟨_, pss_cons (ps_if (PW.pt (pw_or (pt_not (pt_val (pe_callB RZ.call_isTy (by rfl) T.mi (by decide +kernel) (pa_cons (pv 1) (pa_cons (pe_bltn (v := .ty "tuple") (by rfl) T.mt (by decide +kernel) rfl) pa_nil)))))
          (pw_or1 (pt_cmpR op_ne (pe_callB call_len_seq (by rfl) T.ml PySem.boot_len (pa_cons (pv 1) pa_nil)) pe_int (nomark _))))) (pss_one (ps_ret pe_bl)) pss_nil)
      (pss_cons (ps_asg (pv 1) (pg_tup rfl (pgs_cons (pg_name (i := 2) scIsMove.nd rfl (.inl rfl)) (pgs_cons (pg_name (i := 3) scIsMove.nd rfl (.inl rfl)) pgs_nil))))
      (pss_cons (ps_if (pt_cmpR op_notIn_rng (pv 2) (pe_callTy cr_range2 (by rfl) T.mr (by decide +kernel) (pa_cons pe_int (pa_cons (pe_op op_add (pe_glob (v := .int 99) (by rfl) gW ⟨_, rfl⟩) pe_int) pa_nil))) rfl) (pss_one (ps_ret pe_bl)) pss_nil)
      (pss_cons (ps_if (PW.pt (pw_or (pt_not (pt_val (pe_callB RZ.call_isTy (by rfl) T.mi (by decide +kernel) (pa_cons (pv 3) (pa_cons (pe_bltn (v := .ty "tuple") (by rfl) T.mt (by decide +kernel) rfl) pa_nil)))))
          (pw_or1 (pt_cmpR op_ne (pe_callB call_len_seq (by rfl) T.ml PySem.boot_len (pa_cons (pv 3) pa_nil)) (pv 0) (nomark _))))) (pss_one (ps_ret pe_bl)) pss_nil)
      (pss_one (ps_ret (pe_allR (k := 0) (x := "place") (y := "many") (i := 0) hr (by rfl) T.ma TB rfl (genS_move (by rfl) rfl rfl ?hcell) (pv 3) rfl rfl (by decide +kernel) (by decide +kernel) (by decide +kernel) T.mr (by decide) (by decide) (by decide) (fun _ => rfl) (by rfl))))))), ?_⟩
    case hcell =>
      intro z
      have q : ((envOfC "_is_move" (defScope sIsMove) s.heap.objs.size fM (.ref cM)).cells.lookup ("many" : Str)).isSome = true := PySem.W.cellsFrom_some _ _ _ (.inl (by decide +kernel))
      rw [z] at q
      cases q
    have neT : ∀ {p : Addr}, H p = none → p ≠ tM := fun np z => by
      obtain ⟨ps, e, _⟩ := hTab
      rw [z, e] at np
      cases np
    refine ⟨.ref a, rfl, .ref a, "tuple", rfl, .tup ha, true, rfl, ?_⟩
    refine ⟨.ref a, rfl, a, _, rfl, .inr (SqT.of ha), rfl, _, rfl, iteNS rfl ?_⟩
    refine ⟨.ref a, rfl, a, _, rfl, SqT.of ha, rfl, .int m.1, [.ref b], rfl, .ref b, [], rfl, rfl, ?_⟩
    refine ⟨.int m.1, rfl, 99, 1, rfl, rfl, 1, 100, rfl, fun r nr => ⟨m.1, r, 1, 100, rfl, rfl, upd_same, _, rfl, ?_⟩⟩
    have g1 : Same H (upd H r (.rng 1 100)) := same_new nr
    have tab1 : GxR.TabG (upd H r (.rng 1 100)) tM := by
      obtain ⟨ps, e, t⟩ := hTab
      exact ⟨ps, g1 _ _ e, t⟩
    have hb1 := g1 _ _ hb
    by_cases h1 : 1 ≤ m.1 ∧ m.1 < 100
    · refine iteNS h1 ?_
      refine ⟨.ref b, rfl, .ref b, "tuple", rfl, .tup hb1, true, rfl, ?_⟩
      refine ⟨.ref b, rfl, b, _, rfl, .inr (SqT.of hb1), .int many, rfl, rfl, _, rfl, ?_⟩
      by_cases h2 : (((m.2.map V.int).length : Nat) : Int) = many
      · refine iteNS (congrArg V.int h2) ?_
        refine ⟨.ref b, rfl, b, m.2, many, rfl, SqT.of hb1, tab1, rfl, fun H2 ⟨t2, k2⟩ => ?_⟩
        have e : isMv many m = m.2.all (inR many) := by
          unfold isMv
          rw [List.length_map] at h2
          rw [decide_eq_true h1, decide_eq_true h2, Bool.true_and, Bool.true_and]
        have q2 := q H2 (fun x o nx ex => by rw [k2 x nx]; exact g1 _ _ ex) t2
        rw [e] at q2
        exact q2
      · have e : isMv many m = false := by
          unfold isMv
          rw [List.length_map] at h2
          rw [decide_eq_false h2, Bool.and_false, Bool.false_and]
        have q2 := q _ (Gr.of_same g1) tab1
        rw [e] at q2
        have h3 : ¬ V.int (((m.2.map V.int).length : Nat) : Int) = V.int many := fun z => h2 (V.int.inj z)
        show if (!decide (V.int (((m.2.map V.int).length : Nat) : Int) = V.int many)) = true then _ else _
        rw [decide_eq_false h3]
        exact q2
    · have e : isMv many m = false := by
        unfold isMv
        rw [decide_eq_false h1, Bool.false_and, Bool.false_and]
      have q2 := q _ (Gr.of_same g1) tab1
      rw [e] at q2
      rw [decide_eq_false h1]
      exact q2
end
end
def rLenSq (K : PySem.W.Frag) : List V → Hp → VK → Prop := fun xs H Q => ∃ p ys, xs = [V.ref p] ∧ (SqL K H p ys ∨ SqT K H p ys) ∧ Q (.int ((ys.length : Nat) : Int)) H
section
variable {P : Program} {w : World} {K : PySem.W.Frag} {mg : Str → Option Value} {base : Heap}
variable {fM cM tM : Addr} {fdM : FuncData} {C fI : Addr} {fdI : FuncData}
/-! ### class Chain -/
theorem scInit : FnScope ["self", "many", "moves", "number", "move"] ["self", "many", "moves"] (defScope (inClass cChain 0)) := ⟨rfl, rfl, rfl, by decide +kernel, rfl, by decide +kernel, by decide +kernel⟩
def chF (many : Int) (a : Addr) : List (Str × V) := putF "_moves" (.ref a) (putF "_many" (.int many) [])
theorem ne_mm : ¬ (("_many" : Str) = "_moves") := by decide +kernel
theorem chF_many (many : Int) (a : Addr) : (chF many a).lookup ("_many" : Str) = some (.int many) := by
  unfold chF
  rw [lookup_putF, if_neg ne_mm, lookup_putF, if_pos rfl]
theorem chF_moves (many : Int) (a : Addr) : (chF many a).lookup ("_moves" : Str) = some (.ref a) := by
  unfold chF
  rw [lookup_putF, if_pos rfl]
theorem chF_no (many : Int) (a : Addr) {m : Str} (h1 : ¬ m = "_many") (h2 : ¬ m = "_moves") : (chF many a).lookup m = none := by
  unfold chF
  rw [lookup_putF, if_neg h2, lookup_putF, if_neg h1]
  all_goals rfl
def ChainAt (C : Addr) (H : Hp) (x : Addr) (many : Nat) (ms : List Mv) : Prop := ∃ dx a ws, H x = some (.ins C dx (chF (many : Int) a)) ∧ H a = some (.lst ws) ∧ MovesAt H ws ms
theorem ChainAt.same {C : Addr} {H H' : Hp} {x : Addr} {many : Nat} {ms : List Mv} (s : Same H H') (h : ChainAt C H x many ms) : ChainAt C H' x many ms := by
  obtain ⟨dx, a, ws, h1, h2, h3⟩ := h
  exact ⟨dx, a, ws, s _ _ h1, s _ _ h2, h3.same (Same.tups s)⟩
theorem moves_no_dl {H : Hp} {ws : List V} {ms : List Mv} (h : MovesAt H ws ms) (s0 : Int) (l : Addr) (k big : Int) : HO.lst ws ≠ .lst (dl s0 l k big) := by
  intro z
  injection z with z
  subst z
  cases h with
  | cons a _ =>
    obtain ⟨_, _, e, _⟩ := a
    cases e
theorem ChainAt.gr {C d l : Addr} {ns : List Int} {H H' : Hp} {x : Addr} {many : Nat} {ms : List Mv} (hd : Dc K l ns H d) (s : Gr d H H') (h : ChainAt C H x many ms) : ChainAt C H' x many ms := by
  obtain ⟨dx, a, ws, h1, h2, h3⟩ := h
  exact ⟨dx, a, ws, s _ _ (hd.ne_of h1 fun _ _ _ _ z => nomatch z) h1, s _ _ (hd.ne_of h2 (moves_no_dl h3)) h2, h3.same (s.tups hd)⟩
/-- all that is tracked, but at x and t, is as it was -/
def Gr2 (x t : Addr) (H H' : Hp) : Prop := ∀ b o, b ≠ x → b ≠ t → H b = some o → H' b = some o
/-- a chain that has just been made: its list of moves is its own -/
def ChainNew (C : Addr) (H H' : Hp) (x : Addr) (many : Nat) (ms : List Mv) : Prop := ∃ dx a ws, H' x = some (.ins C dx (chF (many : Int) a)) ∧ H' a = some (.lst ws) ∧ MovesAt H' ws ms ∧ H a = none
theorem ChainNew.at {C : Addr} {H H' : Hp} {x : Addr} {many : Nat} {ms : List Mv} (h : ChainNew C H H' x many ms) : ChainAt C H' x many ms := by
  obtain ⟨dx, a, ws, h1, h2, h3, _⟩ := h
  exact ⟨dx, a, ws, h1, h2, h3⟩
def spInitG (C T : Addr) : Sp := fun vs H Q _ => ∃ (x dx l : Addr) (many : Nat) (ws : List V) (ms : List Mv), vs = [.ref x, .int (many : Int), .ref l] ∧ H x = some (.ins C dx []) ∧ H l = some (.lst ws) ∧ MovesAt H ws ms ∧ Good many ms ∧ GxR.TabG H T ∧
  ∀ H', ChainNew C H H' x many ms → Gr2 x T H H' → GxR.TabG H' T → Q .non H'
theorem isMv_good {many : Nat} {m : Mv} (h : GoodMv many m) : isMv (many : Int) m = true := by
  obtain ⟨h1, h2, h3, h4⟩ := h
  unfold isMv
  rw [decide_eq_true (show 1 ≤ m.1 ∧ m.1 < 100 from ⟨h1, by omega⟩), decide_eq_true (show (m.2.length : Int) = (many : Int) by rw [h3]), Bool.true_and, Bool.true_and, List.all_eq_true]
  intro x hx
  unfold inR
  exact decide_eq_true (h4 x hx)
theorem ok_initG (T : ChTxt K mg fM cM tM fdM C fI fdI) (TB : GxR.TabB base mg cM tM) : FnOk P w K mg base CX0 2 fI fdI ["self", "many", "moves"] (spInitG C tM) := by
  have GM : FnOk P w K mg base CX0 1 fM fdM ["many", "move"] (spIsMove tM) := ok_ismove T TB
  obtain ⟨tp, gP⟩ := T.gP
  obtain ⟨tv, gV⟩ := T.gV
  refine T.FI.ok scInit (fun vs H Q E h => ?_) (fun cdv A outer s H vs Q E hr h => ?_)
  · obtain ⟨x, dx, l, many, ws, ms, rfl, _⟩ := h
    rfl
  · obtain ⟨x, dx, l, many, ws, ms, rfl, hx, hl, hM, G, hTab, q⟩ := h
    have lenW := hM.length
    refine ⟨_, pss_cons (ps_if (pt_not (pt_chain op_le op_le pe_int (pv 1) (pe_glob (v := .int 6) (by rfl) gP ⟨_, rfl⟩))) pss_never pss_nil)
      (pss_cons (ps_if (pt_not (pt_chain op_le op_le pe_int (pe_callB call_len_seq (by rfl) T.ml PySem.boot_len (pa_cons (pv 2) pa_nil)) (pe_glob (v := .int 8) (by rfl) gV ⟨_, rfl⟩))) pss_never pss_nil)
      (pss_cons (ps_for PassesOwn.never rfl (pi_enum (by rfl) T.me (pa_cons (pv 2) pa_nil)) (pg_tup rfl (pgs_cons (pg_name (i := 3) scInit.nd rfl (.inl rfl)) (pgs_cons (pg_name (i := 4) scInit.nd rfl (.inl rfl)) pgs_nil)))
          (pss_one (ps_if (pt_not (pt_val (pe_call GM hr (by rfl) T.gM T.FM.kp T.bM .nil pass0 (pa_cons (pv 1) (pa_cons (pv 4) pa_nil))))) pss_never pss_nil)))
      (pss_cons (ps_fld (pv 0) (pv 1) rfl)
      (pss_one (ps_fld (pv 0) (pe_callTy call_list_of (by rfl) T.mL (by decide +kernel) (pa_cons (pv 2) pa_nil)) rfl))))), ?_⟩
    have G1 := G.m1
    have G2 := G.m6
    have G3 := G.l1
    have G4 := G.l8
    refine ⟨.int (many : Int), rfl, 1, (many : Int), rfl, rfl, _, rfl, ifD (by omega) ⟨_, _, rfl, rfl, _, rfl, iteNS (by omega) ?_⟩⟩
    have hS : SqL K H l ws := SqL.of hl
    refine ⟨.ref l, rfl, l, ws, rfl, .inl hS, 1, _, rfl, rfl, _, rfl, ifD (by omega) ⟨_, _, rfl, rfl, _, rfl, iteNS (by omega) ?_⟩⟩
    -- for number, move in enumerate(moves)
    have nxT : x ≠ tM := fun z => by
      obtain ⟨ps, e, _⟩ := hTab
      rw [z, e] at hx
      cases hx
    have nlT : l ≠ tM := fun z => by
      obtain ⟨ps, e, _⟩ := hTab
      rw [z, e] at hl
      cases hl
    have nxl : x ≠ l := ne_of hx hl (fun z => nomatch z)
    have tupK : ∀ {H'}, Gr tM H H' → ∀ b xs, H b = some (.tup xs) → H' b = some (.tup xs) := fun {H'} g b xs e => g b _ (fun z => by
      obtain ⟨ps, e2, _⟩ := hTab
      rw [z, e2] at e
      cases e) e
    refine ⟨.ref l, rfl, l, ws, rfl, hS, for_it (walk_enum (K := K) (a := l) (xs := ws)) (fun i σ H' => ∃ y3 y4, σ = [some (.ref x), some (.int (many : Int)), some (.ref l), y3, y4] ∧ Gr tM H H' ∧ GxR.TabG H' tM)
      ⟨none, none, rfl, Gr.refl _ _, hTab⟩ (fun i σ H' hi ⟨y3, y4, e, g, t⟩ => SqL.of (g l _ nlT hl)) ?_ ?_⟩
    · rintro i z σ H1 H2 hi ⟨y3, y4, rfl, g1, t1⟩ ⟨Tp, u, v, rfl, nT, rfl, eu, ev⟩
      have g2 : Gr tM H (upd H1 Tp (.tup [u, v])) := g1.new nT
      have t2 : GxR.TabG (upd H1 Tp (.tup [u, v])) tM := by
        obtain ⟨ps, e, t⟩ := t1
        exact ⟨ps, (same_new nT) _ _ e, t⟩
      refine ⟨Tp, [u, v], rfl, SqT.of upd_same, rfl, u, [v], rfl, v, [], rfl, rfl, ?_⟩
      obtain ⟨m, em, hm⟩ := hM.get' ev
      have hgood := G.mv m (List.mem_of_getElem? em)
      have hm2 : MoveAt (upd H1 Tp (.tup [u, v])) v m := hm.same (tupK g2)
      refine ⟨.int (many : Int), rfl, v, rfl, (many : Int), v, m, rfl, hm2, t2, fun H3 g3 t3 => ?_⟩
      rw [isMv_good hgood]
      refine ⟨true, rfl, ?_⟩
      exact ⟨some u, some v, rfl, g2.trans g3, t3⟩
    · rintro σ H1 ⟨y3, y4, rfl, g1, t1⟩
      have hx1 := g1 x _ nxT hx
      have hl1 := g1 l _ nlT hl
      refine ⟨.int (many : Int), rfl, .ref x, rfl, x, C, dx, [], rfl, hx1, T.cl, T.nM, (by show 0 < 1000; decide), ?_⟩
      have hx2 : (upd H1 x (.ins C dx (putF "_many" (.int (many : Int)) []))) x = some (.ins C dx (putF "_many" (.int (many : Int)) [])) := upd_same
      have hl2 : (upd H1 x (.ins C dx (putF "_many" (.int (many : Int)) []))) l = some (.lst ws) := by
        rw [upd_ne (Ne.symm nxl)]
        exact hl1
      refine ⟨.ref l, rfl, l, ws, rfl, .inl (SqL.of hl2), fun a na => ?_⟩
      have nxa : x ≠ a := ne_of_none hx2 na
      refine ⟨.ref x, rfl, x, C, dx, _, rfl, (by rw [upd_ne nxa]; exact hx2), T.cl, T.nV, (by show 1 < 1000; decide), ?_⟩
      have naH1 : H1 a = none := by
        rw [upd_ne (Ne.symm nxa)] at na
        exact na
      have keepT : ∀ b o, b ≠ x → H1 b = some o → (upd (upd (upd H1 x (.ins C dx (putF "_many" (.int (many : Int)) []))) a (.lst ws)) x (.ins C dx (chF (many : Int) a))) b = some o := fun b o nb e => by
        rw [upd_ne nb, upd_ne (ne_of_none e naH1), upd_ne nb]
        exact e
      have ntx : ∀ xs, H1 x ≠ some (.tup xs) := fun xs z => by
        rw [hx1] at z
        cases z
      have naH : H a = none := by
        cases h : H a with
        | none => rfl
        | some o =>
          have nat : a ≠ tM := fun z => by
            obtain ⟨ps, e, _⟩ := t1
            rw [z, e] at naH1
            cases naH1
          rw [g1 a o nat h] at naH1
          cases naH1
      refine q _ ⟨dx, a, ws, upd_same, ?_, hM.same (fun b xs e => ?_), naH⟩ (fun b o nb nt e => keepT b o nb (g1 b o nt e)) ?_
      · rw [upd_ne (Ne.symm nxa)]
        exact upd_same
      · have e1 := tupK g1 b xs e
        refine keepT b _ (fun z => ?_) e1
        rw [z] at e1
        exact ntx xs e1
      · obtain ⟨ps, e, t⟩ := t1
        exact ⟨ps, keepT _ _ (Ne.symm nxT) e, t⟩
/-! ### places, told -/
theorem scPlaces : FnScope ["self"] ["self"] (defScope (inClass cChain 1)) := ⟨rfl, rfl, rfl, by decide +kernel, rfl, by decide +kernel, by decide +kernel⟩
theorem scTold : FnScope ["self"] ["self"] (defScope (inClass cChain 2)) := ⟨rfl, rfl, rfl, by decide +kernel, rfl, by decide +kernel, by decide +kernel⟩
def spPlaces (C : Addr) : Sp := fun vs H Q _ => ∃ (x : Addr) (many : Nat) (ms : List Mv), vs = [.ref x] ∧ ChainAt C H x many ms ∧ Q (.int (many : Int)) H
def spTold (C : Addr) : Sp := fun vs H Q _ => ∃ (x : Addr) (many : Nat) (ms : List Mv), vs = [.ref x] ∧ ChainAt C H x many ms ∧ ∀ (l : Addr) (ws : List V), H l = none → MovesAt (upd H l (.lst ws)) ws ms → Q (.ref l) (upd H l (.lst ws))
theorem ok_places {f : Addr} {fd : FuncData} {k : Nat} (F : Fun K "places" "Chain.places" (inClass cChain 1) f fd) (cl : Cls K C) (nM : NoAttr K C "_many") : FnOk P w K mg base CX0 (k + 1) f fd ["self"] (spPlaces C) := by
  refine F.ok scPlaces (fun vs H Q E h => ?_) (fun cdv A outer s H vs Q E hr h => ?_)
  · obtain ⟨x, many, ms, rfl, _⟩ := h
    rfl
  · obtain ⟨x, many, ms, rfl, ⟨dx, a, ws, h1, h2, h3⟩, q⟩ := h
    exact ⟨_, pss_one (ps_ret (pe_fld (pv 0) rfl)), .ref x, rfl, x, C, dx, _, _, rfl, h1, cl, nM, chF_many _ _, q⟩
theorem ok_told {f : Addr} {fd : FuncData} {k : Nat} (F : Fun K "told" "Chain.told" (inClass cChain 2) f fd) (cl : Cls K C) (nV : NoAttr K C "_moves") (mL : mg "list" = none) : FnOk P w K mg base CX0 (k + 1) f fd ["self"] (spTold C) := by
  refine F.ok scTold (fun vs H Q E h => ?_) (fun cdv A outer s H vs Q E hr h => ?_)
  · obtain ⟨x, many, ms, rfl, _⟩ := h
    rfl
  · obtain ⟨x, many, ms, rfl, ⟨dx, a, ws, h1, h2, h3⟩, q⟩ := h
    exact ⟨_, pss_one (ps_ret (pe_callTy call_list_of (by rfl) mL (by decide +kernel) (pa_cons (pe_fld (pv 0) rfl) pa_nil))), .ref x, rfl, x, C, dx, _, _, rfl, h1, cl, nV, chF_moves _ _, a, ws, rfl, .inl (SqL.of h2), fun l nl => q l ws nl (h3.same (Same.tups (same_new nl)))⟩
end
section
variable {P : Program} {w : World} {K : PySem.W.Frag} {mg : Str → Option Value} {base : Heap}
variable {fM cM tM : Addr} {fdM : FuncData} {C fI : Addr} {fdI : FuncData}
/-! ### _law_made -/
theorem scMade : FnScope ["_law_told_here"] ["_law_told_here"] (defScope sMade) := ⟨rfl, rfl, rfl, by decide +kernel, rfl, by decide +kernel, by decide +kernel⟩
def spMade (C T : Addr) : Sp := fun vs H Q _ => ∃ (t m : Addr) (many : Nat) (ws : List V) (ms : List Mv), vs = [.ref t] ∧ ToldAt H t m many ws ms ∧ Good many ms ∧ GxR.TabG H T ∧ ∀ H' x, ChainNew C H H' x many ms → H x = none → Gr T H H' → GxR.TabG H' T → Q (.ref x) H'
theorem ok_made {f : Addr} {fd : FuncData} (F : Fun K "_law_made" "_law_made" sMade f fd) (T : ChTxt K mg fM cM tM fdM C fI fdI) (TB : GxR.TabB base mg cM tM) : FnOk P w K mg base CX0 4 f fd ["_law_told_here"] (spMade C tM) := by
  have GI : FnOk P w K mg base CX0 2 fI fdI ["self", "many", "moves"] (spInitG C tM) := ok_initG T TB
  refine F.ok scMade (fun vs H Q E h => ?_) (fun cdv A outer s H vs Q E hr h => ?_)
  · obtain ⟨t, m, many, ws, ms, rfl, _⟩ := h
    rfl
  · obtain ⟨t, m, many, ws, ms, rfl, ⟨h1, h2, h3⟩, G, ⟨ps, hT, htr⟩, q⟩ := h
    refine ⟨_, pss_one (ps_ret (pe_make T.mC GI hr (by rfl) T.gC T.bI .nil pass0 (pa_cons (pe_ix ix_tup (pv 0) pe_int (fun _ _ => rfl)) (pa_cons (pe_callTy call_list_of (by rfl) T.mL (by decide +kernel) (pa_cons (pe_ix ix_tup (pv 0) pe_int (fun _ _ => rfl)) pa_nil)) pa_nil)))), ?_⟩
    refine ⟨.ref t, rfl, t, _, 0, _, rfl, rfl, SqT.of h1, atI_nat (j := 0) rfl, .ref t, rfl, t, _, 1, _, rfl, rfl, SqT.of h1, atI_nat (j := 1) rfl, m, ws, rfl, .inl (SqL.of h2), fun l nl x dx nx ndx nxd => ?_⟩
    have s1 : Same H (upd H l (.lst ws)) := same_new nl
    have s2 : Same (upd H l (.lst ws)) (upd (upd H l (.lst ws)) dx (.own x)) := same_new ndx
    have nx' : (upd (upd H l (.lst ws)) dx (.own x)) x = none := by
      rw [upd_ne (Ne.symm nxd)]
      exact nx
    have s3 := same_new (o := .ins C dx []) nx'
    have s := (s1.trans s2).trans s3
    refine ⟨x, dx, l, many, ws, ms, rfl, upd_same, (s2.trans s3) _ _ upd_same, h3.same (Same.tups s), G, ⟨ps, s _ _ hT, htr⟩, fun H' hc g t' => ⟨rfl, ?_⟩⟩
    exact q H' x (let ⟨dx, a, ws, e1, e2, e3, e4⟩ := hc; ⟨dx, a, ws, e1, e2, e3, s.free e4⟩) (s1.free nx) (fun b o nb e => g b o (ne_of_none (s1 _ _ e) nx) nb (s _ _ e)) t'
end
/-- a def of the module, named -/
structure Df (K : PySem.W.Frag) (mg : Str → Option Value) (x : Str) (st : Stmt) (ps : List Str) (f : Addr) (fd : FuncData) : Prop where
  F : Fun K x x st f fd
  b : Binds K fd ps []
  g : mg x = some (.ref f)
def spLaw (K : PySem.W.Frag) (T : Addr) : Sp := fun vs H Q _ => ∃ (a : Addr) (ns : List Int), vs = [.ref a] ∧ SqL K H a (ns.map V.int) ∧ ns.length ≤ 63 ∧ GxR.TabG H T ∧ ∀ H', Q (.bl true) H'
theorem Same.put {H H1 : Hp} {p : Addr} {o : HO} (s : Same H H1) (n : H p = none) : Same H (upd H1 p o) := fun b u e => by
  rw [upd_ne (ne_of_none e n)]
  exact s b u e
theorem ToldAt.same {H H' : Hp} {t m : Addr} {many : Nat} {ws : List V} {ms : List Mv} (s : Same H H') (h : ToldAt H t m many ws ms) : ToldAt H' t m many ws ms := ⟨s _ _ h.1, s _ _ h.2.1, h.2.2.same (Same.tups s)⟩
theorem ToldAt.gr {K : PySem.W.Frag} {d l : Addr} {ns : List Int} {H H' : Hp} {t m : Addr} {many : Nat} {ws : List V} {ms : List Mv} (hd : Dc K l ns H d) (g : Gr d H H') (h : ToldAt H t m many ws ms) : ToldAt H' t m many ws ms :=
  ⟨g.tups hd _ _ h.1, g _ _ (hd.ne_of h.2.1 (moves_no_dl h.2.2)) h.2.1, h.2.2.same (g.tups hd)⟩
/-- a table stands while the dice turns -/
theorem tab_gr {K : PySem.W.Frag} {d l : Addr} {ns : List Int} {H H' : Hp} {T : Addr} (hd : Dc K l ns H d) (g : Gr d H H') (h : GxR.TabG H T) : GxR.TabG H' T := by
  obtain ⟨ps, e, t⟩ := h
  exact ⟨ps, g _ _ (hd.ne_of e fun _ _ _ _ z => nomatch z) e, t⟩
theorem tab_same {H H' : Hp} {T : Addr} (s : Same H H') (h : GxR.TabG H T) : GxR.TabG H' T := by
  obtain ⟨ps, e, t⟩ := h
  exact ⟨ps, s _ _ e, t⟩
/-- what is no table stands while the table grows -/
theorem Gr.tab {T p : Addr} {H H' : Hp} {o : HO} (hT : GxR.TabG H T) (g : Gr T H H') (n : ∀ qs, o ≠ .tbl qs) (h : H p = some o) : H' p = some o := g p o (fun z => by
  obtain ⟨ps, e, _⟩ := hT
  rw [z, e] at h
  exact n ps (Option.some.inj h).symm) h
theorem ToldAt.tab {T t m : Addr} {H H' : Hp} {many : Nat} {ws : List V} {ms : List Mv} (hT : GxR.TabG H T) (g : Gr T H H') (h : ToldAt H t m many ws ms) : ToldAt H' t m many ws ms :=
  ⟨g.tab hT (fun _ z => nomatch z) h.1, g.tab hT (fun _ z => nomatch z) h.2.1, h.2.2.same fun _ _ e => g.tab hT (fun _ z => nomatch z) e⟩
theorem Dc.tabT {K : PySem.W.Frag} {T d l : Addr} {ns : List Int} {H H' : Hp} (hT : GxR.TabG H T) (g : Gr T H H') (h : Dc K l ns H d) : Dc K l ns H' d := by
  obtain ⟨s0, k, big, h1, h2, h3⟩ := h
  refine ⟨s0, k, big, g.tab hT (fun _ z => nomatch z) h1, ?_, h3⟩
  rcases h2 with (h | ⟨o, h⟩) | h
  · exact .inl (.inl (g.tab hT (fun _ z => nomatch z) h))
  · exact .inl (.inr ⟨o, g.tab hT (fun _ z => nomatch z) h⟩)
  · exact .inr h
theorem Gr.put {d : Addr} {H H1 : Hp} {p : Addr} {o : HO} (a : Gr d H H1) (h : H p = none) : Gr d H (upd H1 p o) := fun b u n e => by
  rw [upd_ne (ne_of_none e h)]
  exact a b u n e
theorem Gr.free {d : Addr} {H H1 : Hp} {p : Addr} (a : Gr d H H1) (n : H1 p = none) (h : p ≠ d) : H p = none := by
  cases e : H p with
  | none => rfl
  | some o =>
    rw [a p o h e] at n
    cases n
theorem paired_drop {α β : Type} {F : α → β → Prop} : ∀ {l₁ : List α} {l₂ : List β} (n : Nat), Paired F l₁ l₂ → Paired F (l₁.drop n) (l₂.drop n)
  | _, _, 0, h => h
  | _, _, _ + 1, .nil => .nil
  | _, _, n + 1, .cons _ t => paired_drop n t
theorem paired_take {α β : Type} {F : α → β → Prop} : ∀ {l₁ : List α} {l₂ : List β} (n : Nat), Paired F l₁ l₂ → Paired F (l₁.take n) (l₂.take n)
  | _, _, 0, _ => .nil
  | _, _, _ + 1, .nil => .nil
  | _, _, n + 1, .cons h t => .cons h (paired_take n t)
theorem paired_app {α β : Type} {F : α → β → Prop} : ∀ {l₁ : List α} {l₂ : List β} {k₁ : List α} {k₂ : List β}, Paired F l₁ l₂ → Paired F k₁ k₂ → Paired F (l₁ ++ k₁) (l₂ ++ k₂)
  | _, _, _, _, .nil, h => h
  | _, _, _, _, .cons q t, h => .cons q (paired_app t h)
theorem paired_rep {α β : Type} {F : α → β → Prop} {a : α} {b : β} (h : F a b) : ∀ n, Paired F (List.replicate n a) (List.replicate n b)
  | 0 => .nil
  | n + 1 => .cons h (paired_rep h n)
theorem filter_snoc {l : List Int} {i : Nat} {x : Int} {F : Int → Bool} (h : l[i]? = some x) : (l.take (i + 1)).filter F = (l.take i).filter F ++ (if F x = true then [x] else []) := by
  rw [List.take_add_one, h, List.filter_append]
  cases hk : F x with
  | true => simp [hk]
  | false => simp [hk]
theorem paired_get {α β : Type} {F : α → β → Prop} : ∀ {l₁ : List α} {l₂ : List β} {i : Nat} {b : β}, Paired F l₁ l₂ → l₂[i]? = some b → ∃ a, l₁[i]? = some a ∧ F a b
  | _, _, _, _, .nil, e => by simp at e
  | _, _, 0, _, .cons h _, e => by
    simp at e
    subst e
    exact ⟨_, rfl, h⟩
  | _, _, i + 1, b, .cons _ t, e => by
    obtain ⟨a, h1, h2⟩ := paired_get (i := i) (b := b) t (by simpa using e)
    exact ⟨a, by simpa using h1, h2⟩
theorem paired_end {α β : Type} {F : α → β → Prop} {a : α} {b : β} (h : F a b) : ∀ {l₁ : List α} {l₂ : List β}, Paired F l₁ l₂ → Paired F (l₁ ++ [a]) (l₂ ++ [b])
  | _, _, .nil => .cons h .nil
  | _, _, .cons q t => .cons q (paired_end h t)
theorem take_snoc {α : Type} {l : List α} {i : Nat} {x : α} (h : l[i]? = some x) : l.take (i + 1) = l.take i ++ [x] := by
  rw [List.take_add_one, h]
  rfl
theorem small1k {n : Nat} (h : n ≤ 1001) : n < sizeLine := Nat.lt_of_le_of_lt h (by decide)
section
variable {P : Program} {w : World} {K : PySem.W.Frag} {mg : Str → Option Value} {base : Heap} {C : Addr}
/-- range(n) as a value -/
theorem cr_range1 {X : Cx} : CallR X (.type "range") (fun vs H Q => ∃ n, vs = [V.int n] ∧ ∀ p, H p = none → Q (.ref p) (upd H p (.rng 0 n))) := by
  intro pins s σ H vs us Q I r ⟨n, ev, q⟩
  subst ev
  cases r with
  | cons rn rr =>
    cases rr
    obtain ⟨t, rfl⟩ := rn
    refine call_range_1 ⟨.ref s.heap.objs.size, upd H s.heap.objs.size (.rng 0 n), I.laid (t' := s.toks + 1 + 1) (fun b o e => Heap.get?_push_of_some _ e) (Nat.le_refl _) ?_, rfl, q _ (I.hok.fresh (Nat.le_refl _))⟩
    exact ⟨s.toks, t, s.toks + 1, Heap.get?_push_size _ rfl⟩
/-! ### steps_of -/
structure ChM (K : PySem.W.Frag) (C fP fT : Addr) (fdP fdT : FuncData) : Prop where
  FP : Fun K "places" "Chain.places" (inClass cChain 1) fP fdP
  bP : Binds K fdP ["self"] []
  hP : Meth K C "places" fP
  FT : Fun K "told" "Chain.told" (inClass cChain 2) fT fdT
  bT : Binds K fdT ["self"] []
  hT : Meth K C "told" fT
  cl : Cls K C
  nM : NoAttr K C "_many"
  nV : NoAttr K C "_moves"
theorem ch_no {many : Int} {a : Addr} : (chF many a).lookup ("places" : Str) = none := chF_no _ _ (by decide +kernel) (by decide +kernel)
theorem ch_noT {many : Int} {a : Addr} : (chF many a).lookup ("told" : Str) = none := chF_no _ _ (by decide +kernel) (by decide +kernel)
theorem rg_ends (n : Nat) : rgV 0 (n : Int) = ((List.range n).map fun (i : Nat) => (i : Int)).map V.int := by
  unfold rgV
  rw [List.map_map]
  have e : ((n : Int) - 0).toNat = n := by omega
  rw [e]
  refine List.map_congr_left fun i _ => ?_
  show V.int (0 + (i : Int)) = V.int (i : Int)
  rw [Int.zero_add]
end
/-! ### data that are compared -/
def Sh (n : Nat) (d : PyData) : Prop := d.canLay0 = true ∧ d.depth ≤ n
theorem canAll : ∀ {ds : List PyData}, (∀ d ∈ ds, d.canLay0 = true) → PyData.canLayAll0 ds = true
  | [], _ => rfl
  | d :: ds, h => by
    show (d.canLay0 && PyData.canLayAll0 ds) = true
    rw [h d List.mem_cons_self, canAll fun z hz => h z (List.mem_cons_of_mem _ hz)]
    rfl
theorem depAll {n : Nat} : ∀ {ds : List PyData}, (∀ d ∈ ds, d.depth ≤ n) → PyData.depthAll ds ≤ n
  | [], _ => Nat.zero_le _
  | d :: ds, h => by
    show max d.depth (PyData.depthAll ds) ≤ n
    exact Nat.max_le.mpr ⟨h d List.mem_cons_self, depAll fun z hz => h z (List.mem_cons_of_mem _ hz)⟩
theorem Sh.int {n : Nat} (i : Int) : Sh n (.int i) := ⟨rfl, Nat.zero_le _⟩
theorem Sh.bool {n : Nat} (b : Bool) : Sh n (.bool b) := ⟨rfl, Nat.zero_le _⟩
theorem Sh.none {n : Nat} : Sh n .none := ⟨rfl, Nat.zero_le _⟩
theorem Sh.tuple {n : Nat} {ds : List PyData} (h : ∀ d ∈ ds, Sh n d) : Sh (n + 1) (.tuple ds) := ⟨canAll fun d hd => (h d hd).1, Nat.succ_le_succ (depAll fun d hd => (h d hd).2)⟩
theorem Sh.list {n : Nat} {ds : List PyData} (h : ∀ d ∈ ds, Sh n d) : Sh (n + 1) (.list ds) := ⟨canAll fun d hd => (h d hd).1, Nat.succ_le_succ (depAll fun d hd => (h d hd).2)⟩
theorem Sh.mono {n m : Nat} {d : PyData} (h : Sh n d) (le : n ≤ m) : Sh m d := ⟨h.1, Nat.le_trans h.2 le⟩
theorem Sh.shaped {n : Nat} {d : PyData} (h : Sh n d) (le : n ≤ 64) : SeqAt.shaped d = true := by
  unfold SeqAt.shaped
  rw [h.1, decide_eq_true (Nat.le_trans h.2 le)]
  rfl
theorem Sh.refl {n : Nat} {d : PyData} (h : Sh n d) : PyData.eqv d d = true := SeqAt.eqv_refl d h.1
theorem Sh.ints {n : Nat} (ns : List Int) : ∀ d ∈ ns.map PyData.int, Sh n d := fun d hd => by
  obtain ⟨i, _, rfl⟩ := List.mem_map.mp hd
  exact .int i
def mvD (m : Mv) : PyData := .tuple [.int m.1, .tuple (m.2.map PyData.int)]
theorem Sh.mv (m : Mv) : Sh 2 (mvD m) := Sh.tuple fun d hd => by
  rcases List.mem_cons.mp hd with rfl | hd
  · exact .int _
  rcases List.mem_cons.mp hd with rfl | hd
  · exact Sh.tuple (Sh.ints _)
  · cases hd
theorem Sh.mvs (ms : List Mv) : Sh 3 (.list (ms.map mvD)) := Sh.list fun d hd => by
  obtain ⟨m, _, rfl⟩ := List.mem_map.mp hd
  exact .mv m
theorem dp_ints (K : PySem.W.Frag) (H : Hp) : ∀ ns : List Int, DpAll K H (ns.map V.int) (ns.map PyData.int)
  | [] => .nil
  | n :: ns => .cons (.int n) (dp_ints K H ns)
theorem dp_lst {K : PySem.W.Frag} {H : Hp} {a : Addr} {ns : List Int} (h : H a = some (.lst (ns.map V.int))) : Dp K H (.ref a) (.list (ns.map PyData.int)) := .lst (SqL.of h) (dp_ints K H ns)
theorem dp_tup {K : PySem.W.Frag} {H : Hp} {a : Addr} {ns : List Int} (h : H a = some (.tup (ns.map V.int))) : Dp K H (.ref a) (.tuple (ns.map PyData.int)) := .tup (SqT.of h) (dp_ints K H ns)
theorem dp_mv {K : PySem.W.Frag} {H : Hp} {v : V} {m : Mv} (h : MoveAt H v m) : Dp K H v (mvD m) := by
  obtain ⟨a, q, rfl, ha, hq⟩ := h
  exact .tup (SqT.of ha) (.cons (.int _) (.cons (dp_tup hq) .nil))
theorem dp_mvAll {K : PySem.W.Frag} {H : Hp} : ∀ {ws : List V} {ms : List Mv}, MovesAt H ws ms → DpAll K H ws (ms.map mvD)
  | _, _, .nil => .nil
  | _, _, .cons h t => .cons (dp_mv h) (dp_mvAll t)
theorem dp_mvs {K : PySem.W.Frag} {H : Hp} {a : Addr} {ws : List V} {ms : List Mv} (h : H a = some (.lst ws)) (hM : MovesAt H ws ms) : Dp K H (.ref a) (.list (ms.map mvD)) := .lst (SqL.of h) (dp_mvAll hM)
theorem hu64 {A : Around} {k : Nat} (hr : Room k A) : A.units + 64 < cLine := by
  have := hr.un
  omega
/-- d != d is False, d == d is True -/
theorem ne_same {K : PySem.W.Frag} {x y : V} {d : PyData} {n : Nat} {H : Hp} {Q : VK} (hx : Dp K H x d) (hy : Dp K H y d) (h : Sh n d) (le : n ≤ 64) (q : Q (.bl false) H) : rNeD K x y H Q := by
  refine ⟨d, d, hx, hy, h.shaped le, h.shaped le, ?_⟩
  rw [h.refl]
  exact q
theorem eq_same {K : PySem.W.Frag} {x y : V} {d : PyData} {n : Nat} {H : Hp} {Q : VK} (hx : Dp K H x d) (hy : Dp K H y d) (h : Sh n d) (le : n ≤ 64) (q : Q (.bl true) H) : rEqD K x y H Q := by
  refine ⟨d, d, hx, hy, h.shaped le, h.shaped le, ?_⟩
  rw [h.refl]
  exact q
/-! ### sorted(set(a list of ints)): a rule of our own -/
section
variable {prog : Program} {w : World} {A : Around} {E : Value → Shared → Prop} {s : Shared}
/-- a set as it is when it has just been made -/
def bareSet (w : World) : Obj :=
  { cls := .type "set", dict := none, data := .set #[] 0 (.fresh 0 0 (!w.params.followText "set-order")) }
set_option maxHeartbeats 3200000 in
open PySem PyProof.Rows in
/-- the set at S takes what a list gives -/
theorem set_takes {l : Addr} {its : Array Value} {ns : List Int} {R : Result → Shared → Prop} (S : Addr) (hh : A.handled = none) (hS : s.heap.get? S = some (bareSet w)) (hl : s.heap.IsList l its) (neq : l ≠ S) (hi : IntsAre its.toList ns) (small : ns.length + 1 < scanBound)
    (hR : ∀ (g : Heap) (tk c : Nat), SetR w g S (fun j => decide (j ∈ ns)) c → c ≤ ns.length → (∀ b o, b ≠ S → s.heap.get? b = some o → g.get? b = some o) → R (.ok (.ret .none)) { s with heap := g, toks := tk }) :
    wpAny (model prog w) A.in1 (Builtin.«set.__init__» ⟨[.ref S, .ref l], []⟩)
      (fun fin s' => match fin with | .done f => R (.ok f) s' | .again c' => c'.quiet = true ∧ codeAny (model prog w) A c' R s') (fun e s' => R (.error e) s') s := by
  have sz : its.size = ns.length := by
    rw [← Array.length_toList]
    exact IntsAre.length hi
  have ltl : l < s.heap.objs.size := let ⟨_, g, _⟩ := hl; Heap.lt_size g
  have ltS : S < s.heap.objs.size := Heap.lt_size hS
  have hl' := hl
  obtain ⟨⟨k1, k2, k3, k4⟩, g, k5, k6, k7⟩ := hl'
  simp only at k5 k7
  subst k5
  subst k7
  have tS := F.sub_list_set
  have tF := F.sub_list_frozenset
  have tD : (Value.type "list" == Value.type "dict") = false := by decide
  have hi3 : A.in1.in1.handled = none := by
    simp [hh]
  unfold Builtin.«set.__init__» noKeywords
  unfold Builtin.Frozenset.updateFrom
  generalize hq : pyIter = q
  wp_walk
  subst hq
  refine wpAny_pyIter_list hl ?_
  refine wpAny_bind (wpAny_runValue ?_)
  generalize hI : s.heap.objs.size = I at *
  have offS : S ∉ [I, l] := by
    intro h
    rcases List.mem_cons.mp h with e | e
    · exact absurd e (Nat.ne_of_lt ltS)
    · exact neq (List.mem_singleton.mp e).symm
  have offL : l ≠ I := Nat.ne_of_lt ltl
  have vals : ∀ (i : Nat) (v : Value), its[i]? = some v → ∃ k t, ns[i]? = some k ∧ v = .int k t := by
    intro i v hv
    have lt : i < ns.length := by
      rw [← sz]
      exact (Array.getElem?_eq_some_iff.mp hv).1
    obtain ⟨t, e⟩ := IntsAre.int_at hi i v (by rw [Array.getElem?_toList]; exact hv)
    refine ⟨ns[i], t, List.getElem?_eq_getElem lt, ?_⟩
    rw [e, List.getD_eq_getElem?_getD, List.getElem?_eq_getElem lt]
    rfl
  have W := (Walks.list (prog := prog) (w := w) (A := A.in1.in1) hi3 I l offL its).toS
  have fresh1 : ∀ b o, s.heap.get? b = some o → (s.heap.push { cls := .type "list_iterator", data := .fields #[.ref l, .int 0 0] }).get? b = some o := fun b o e => Heap.get?_push_of_some _ e
  have new1 : (s.heap.push { cls := .type "list_iterator", data := .fields #[.ref l, .int 0 0] }).get? I = some { cls := .type "list_iterator", data := .fields #[.ref l, .int 0 0] } := by
    rw [← hI]
    exact Heap.get?_push_size _ rfl
  refine set_update_ints W S offS ns sz small vals its.size 0 _ (Nat.sub_zero _) (Nat.zero_le _) ⟨⟨_, new1, rfl, rfl⟩, ⟨_, fresh1 _ _ g, rfl, _, rfl⟩⟩ ⟨0, Nat.le_refl _, setR_new_at (fresh1 _ _ hS)⟩ fun s' c mv hc hs => ?_
  refine wpAny_pure (wpAny_pure ?_)
  rw [Moved.eq_with mv]
  refine hR s'.heap s'.toks c hs (by rw [← sz]; exact hc) fun b o nb e => mv.heap b o (fun z => ?_) (fresh1 b o e)
  rcases List.mem_cons.mp z with z | z
  · exact nb z
  · have : b < I := by
      rw [← hI]
      exact Heap.lt_size e
    exact absurd (List.mem_singleton.mp z) (Nat.ne_of_lt this)
/-- callType_codes, where the check of __init__'s arguments is proved by itself -/
theorem callType_checked {T nid iid : String} {Bi : Builtin} {args : List Value} {Q Q₁ : Value → Shared → Prop} (ft : TypeCalled T nid iid) (ct : checkTypeCall T ⟨args, []⟩ = pure ()) (en : PySem.entryFor PySem.table iid = some Bi)
    (mk : codeAny (model prog w) A.in1 (.call (.builtin nid) ⟨.type T :: args, []⟩) (wants Q₁ E) s)
    (nx : ∀ obj t, Q₁ obj t → t.TypeIs obj T ∧ (∀ (M : Model) (B : Around) (F : Value → Shared → Prop) (Z : Unit → Shared → Prop), Z () t → wpAny M B (checkBuiltinCall iid ⟨obj :: args, []⟩) Z F t) ∧
      wpAny (model prog w) A.in1.in1 (Bi ⟨obj :: args, []⟩)
        (fun fin u => match fin with | .done f => wants (fun r v => r = .none ∧ Q obj v) E (.ok f) u | .again c => c.quiet = true ∧ codeAny (model prog w) A.in1 c (wants (fun r v => r = .none ∧ Q obj v) E) u)
        (fun e u => wants (fun r v => r = .none ∧ Q obj v) E (.error e) u) t) :
    wpAny (model prog w) A (call (.type T) args) Q E s := by
  have ⟨c0, t0, mr⟩ := ft.mro
  have md := ft.made
  have sb := ft.sub
  refine wpAny_call (codeAny_of_tree ?_)
  show wpAny _ _ (callAny (.type T) _) _ _ _
  refine wpAny_pure ⟨PySem.Code.quiet_builtin _ (by decide +kernel), codeAny_builtin F.entry_type_call ?_⟩
  rw [Around.under_plain (weight_type_call_type T args []) rfl]
  have n1 := ft.notType
  have n2 := ft.canCreate
  repeat (any_goals (first | assumption | wp_step))
  refine codeAny_mono mk fun r t ht => ?_
  match r, ht with
  | .error e, ht => exact ht
  | .ok (.ret obj), ht =>
    obtain ⟨hT, ck, run⟩ := nx _ _ ht
    have li := ft.init.lookup
    have bi := ft.init.bind obj
    repeat (any_goals (first | assumption | wp_step))
    refine codeAny_mono (codeAny_call_builtin ft.init.plain en (ck _ _ _ _ run)) fun r2 t2 h2 => ?_
    match r2, h2 with
    | .error e, h2 => exact h2
    | .ok (.ret r), h2 =>
      obtain ⟨rfl, hq⟩ := h2
      repeat (any_goals (first | assumption | wp_step))
open PyProof.Rows in
theorem call_setL {l : Addr} {its : Array Value} (ns : List Int) {Q : Value → Shared → Prop} (hh : A.handled = none) (hl : s.heap.IsList l its) (hi : IntsAre its.toList ns) (small : ns.length + 1 < scanBound)
    (h : ∀ (g : Heap) (tk c : Nat), SetR w g s.heap.objs.size (fun j => decide (j ∈ ns)) c → c ≤ ns.length → (∀ b o, s.heap.get? b = some o → g.get? b = some o) → Q (.ref s.heap.objs.size) { s with heap := g, toks := tk }) :
    wpAny (model prog w) A (call (.type "set") [.ref l]) Q E s := by
  have ltl : l < s.heap.objs.size := let ⟨_, g, _⟩ := hl; Heap.lt_size g
  refine callType_checked (Q₁ := fun obj t => obj = .ref s.heap.objs.size ∧ t = { s with heap := s.heap.push (bareSet w) }) F.called_set (F.typeCall_set_1 _) F.entry_set_init (code_set_led1 _ ⟨rfl, rfl⟩) fun obj t ht => ?_
  obtain ⟨rfl, rfl⟩ := ht
  have hS : (s.heap.push (bareSet w)).get? s.heap.objs.size = some (bareSet w) := Heap.get?_push_size _ rfl
  refine ⟨⟨_, hS, rfl⟩, fun M B F Z hz => check_set_init_1 ⟨_, hS, rfl⟩ hz, ?_⟩
  refine set_takes (A := A.in1) (s := { s with heap := s.heap.push (bareSet w) }) s.heap.objs.size (by simp [hh]) hS (hl.push _) (Nat.ne_of_lt ltl) hi small fun g tk c hs hc kp => ⟨rfl, h g tk c hs hc fun b o e => kp b o (Nat.ne_of_lt (Heap.lt_size e)) (Heap.get?_push_of_some _ e)⟩
/-- sorted(set(e)), e a list of ints: a new list that rises -/
def tSSet (K : PySem.W.Frag) (ta : TE) : TE := fun σ H Q => ta σ H fun x H1 => ∃ (l : Addr) (ns : List Int), x = V.ref l ∧ SqL K H1 l (ns.map V.int) ∧ ns.length < 64 ∧
  ∀ (p : Addr) (xs : List Int) (c : Nat), xs.Pairwise (· < ·) → (∀ k : Int, k ∈ xs ↔ k ∈ ns) → xs.length = c → c ≤ ns.length → H1 p = none → Q (.ref p) (upd H1 p (.lst (xs.map V.int)))
open RZ in
theorem pe_sset {X : Cx} {a : Expr} {ta : TE} {p p2 q pos : Pos} (hg : Gl X "sorted") (hm : X.mg "sorted" = none) (hg2 : Gl X "set") (hm2 : X.mg "set" = none) (ha : PE X a ta) (hc : X.calm = true := by rfl)
    (na : starEach [a] X.env = (false, eval a X.env) :: starEach [] X.env := by rfl) (nb : starEach [.Call (.Name "set" p2) [a] [] q] X.env = (false, eval (.Call (.Name "set" p2) [a] [] q) X.env) :: starEach [] X.env := by rfl) :
    PE X (.Call (.Name "sorted" p) [.Call (.Name "set" p2) [a] [] q] [] pos) (tSSet X.K ta) := by
  refine ⟨fun pins s σ H Q I h => Call_ (ld_blt I hg hm PyProof.Rows.boot_sorted (PyProof.Rows.callWith_builtin1 (PyProof.Rows.args_cons (Call_ (ld_blt I hg2 hm2 PyProof.Rows.boot_set
    (PyProof.Rows.callWith_type1 (PyProof.Rows.args_cons (thn (ha.run pins s σ H _ I h) fun v s1 hq => PyProof.Rows.args_nil ?_) na) na rfl))) nb) nb rfl))⟩
  obtain ⟨x, H1, I1, r1, l, ns, ex, hq, hl, q1⟩ := hq
  subst ex
  have e0 : v = Value.ref l := r1
  subst e0
  obtain ⟨its, r, pl, hz⟩ := I1.list hq
  have hit : PyProof.Rows.IntsAre its.toArray.toList ns := by simpa using intsAre_vals r
  refine call_setL ns (I1.ok.hd hc) pl.isList hit (by unfold scanBound; omega) fun g tk c hs hcn kp => PyProof.Rows.args_nil ?_
  have I2 : Inv X pins σ H1 { s1 with heap := g, toks := tk } := I1.kept kp
  refine sorted_set hs (I2.ok.hd hc) (by omega) fun s2 p out c2 xs k gs os hp hg' hix hsx hm' hl' => ?_
  have hn : H1 p = none := I2.hok.fresh hp
  have len : (xs.map V.int).length ≤ sizeLine := by
    rw [List.length_map, hl']
    exact Nat.le_of_lt (small1k (by omega))
  have J : Inv X pins σ (upd H1 p (.lst (xs.map V.int))) { s1 with heap := s2.heap, gens := s2.gens, drawn := s2.drawn, toks := s2.toks } :=
    Inv.call (s := { s1 with heap := g, toks := tk }) I2 (ch := []) (Un.laid k hp hn) (I2.hok.laid k hp ⟨len, out.toList, c2, vals_of_ints hix, hg'⟩) (by rw [gs]; exact I2.bare) (fun _ z => nomatch z)
  have e : s2 = { s1 with heap := s2.heap, gens := s2.gens, drawn := s2.drawn, toks := s2.toks } := by
    have o2 : s2.os = s1.os := os
    rw [← o2]
  rw [e]
  exact ⟨.ref p, _, J, rfl, q1 p xs c hsx (fun z => (hm' z).trans (by simp)) hl' hcn hn⟩
end
/-! ### len(set(a list of ints)): a rule of our own, whatever stands twice in it -/
def dist (ns : List Int) : List Int := PyProof.Rows.firstMet (fun i => ns.getD i 0) ns.length
def one (ns : List Int) : Bool := decide (V.int (((dist ns).length : Nat) : Int) = V.int 1)
open RZ in
def tLenSetN (K : PySem.W.Frag) (ta : TE) : TE := fun σ H Q => ta σ H fun x H1 => ∃ (l : Addr) (ns : List Int), x = V.ref l ∧ SqL K H1 l (ns.map V.int) ∧ ns.length < 64 ∧ Q (.int (((dist ns).length : Nat) : Int)) H1
open RZ in
theorem pe_lenSetN {X : Cx} {a : Expr} {ta : TE} {p p2 q pos : Pos} (hg : Gl X "len") (hm : X.mg "len" = none) (hg2 : Gl X "set") (hm2 : X.mg "set" = none) (ha : PE X a ta) (hc : X.calm = true := by rfl)
    (na : starEach [a] X.env = (false, eval a X.env) :: starEach [] X.env := by rfl) : PE X (.Call (.Name "len" p) [.Call (.Name "set" p2) [a] [] q] [] pos) (tLenSetN X.K ta) := by
  refine ⟨fun pins s σ H Q I h => Call_ (ld_blt I hg hm PySem.boot_len (PyProof.Rows.callWith_builtin1 (PyProof.Rows.args_cons (Call_ (ld_blt I hg2 hm2 PyProof.Rows.boot_set
    (PyProof.Rows.callWith_type1 (PyProof.Rows.args_cons (thn (ha.run pins s σ H _ I h) fun v s1 hq => PyProof.Rows.args_nil ?_) na) na rfl))) rfl) rfl rfl))⟩
  obtain ⟨x, H1, I1, r1, l, ns, ex, hq, hl, q1⟩ := hq
  subst ex
  have e0 : v = Value.ref l := r1
  subst e0
  obtain ⟨its, r, pl, hz⟩ := I1.list hq
  have sz : its.toArray.size = ns.length := by
    have e := r.length
    rw [List.length_map] at e
    rw [List.size_toArray, e]
  refine call_set_list (I1.ok.hd hc) pl.isList (by simpa using intsAre_vals r) (by rw [sz]; unfold scanBound; omega) fun h' tk hS hk => PyProof.Rows.args_nil ?_
  rw [sz] at hS
  have hle := PyProof.Rows.firstMet_length_le (fun i => ns.getD i 0) ns.length
  obtain ⟨o, es, ep, t, ho, hex, hd, _, _, _, hf, hn⟩ := hS
  have J : Inv X pins σ H1 { s1 with heap := h', toks := tk } := I1.kept fun b o e => hk b o (Heap.lt_size e) e
  refine call_len_set ho hex hd hf (by rw [hn] <;> omega) ⟨.int (((dist ns).length : Nat) : Int), H1, J.tok _, ⟨_, by rw [hn]; rfl⟩, q1⟩
/-! ### list(reversed(a list)): a rule of our own -/
section
variable {prog : Program} {w : World} {A : Around} {E : Value → Shared → Prop} {s : Shared}
open RT in
/-- the list at S, just made, takes what the iterator gives -/
theorem fill_rev {R : Result → Shared → Prop} {S it l : Addr} {c₀ : Nat} {items : Array Value} (hh : A.handled = none) (hit : s.heap.IsRevIter it l ((items.size : Int) - 1)) (hl : s.heap.IsList l items) (hne : l ≠ it) (hSi : S ≠ it) (hSl : S ≠ l) (hn : items.size ≤ sizeLine)
    (hS : s.heap.get? S = some { cls := .type "list", data := .seq #[] c₀ })
    (hR : ∀ (h' : Heap) (tk : Nat) (acc : Array Value) (c' : Nat), (∀ b o, b ≠ it → b ≠ S → s.heap.get? b = some o → h'.get? b = some o) → h'.get? S = some { cls := .type "list", data := .seq acc c' } →
      ItemsOf (fun i v => items[items.size - 1 - i]? = some v) acc items.size → R (.ok (.ret .none)) { s with heap := h', toks := tk }) :
    wpAny (model prog w) A.in1 (Builtin.List.listExtendWith (.ref S) (.ref it) .none)
      (fun fin s' => match fin with | .done f => R (.ok f) s' | .again c' => c'.quiet = true ∧ codeAny (model prog w) A c' R s') (fun e s' => R (.error e) s') s := by
  have W := (Walks.listRev (prog := prog) (w := w) (A := A.in1) hh it l hne items).toS
  have off : S ∉ [it, l] := fun h => by
    rcases List.mem_cons.mp h with e | e
    · exact hSi e
    · exact hSl (by simpa using e)
  have ty : s.TypeIs (.ref it) "list_reverseiterator" := Heap.IsRevIter.typeIs hit
  have apart : Builtin.List.listSameRef (.ref S) (.ref it) = false := by simp [Builtin.List.listSameRef, hSi]
  have e0 : ((items.size : Nat) : Int) - 1 - ((0 : Nat) : Int) = (items.size : Int) - 1 := by omega
  unfold Builtin.List.listExtendWith
  refine wpAny_bind (wpAny_typeOf ty ?_)
  rw [if_neg (by rw [apart]; decide)]
  refine wpAny_bind (wpAny_pyIter_revIter hit (wpAny_bind (wpAny_holding ?_)))
  unfold Builtin.List.listLengthHint
  refine wpAny_bind (wpAny_specialOf ty nolen_lri ?_)
  show wpAny _ A.in1 (specialOf (Value.ref it) (Str.ofString "__length_hint__") >>= _) _ _ _
  refine wpAny_bind (wpAny_specialOf ty hint_lri ?_)
  generalize hq : ("list_reverseiterator.__length_hint__" : String) = q0
  wp_delta
  rw [show splitId q0 = some ("list_reverseiterator", "__length_hint__") from by subst hq; decide +kernel]
  subst hq
  refine wpAny_bind (wpAny_isInstance (b := true) ty (by rw [isSubtype_type]; kernel_rfl) (wpAny_pure ?_))
  rw [if_neg (by decide)]
  refine wpAny_pure ⟨plainId_quiet F.plain_extend_loop _, codeAny_extend_loopS W hn _ off _ items.size 0 _ _ _ rfl (Nat.zero_le _) ⟨Nat.zero_le _, by rw [e0]; exact hit, hl⟩ hS (ItemsOf.nil _) fun s' acc' c' hm hS' hacc => ?_⟩
  rw [Moved.eq_with hm]
  refine hR s'.heap s'.toks acc' c' (fun b o nb nS e => hm.heap b o (fun hmem => ?_) e) hS' hacc
  rcases List.mem_cons.mp hmem with z | z
  · exact nS z
  · exact nb (List.mem_singleton.mp z)
theorem call_listRev {it l : Addr} {items : Array Value} {Q : Value → Shared → Prop} (hh : A.handled = none) (hit : s.heap.IsRevIter it l ((items.size : Int) - 1)) (hl : s.heap.IsList l items) (hne : l ≠ it) (hn : items.size ≤ sizeLine)
    (hQ : ∀ (h' : Heap) (tk : Nat) (acc : Array Value) (c' : Nat), (∀ b o, b ≠ it → s.heap.get? b = some o → h'.get? b = some o) → h'.get? s.heap.objs.size = some { cls := .type "list", data := .seq acc c' } →
      ItemsOf (fun i v => items[items.size - 1 - i]? = some v) acc items.size → Q (.ref s.heap.objs.size) { s with heap := h', toks := tk }) : wpAny (model prog w) A (call (.type "list") [.ref it]) Q E s := by
  have lti : it < s.heap.objs.size := let ⟨_, g, _⟩ := hit; Heap.lt_size g
  have ltl : l < s.heap.objs.size := let ⟨_, g, _⟩ := hl; Heap.lt_size g
  have hit1 : (s.heap.push { cls := .type "list", data := .seq #[] }).IsRevIter it l ((items.size : Int) - 1) := hit.at fun o e => Heap.get?_push_of_some _ e
  have hl1 : (s.heap.push { cls := .type "list", data := .seq #[] }).IsList l items := hl.push _
  refine callType_codes (Q₁ := fun obj s₁ => obj = .ref s.heap.objs.size ∧ s₁ = { s with heap := s.heap.push { cls := .type "list", data := .seq #[] } }) F.called_list (F.typeCall_list_1 _) F.entry_list_init (code_list_new _ ⟨rfl, rfl⟩) fun obj s₁ h₁ => ?_
  obtain ⟨rfl, rfl⟩ := h₁
  have hS : (s.heap.push { cls := .type "list", data := .seq #[] }).get? s.heap.objs.size = some { cls := .type "list", data := .seq #[] } := Heap.get?_push_size _ rfl
  refine ⟨⟨_, hS, rfl⟩, F.args_list_init_2 _ _, ?_⟩
  show wpAny _ _ (do let old ← Builtin.List.listItems (.ref s.heap.objs.size); Builtin.List.listUpdate (.ref s.heap.objs.size) (fun _ => #[]); letGo old.toList.reverse; Builtin.List.listExtendWith (.ref s.heap.objs.size) (.ref it) .none) _ _ _
  refine wpAny_bind ?_
  unfold Builtin.List.listItems
  refine wpAny_bind (wpAny_seqItems hS rfl (wpAny_pure ?_))
  show wpAny _ _ (updateSeq s.heap.objs.size (fun _ => #[]) >>= fun _ => letGo (#[] : Array Value).toList.reverse >>= fun _ => Builtin.List.listExtendWith (.ref s.heap.objs.size) (.ref it) .none) _ _ _
  refine wpAny_bind (wpAny_updateSeq hS rfl (wpAny_bind (wpAny_letGo ?_)))
  have hS2 := Heap.get?_update_self (Obj.mapSeq (fun _ => (#[] : Array Value))) hS rfl
  have oth : ∀ b o, b ≠ s.heap.objs.size → (s.heap.push { cls := .type "list", data := .seq #[] }).get? b = some o → ((s.heap.push { cls := .type "list", data := .seq #[] }).update s.heap.objs.size (Obj.mapSeq (fun _ => (#[] : Array Value)))).get? b = some o :=
    fun b o hb e => (Heap.get?_update_other _ _ (Ne.symm hb)).trans e
  refine fill_rev hh (hit1.at fun o e => oth _ _ (Nat.ne_of_lt lti) e) ?_ hne (Nat.ne_of_gt lti) (Nat.ne_of_gt ltl) hn hS2 fun h' tk acc c' hk hS' hacc => ⟨rfl, hQ h' tk acc c' (fun b o nb e => hk b o nb (Nat.ne_of_lt (Heap.lt_size e)) (oth b o (Nat.ne_of_lt (Heap.lt_size e)) (Heap.get?_push_of_some _ e))) hS' hacc⟩
  obtain ⟨o, g, r⟩ := hl1
  exact ⟨o, oth _ _ (Nat.ne_of_lt ltl) g, r⟩
end
open RT in
/-- list(reversed(e)), e a list: a new list -/
def tLstRev (K : PySem.W.Frag) (te : TE) : TE := fun σ H Q => te σ H fun v H1 => ∃ (a : Addr) (xs : List V), v = .ref a ∧ SqL K H1 a xs ∧ ∀ q, H1 q = none → Q (.ref q) (upd H1 q (.lst xs.reverse))
open RT in
theorem pe_lstRev {X : Cx} {e : Expr} {te : TE} {p p2 pos pos2 : Pos} (hc : X.calm = true) (hg : Gl X "list") (hm : X.mg "list" = none) (hg2 : Gl X "reversed") (hm2 : X.mg "reversed" = none) (he : PE X e te)
    (hs : starEach [e] X.env = (false, eval e X.env) :: starEach [] X.env := by rfl) (hs2 : starEach [.Call (.Name "reversed" p2) [e] [] pos2] X.env = (false, eval (.Call (.Name "reversed" p2) [e] [] pos2) X.env) :: starEach [] X.env := by rfl) :
    PE X (.Call (.Name "list" p) [.Call (.Name "reversed" p2) [e] [] pos2] [] pos) (tLstRev X.K te) := by
  refine ⟨fun pins s σ H Q I h => Call_ (ld_blt I hg hm boot_list (PyProof.Rows.callWith_type1 (args_cons (Call_ (ld_blt I hg2 hm2 PyProof.Rows.boot_reversed (PyProof.Rows.callWith_type1 (args_cons (thn (he.run pins s σ H _ I h) fun u s1 hq => args_nil ?_) hs) hs rfl))) hs2) hs2 rfl))⟩
  obtain ⟨v, H1, I1, r1, a, xs, ev, hq, q⟩ := hq
  subst ev
  have e0 : u = Value.ref a := r1
  subst e0
  obtain ⟨its, rv, p', hz⟩ := I1.list hq
  have hl := p'.isList
  obtain ⟨ol, hol, _⟩ := id hl
  have hne : a ≠ s1.heap.objs.size := Nat.ne_of_lt (Heap.lt_size hol)
  have hn : its.toArray.size ≤ sizeLine := by rw [List.size_toArray, ← rv.length]; exact hz
  have kp : ∀ b o, s1.heap.get? b = some o → (s1.heap.push (revObj a ((its.toArray.size : Int) - 1))).get? b = some o := fun b o e => Heap.get?_push_of_some _ e
  refine call_reversed_list hl (args_nil ?_)
  obtain ⟨f0, f1, f2, f3, f4, f5⟩ := I1.fpOk (H' := H1) (b := s1.heap.objs.size) (Nat.le_refl _) (I1.hok.fresh (Nat.le_refl _))
  have I2 : Inv X pins σ H1 { s1 with heap := s1.heap.push (revObj a ((its.toArray.size : Int) - 1)) } := I1.kept (t' := s1.toks) kp
  have sz : (s1.heap.push (revObj a ((its.toArray.size : Int) - 1))).objs.size = s1.heap.objs.size + 1 := Heap.size_push ..
  refine call_listRev (s := { s1 with heap := s1.heap.push (revObj a ((its.toArray.size : Int) - 1)) }) (I1.ok.hd hc) ⟨_, Heap.get?_push_size _ rfl, rfl, rfl⟩ (hl.push _) hne hn fun h' tk acc c' hk hS hi => ?_
  have nw : H1 (s1.heap.push (revObj a ((its.toArray.size : Int) - 1))).objs.size = none := I2.hok.fresh (Nat.le_refl _)
  have hS' : h'.get? (s1.heap.push (revObj a ((its.toArray.size : Int) - 1))).objs.size = some { cls := .type "list", data := .seq acc c' } := hS
  have le : s1.heap.objs.size ≤ (s1.heap.push (revObj a ((its.toArray.size : Int) - 1))).objs.size := by
    rw [sz]
    exact Nat.le_succ _
  have new : ObjOk X.prog X.w (upd H1 (s1.heap.push (revObj a ((its.toArray.size : Int) - 1))).objs.size (.lst xs.reverse)) h' (s1.heap.push (revObj a ((its.toArray.size : Int) - 1))).objs.size (.lst xs.reverse) :=
    ⟨by rw [List.length_reverse]; exact hz, acc.toList, c', vals_rev rv hi, by rw [Array.toArray_toList]; exact hS'⟩
  have J := I1.turnedNew (t' := tk) (ch := [s1.heap.objs.size]) (fun b o hb e => hk b o (fun z => hb (by simp [z])) (kp b o e)) (fun b hb => by
    have z : b = s1.heap.objs.size := by simpa using hb
    rw [z]
    exact ⟨f0, f1, f2, f3, f4, f5⟩) le new
  exact ⟨.ref _, _, J, rfl, q _ nw⟩
/-! ### set(a list of tuples of ints), however long: few of them differ -/
section
open PySem.Spec
/-- how many of them may differ -/
def FewT (ks : List (Addr × List Int)) : Prop := ∀ L : List (Addr × List Int), (∀ p ∈ L, p ∈ ks) → (L.map (·.2)).Nodup → L.length + 1 < 64
variable {P : Program} {w : World} {A : Around} {E : Value → Shared → Prop} {s : Shared}
theorem upd_tupsN {I : Addr} {fp wr : List Addr} {G : Array GenState → Array GenState → Prop} {n : Nat} {Pv : Nat → Value → Prop} {St : Nat → Shared → Prop} {R : Result → Shared → Prop}
    (W : WalksS P w A.in1 I fp wr G n Pv St) (S : Addr) (hSf : S ∉ fp) (ks : List (Addr × List Int)) (hn : n = ks.length) (few : FewT ks) (hval : ∀ i v, Pv i v → ∃ p, ks[i]? = some p ∧ v = .ref p.1)
    (h0 : Heap) (hk : ∀ p ∈ ks, IsT P w h0 p.2 p.1) (hS0 : h0.get? S = none) (hw0 : ∀ b ∈ wr, h0.get? b = none) (hu : A.in1.units < cLine) (left : Nat) :
    ∀ (i : Nat) (s : Shared), n = i + left → St i s → (∀ b o, h0.get? b = some o → s.heap.get? b = some o) → (∃ L es ep t, SetTR P w s.heap S L es ep t ∧ Got ks i L) →
      (∀ s' L es ep t, Moved (S :: wr) G s s' → SetTR P w s'.heap S L es ep t → Got ks n L → (∀ b o, h0.get? b = some o → s'.heap.get? b = some o) → R (.ok (.ret .none)) s') →
      codeAny (model P w) A (.builtin "set.update.loop" ⟨[.ref S, .ref I], []⟩) R s := by
  have sw : S ∉ wr := fun z => hSf (W.sub _ z)
  have up : ∀ b ∈ wr, b ∈ S :: wr := fun b z => List.mem_cons_of_mem _ z
  have keeps : ∀ {s s' : Shared}, Moved wr G s s' → (∀ b o, h0.get? b = some o → s.heap.get? b = some o) → ∀ b o, h0.get? b = some o → s'.heap.get? b = some o := fun hm hs b o e =>
    hm.heap b o (fun z => by rw [hw0 b z] at e; cases e) (hs b o e)
  induction left with
  | zero =>
    rintro i s rfl hst hs ⟨L, es, ep, t, hS, g⟩ hR
    refine codeAny_builtin PyProof.Rows.F.entry_set_update_loop ?_
    rw [Around.under_plainId PyProof.Rows.F.plain_set_update_loop _]
    show wpAny _ A.in1 (pyNext (.ref I) >>= _) _ _ s
    refine wpAny_bind (W.done s _ _ hst fun s' hm => ?_)
    show wpAny _ A.in1 (ret Value.none) _ _ s'
    have hs' := keeps hm hs
    exact wpAny_pure (hR s' L es ep t (hm.mono up) (hS.keep (fun o e => hm.heap S o sw e) fun p hp => isT_keep (hk p (List.mem_of_mem_take (g.sub p hp))) hs') g hs')
  | succ left ih =>
    rintro i s en hst hs ⟨L, es, ep, t, hS, g⟩ hR
    have hlt : i < n := by omega
    refine codeAny_builtin PyProof.Rows.F.entry_set_update_loop ?_
    rw [Around.under_plainId PyProof.Rows.F.plain_set_update_loop _]
    show wpAny _ A.in1 (pyNext (.ref I) >>= _) _ _ s
    refine wpAny_bind (W.item i s _ _ hlt hst fun v s' hP hst' hm => ?_)
    obtain ⟨p, hp, rfl⟩ := hval i v hP
    have hs' := keeps hm hs
    have inK : ∀ q ∈ L, q ∈ ks := fun q hq => List.mem_of_mem_take (g.sub q hq)
    have hS' : SetTR P w s'.heap S L es ep t := hS.keep (fun o e => hm.heap S o sw e) fun q hq => isT_keep (hk q (inK q hq)) hs'
    have hx : IsT P w s'.heap p.2 p.1 := isT_keep (hk p (List.mem_of_getElem? hp)) hs'
    show wpAny _ A.in1 (holding [Value.ref p.1] (setAdd S (.ref p.1)) >>= _) _ _ s'
    refine wpAny_bind (wpAny_holding ?_)
    unfold setAdd
    refine wpAny_holding ?_
    refine wpAny_bind (wpAny_pyHash_tuple hu hx ?_)
    refine add_at (s := { s' with toks := s'.toks + (p.2.length + 1) }) hS' hx hu (few L inK hS'.nd) fun b h' L' es' ep' t' same hS2 c1 c2 => ?_
    have g' : Got ks (i + 1) L' := (Classical.em (p.2 ∈ L.map (·.2))).elim (fun c => by rw [c1 c]; exact g.same hp c) fun c => g.more hp (c2 c)
    have hs2 : ∀ b o, h0.get? b = some o → h'.get? b = some o := fun b o e => (same.2 b (fun z => by rw [z, hS0] at e; cases e)).trans (hs' b o e)
    refine wpAny_pure ⟨plainId_quiet PyProof.Rows.F.plain_set_update_loop _, ih (i + 1) _ (by omega) (W.frame _ s' _ _ hst' (Nat.le_add_right _ _) fun b hb o e => ?_) hs2 ⟨L', es', ep', t', hS2, g'⟩ fun s'' L2 es2 ep2 t2 hm'' hS'' g'' hs'' => ?_⟩
    · rw [same.2 b (fun z : b = S => hSf (by rw [← z]; exact hb))]
      exact e
    · refine hR s'' L2 es2 ep2 t2 (Moved.trans W.gtrans ((hm.mono up).then_heap (Nat.le_add_right _ _) fun b o hb e => ?_) hm'') hS'' g'' hs''
      rw [same.2 b (fun z : b = S => hb (by rw [z]; exact List.mem_cons_self))]
      exact e
set_option maxHeartbeats 3200000 in
open PySem PyProof.Rows in
theorem setT_takes {l : Addr} {its : Array Value} {ks : List (Addr × List Int)} {R : Result → Shared → Prop} {h0 : Heap} (S : Addr) (hh : A.handled = none) (hS : s.heap.get? S = some (bareSet w)) (hl : s.heap.IsList l its) (neq : l ≠ S) (hit : its.toList = ks.map fun p => Value.ref p.1) (few : FewT ks)
    (hu : A.in1.in1.units < cLine) (hk : ∀ p ∈ ks, IsT P w h0 p.2 p.1) (hS0 : h0.get? S = none) (h0n : h0.get? s.heap.objs.size = none) (h0k : ∀ b o, h0.get? b = some o → s.heap.get? b = some o)
    (hR : ∀ (g : Heap) (tk : Nat) L es ep t, SetTR P w g S L es ep t → Got ks ks.length L → (∀ b o, h0.get? b = some o → g.get? b = some o) → R (.ok (.ret .none)) { s with heap := g, toks := tk }) :
    wpAny (model P w) A.in1 (Builtin.«set.__init__» ⟨[.ref S, .ref l], []⟩)
      (fun fin s' => match fin with | .done f => R (.ok f) s' | .again c' => c'.quiet = true ∧ codeAny (model P w) A c' R s') (fun e s' => R (.error e) s') s := by
  have sz : its.size = ks.length := by
    have q := congrArg List.length hit
    rw [Array.length_toList, List.length_map] at q
    exact q
  have ltl : l < s.heap.objs.size := let ⟨_, g, _⟩ := hl; Heap.lt_size g
  have ltS : S < s.heap.objs.size := Heap.lt_size hS
  have hl' := hl
  obtain ⟨⟨k1, k2, k3, k4⟩, g, k5, k6, k7⟩ := hl'
  simp only at k5 k7
  subst k5
  subst k7
  have tS := F.sub_list_set
  have tF := F.sub_list_frozenset
  have tD : (Value.type "list" == Value.type "dict") = false := by decide
  have hi3 : A.in1.in1.handled = none := by
    simp [hh]
  unfold Builtin.«set.__init__» noKeywords
  unfold Builtin.Frozenset.updateFrom
  generalize hq : pyIter = q
  wp_walk
  subst hq
  refine wpAny_pyIter_list hl ?_
  refine wpAny_bind (wpAny_runValue ?_)
  generalize hI : s.heap.objs.size = I at *
  have offS : S ∉ [I, l] := by
    intro h
    rcases List.mem_cons.mp h with e | e
    · exact absurd e (Nat.ne_of_lt ltS)
    · exact neq (List.mem_singleton.mp e).symm
  have offL : l ≠ I := Nat.ne_of_lt ltl
  have vals : ∀ (i : Nat) (v : Value), its[i]? = some v → ∃ p, ks[i]? = some p ∧ v = .ref p.1 := by
    intro i v hv
    have e : its.toList[i]? = some v := by rw [Array.getElem?_toList]; exact hv
    rw [hit, List.getElem?_map] at e
    obtain ⟨p, hp, e2⟩ := Option.map_eq_some_iff.mp e
    exact ⟨p, hp, e2.symm⟩
  have W := (Walks.list (prog := P) (w := w) (A := A.in1.in1) hi3 I l offL its).toS
  have fresh1 : ∀ b o, s.heap.get? b = some o → (s.heap.push { cls := .type "list_iterator", data := .fields #[.ref l, .int 0 0] }).get? b = some o := fun b o e => Heap.get?_push_of_some _ e
  have new1 : (s.heap.push { cls := .type "list_iterator", data := .fields #[.ref l, .int 0 0] }).get? I = some { cls := .type "list_iterator", data := .fields #[.ref l, .int 0 0] } := by
    rw [← hI]
    exact Heap.get?_push_size _ rfl
  refine upd_tupsN W S offS ks sz few vals h0 hk hS0 (fun b hb => by rw [List.mem_singleton.mp hb]; exact h0n) hu its.size 0 _ (Nat.zero_add _).symm ⟨⟨_, new1, rfl, rfl⟩, ⟨_, fresh1 _ _ g, rfl, _, rfl⟩⟩ (fun b o e => fresh1 b o (h0k b o e)) ⟨[], #[], 0, _, setTR_fresh (fresh1 _ _ hS), Got.zero ks⟩ fun s' L es ep t mv hs g' kp => ?_
  refine wpAny_pure (wpAny_pure ?_)
  rw [Moved.eq_with mv]
  exact hR s'.heap s'.toks L es ep t hs (by rw [← sz]; exact g') kp
open PyProof.Rows in
theorem call_setN {l : Addr} {its : Array Value} (ks : List (Addr × List Int)) {Q : Value → Shared → Prop} (hh : A.handled = none) (hl : s.heap.IsList l its) (hit : its.toList = ks.map fun p => Value.ref p.1) (hk : ∀ p ∈ ks, IsT P w s.heap p.2 p.1) (few : FewT ks) (hu : A.in1.in1.in1.units < cLine)
    (h : ∀ (g : Heap) (tk : Nat) L es ep t, SetTR P w g s.heap.objs.size L es ep t → Got ks ks.length L → (∀ b o, s.heap.get? b = some o → g.get? b = some o) → Q (.ref s.heap.objs.size) { s with heap := g, toks := tk }) :
    wpAny (model P w) A (call (.type "set") [.ref l]) Q E s := by
  have ltl : l < s.heap.objs.size := let ⟨_, g, _⟩ := hl; Heap.lt_size g
  have out : ∀ b, s.heap.objs.size ≤ b → s.heap.get? b = none := fun b hb => by
    cases q : s.heap.get? b with
    | none => rfl
    | some o => exact absurd (Nat.lt_of_lt_of_le (Heap.lt_size q) hb) (Nat.lt_irrefl _)
  refine callType_checked (Q₁ := fun obj t => obj = .ref s.heap.objs.size ∧ t = { s with heap := s.heap.push (bareSet w) }) F.called_set (F.typeCall_set_1 _) F.entry_set_init (code_set_led1 _ ⟨rfl, rfl⟩) fun obj t ht => ?_
  obtain ⟨rfl, rfl⟩ := ht
  have hS : (s.heap.push (bareSet w)).get? s.heap.objs.size = some (bareSet w) := Heap.get?_push_size _ rfl
  refine ⟨⟨_, hS, rfl⟩, fun M B F Z hz => check_set_init_1 ⟨_, hS, rfl⟩ hz, ?_⟩
  refine setT_takes (A := A.in1) (s := { s with heap := s.heap.push (bareSet w) }) (h0 := s.heap) s.heap.objs.size (by simp [hh]) hS (hl.push _) (Nat.ne_of_lt ltl) hit few hu hk (out _ (Nat.le_refl _)) (out _ (by show _ ≤ (s.heap.push _).objs.size; rw [Heap.size_push]; exact Nat.le_succ _)) (fun b o e => Heap.get?_push_of_some _ e) fun g tk L es ep t hs g' kp => ⟨rfl, h g tk L es ep t hs g' kp⟩
/-- set(xs), xs a list of tuples of ints, however long -/
def rSetN (K : PySem.W.Frag) (P : Program) (w : World) : List V → Hp → VK → Prop := fun xs H Q => ∃ (l : Addr) (ks : List (Addr × List Int)), xs = [V.ref l] ∧ SqL K H l (ks.map fun p => V.ref p.1) ∧ (∀ p ∈ ks, SqT K H p.1 (p.2.map V.int)) ∧ FewT ks ∧
  ∀ a L, H a = none → (∀ p ∈ L, p ∈ ks) → (∀ p ∈ ks, p.2 ∈ L.map (·.2)) → Q (.ref a) (upd H a (SetTO P w a L))
theorem cr_setN {X : Cx} (hc : X.calm = true) (hu : X.A.units + 64 < cLine) : CallR X (.type "set") (rSetN X.K X.prog X.w) := by
  intro pins s σ H xs us Q I r h
  obtain ⟨l, ks, rfl, hl, hk, hf, q⟩ := h
  rw [Vals.ref1 r]
  obtain ⟨its, rv, pl, hz⟩ := I.list hl
  have hn : H s.heap.objs.size = none := I.hok.fresh (Nat.le_refl _)
  refine call_setN (P := X.prog) (w := X.w) ks (I.ok.hd hc) pl.isList (by simpa using refs_of_vals rv) (fun p hp => I.isT (hk p hp)) hf (by have e : X.A.in1.in1.in1.units = X.A.units + 3 := rfl; omega) fun h' tk L es ep t R g k => ?_
  refine ⟨.ref s.heap.objs.size, upd H s.heap.objs.size (SetTO X.prog X.w s.heap.objs.size L), I.laid (t' := tk) k (Nat.le_refl _) (setTO_new R.t0), rfl, q _ L hn (fun p hp => ?_) fun p hp => ?_⟩
  · exact List.mem_of_mem_take (g.sub p hp)
  · exact g.all p (by rw [List.take_length]; exact hp)
end
theorem Same.seqt {K : PySem.W.Frag} {H H' : Hp} {a : Addr} {xs : List V} (s : Same H H') (h : SqT K H a xs) : SqT K H' a xs := by
  rcases h with (h | ⟨o, h⟩) | h
  · exact .inl (.inl (s _ _ h))
  · exact .inl (.inr ⟨o, s _ _ h⟩)
  · exact .inr h
/-! ### t + u, t[i:j] of tracked tuples, whatever they are -/
theorem catA_of {K : PySem.W.Frag} {H : Hp} {a b : Addr} {xs ys : List V} {Q : VK} (ha : H a = some (.tup xs)) (hb : H b = some (.tup ys)) (hz : xs.length + ys.length ≤ sizeLine) (h : ∀ p H', Same H H' → H' p = some (.tup (xs ++ ys)) → Q (.ref p) H') : rCatA K (.ref a) (.ref b) H Q := by
  refine ⟨a, b, xs, ys, rfl, rfl, SqT.of ha, SqT.of hb, hz, fun e => ?_, fun _ e => ?_, fun _ _ p np => h p _ (same_new np) upd_same⟩
  · subst e
    exact h b H (Same.refl _) hb
  · subst e
    exact h a H (Same.refl _) (by rw [List.append_nil]; exact ha)
theorem slA_of {K : PySem.W.Frag} {H : Hp} {a : Addr} {xs : List V} {lo hi : Option Int} {Q : VK} (ha : H a = some (.tup xs)) (h : ∀ p H', Same H H' → H' p = some (.tup (cutV xs lo hi)) → Q (.ref p) H') : rSlA K (.ref a) lo hi H Q := by
  refine ⟨a, xs, rfl, SqT.of ha, fun e => ?_, fun _ p np => h p _ (same_new np) upd_same⟩
  refine h a H (Same.refl _) ?_
  unfold cutV
  rw [e.1, e.2, List.drop_zero, Nat.sub_zero, List.take_length]
  exact ha
theorem slA_no {K : PySem.W.Frag} {σ : L2.St} {H : Hp} {a : Addr} {xs : List V} {lo : Option Int} {Q : VK} (ha : H a = some (.tup xs)) (h : ∀ p H', Same H H' → H' p = some (.tup (cutV xs lo none)) → Q (.ref p) H') : tNoPart σ H fun u H3 => rSlA K (.ref a) lo u H3 Q := slA_of ha h
theorem cut_from (xs : List V) (k : Nat) (hk : k ≤ xs.length) : cutV xs (some (k : Int)) none = xs.drop k := by
  unfold cutV
  rw [HT.sIx_nat, HT.sIx_none, Nat.min_eq_left hk]
  exact List.take_of_length_le (by rw [List.length_drop]; exact Nat.le_refl _)
theorem cut_to (xs : List V) (k : Nat) (hk : k ≤ xs.length) : cutV xs none (some (k : Int)) = xs.take k := by
  unfold cutV
  rw [HT.sIx_nat, HT.sIx_none, Nat.min_eq_left hk, Nat.sub_zero, List.drop_zero]
theorem le1k {n : Nat} (h : n ≤ 1000) : n ≤ sizeLine := Nat.le_trans h (by decide)
theorem lt1k {n : Nat} (h : n ≤ 1000) : n < sizeLine := Nat.lt_of_le_of_lt h (by decide)
/-! ### a set comprehension of ints: a rule of our own -/
/-- what one turn with item v asks: the target, the tests, the element, and then the set D with it -/
def oneTurn (w : World) (D : Addr) (gt : TG) (tst : TT) (elm : TE) (gone : List Nat) (σ : L2.St) (v : V) (Ha : Hp) (nxt : Hp → Prop) : Prop :=
  gt v (wipe σ gone) Ha fun σb Hb => wipe σb gone = wipe σ gone ∧ tst σb Hb fun yes Hc =>
    if yes = true then elm σb Hc fun z Hd => ∃ (k : Int) (M : Int → Bool) (c : Nat), z = .int k ∧ Hd D = some (SetO w D M c) ∧ c + 1 < scanBound ∧
      nxt (upd Hd D (SetO w D (fun j => M j || decide (j = k)) (if M k = true then c else c + 1)))
    else nxt Hc
def tScI (w : World) (src : TI) (gt : TG) (tst : TT) (elm : TE) (gone : List Nat) : TE := fun σ H Q =>
  src σ H fun J Ha => ∀ D, Ha D = none → ∃ Z : Nat → Nat → Hp → Prop, (∃ m, Z 0 m (upd Ha D (SetO w D (fun _ => false) 0))) ∧
    ∀ i m Hb, Z i m Hb → (J.stop i Hb ∧ Q (.ref D) Hb) ∨
      (J.go i Hb ∧ ∃ nxt : Hp → Prop, (∀ Hc, nxt Hc → ∃ m', m' < m ∧ Z (i + 1) m' Hc) ∧ ∀ v Hc, J.yld i Hb v Hc → oneTurn w D gt tst elm gone σ v Hc nxt)
section
variable {X : Cx}
theorem pe_scI {elt tg iter : Expr} {ifs : List Expr} {scope : Scope} {own : List (PySem.Str × Nat)} {pos : Pos} {src : TI} {gt : TG} {tst : TT} {elm : TE}
    (calm : X.calm = true) (nd : X.N.Nodup) (hsrc : PI X tg iter src) (blk : BlkOk X.N X.env.scope scope own)
    (hgt : ∀ (s0 : Shared) (H0 : Hp) (B : Addr) (cls : List (PySem.Str × Addr)) (held : List Addr), PG (X.blk s0 H0 scope (compEnvC scope cls B X.env) held) tg gt)
    (htst : ∀ (s0 : Shared) (H0 : Hp) (B : Addr) (cls : List (PySem.Str × Addr)) (held : List Addr), PTs (X.blk s0 H0 scope (compEnvC scope cls B X.env) held) ifs tst)
    (helm : ∀ (s0 : Shared) (H0 : Hp) (B : Addr) (cls : List (PySem.Str × Addr)) (held : List Addr), PE (X.blk s0 H0 scope (compEnvC scope cls B X.env) held) elt elm)
    (fold : ∀ z, foldedSetIterable iter X.env z = pure z := by intro _; rfl) :
    PE X (.SetComp elt [⟨tg, iter, ifs, 0⟩] scope pos) (tScI X.w src gt tst elm (own.map (·.2))) := by
  constructor
  intro pins s σ H Q Iv want
  rw [PpSet.eval_SetComp]
  have caps : ∀ y ∈ scope.names, y.2 = .free → ∃ c, X.env.cells.lookup y.1 = some c := by
    intro y my fy
    cases blk.free y my fy with
    | inl k => exact Iv.ok.has _ (.inl k)
    | inr k => exact Iv.ok.has _ (.inr k)
  refine wpAny_comprehension_free (use := none) rfl fold (closure_ok caps) blk.kind (fun y my ey => by rw [blk.uniq y my, ey]) ?_
  refine thn (hsrc.run pins s σ H _ Iv want) fun u0 sA gotIt => thn gotIt fun u1 sB two => ?_
  obtain ⟨itr, held, turns, J, HB, eu, IB, TW, atZero, clear, rest⟩ := two
  subst eu
  refine PpSet.newSet_ok (newEnv_comp ?_)
  -- D is where the set will stand
  obtain ⟨D, eD⟩ : ∃ D, D = sB.heap.objs.size := ⟨_, rfl⟩
  rw [← eD]
  have freeD : HB D = none := IB.hok.fresh (by rw [eD]; exact Nat.le_refl _)
  obtain ⟨Z, ⟨mz, z0⟩, go1⟩ := rest D freeD
  obtain ⟨bare, ebare⟩ : ∃ bare : Obj, bare = { cls := .type "set", dict := none, data := .set #[] 0 (.fresh 0 0 (!X.w.params.followText "set-order")) } := ⟨_, rfl⟩
  rw [← ebare]
  obtain ⟨sC, eC⟩ : ∃ sC : Shared, sC = { sB with heap := sB.heap.push bare } := ⟨_, rfl⟩
  have hC : sC.heap = sB.heap.push bare := by rw [eC]
  have setNew : SetR X.w sC.heap D (fun _ => false) 0 := by
    rw [hC, eD]
    refine SetR.congr (setR_new_at (ns := []) ?_) (fun _ => rfl)
    rw [ebare]
    exact Heap.get?_push_size _ rfl
  have IC : Inv X pins σ (upd HB D (SetO X.w D (fun _ => false) 0)) sC := by
    rw [eC]
    refine IB.laid (t' := sB.toks) (fun b o e => Heap.get?_push_of_some _ e) (by rw [eD]; exact Nat.le_refl _) ?_
    have e1 : ({ sB with heap := sB.heap.push bare } : Shared).heap = sC.heap := by rw [eC]
    show ObjOk _ _ _ (sB.heap.push bare) D _
    rw [← hC]
    exact setO_new setNew
  have below : ∀ b ∈ held, b < sB.heap.objs.size := by
    intro b hb
    obtain ⟨o, e, _⟩ := TW.obj _ _ atZero b hb
    exact Heap.lt_size e
  have clearC : ∀ b ∈ held, FpOk X pins (upd HB D (SetO X.w D (fun _ => false) 0)) b ∧ b < sC.heap.objs.size := by
    intro b hb
    have lt := below b hb
    refine ⟨⟨?_, (clear b hb).2⟩, ?_⟩
    · rw [upd_ne (by rw [eD]; exact Nat.ne_of_lt lt)]
      exact (clear b hb).1
    · rw [hC, Heap.size_push]
      exact Nat.lt_succ_of_lt lt
  have atC : turns 0 sC.heap := TW.keep _ _ _ atZero fun b _ o e => by
    rw [hC]
    exact Heap.get?_push_of_some _ e
  have IE := block_start IC blk nd clearC
  obtain ⟨HC, eHC⟩ : ∃ HC, HC = upd HB D (SetO X.w D (fun _ => false) 0) := ⟨_, rfl⟩
  rw [← eHC] at IC IE clearC z0
  obtain ⟨cells, ecells⟩ : ∃ cells, cells = cellsFrom (sC.heap.objs.size + 1) scope.names (cloFrom X.env.cells scope.names []) := ⟨_, rfl⟩
  obtain ⟨ce, ece⟩ : ∃ ce, ce = compEnvC scope cells sC.heap.objs.size X.env := ⟨_, rfl⟩
  have jg := hgt sC HC sC.heap.objs.size cells held
  have jt := htst sC HC sC.heap.objs.size cells held
  have je := helm sC HC sC.heap.objs.size cells held
  rw [← ece] at jg jt je
  obtain ⟨sE, eE⟩ : ∃ sE : Shared, sE = { sC with heap := pushCells (sC.heap.push { cls := .type "dict", data := .dict #[] }) scope.names } := ⟨_, rfl⟩
  rw [← ecells, ← ece, ← eE] at IE
  have lce : ce.locals = sC.heap.objs.size := by rw [ece]; rfl
  have none0 : ∀ b ∈ held, HC b = none := fun b hb => (clearC b hb).1.1
  have atE : turns 0 sE.heap := TW.keep _ _ _ atC fun b _ o e => by
    rw [eE]
    exact pushCells_keeps _ _ _ _ (Heap.get?_push_of_some _ e)
  rw [← eC, ← ecells]
  show codeAny _ _ (.compStart (.SetComp elt [⟨tg, iter, ifs, 0⟩] scope pos) 0 (.ref itr) (.ref D) (compEnvC scope cells sC.heap.objs.size X.env)) _ _
  rw [← ece]
  have still : ∀ {σ' : L2.St} {H' : Hp} {s' : Shared}, Inv (X.blk sC HC scope ce held) [] σ' H' s' → (∀ b ∈ held, H' b = none) → ∀ b ∈ held, FpOk (X.blk sC HC scope ce held) [] H' b := by
    intro σ' H' s' I' n0 b hb
    exact ⟨n0 b hb, (I'.ok.exf b hb).1, I'.ok.exfs b hb, .inl hb, fun x c e => (I'.ok.exf b hb).2 x c e, fun p hp => absurd (show p ∈ ([] : List (Addr × Obj)) ++ [] from hp) (by simp)⟩
  let Here : Nat → Shared → Prop := fun n s' => ∃ i H', Inv (X.blk sC HC scope ce held) [] (wipe σ (own.map (·.2))) H' s' ∧ turns i s'.heap ∧ (∀ b ∈ held, H' b = none) ∧ Z i n H'
  have loop : codeAny (model X.prog X.w) X.A (.compLoop (.SetComp elt [⟨tg, iter, ifs, 0⟩] scope pos) 0 (.ref itr) (.ref D) ce) (compPost (model X.prog X.w) X.A X.xe none (EP X pins σ Q) (.ref D) sC.heap.objs.size) sE := by
    refine PpSet.compLoopS_any Here ?_ mz ⟨0, HC, IE, atE, none0, z0⟩
    rintro n s5 ⟨i, H5, I5, at5, n5, z5⟩
    cases go1 i n H5 z5 with
    | inl stops =>
      obtain ⟨stop, fin⟩ := stops
      refine thnF (TW.done (X.blk sC HC scope ce held) rfl rfl rfl calm i [] s5 _ H5 (fun _ _ => False) I5 (still I5 n5) at5 stop) fun r s6 both => ?_
      obtain ⟨er, I6⟩ := both
      subst er
      have I7 : Inv X pins σ H5 s6 := IC.call' (ch := held) I6.os I6.base I6.hok I6.bare fun b hb => ⟨(clearC b hb).1.2.2.2.1, (clearC b hb).1.2.1, (clearC b hb).1.2.2.2.2.1, (clearC b hb).1.2.2.2.2.2⟩
      have frC : H5 sC.heap.objs.size = none := by
        have q : H5 ce.locals = none := I6.free
        rw [lce] at q
        exact q
      obtain ⟨m, mns, _⟩ := I6.loc
      have mns' : s6.heap.Ns ce.locals m := mns
      rw [lce] at mns'
      refine ⟨m, mns', fun h2 same => ?_⟩
      obtain ⟨k0, k1, k2, k3, k4, k5⟩ := IC.fpOk (Nat.le_refl _) frC
      exact ⟨.ref D, H5, I7.turned (t' := s6.toks) (fun b o hb e => (same.2 b hb).trans e) k0 k1 k3 k4 k5, rfl, fin⟩
    | inr goes =>
      obtain ⟨go, nxt, down, step⟩ := goes
      refine thnF (TW.item (X.blk sC HC scope ce held) rfl rfl rfl calm i [] s5 _ H5 (fun _ _ => False) I5 (still I5 n5) at5 go) fun r s6 both => ?_
      obtain ⟨u, er, more⟩ := both
      subst er
      refine thnF more fun _ s7 drawn => ?_
      obtain ⟨x, H7, I7, r7, y7, at7, n7⟩ := drawn
      have I7p := I7.pinned (still I7 n7) (TW.obj _ _ at7)
      refine thnF (jg.run _ s7 _ H7 x u _ I7p r7 (step x H7 y7)) fun _ s8 g8 => ?_
      obtain ⟨σ8, H8, I8, w8, q8⟩ := g8
      refine thnF (jt.run _ s8 σ8 H8 _ I8 q8) fun yes s9 g9 => ?_
      obtain ⟨H9, I9, q9⟩ := g9
      have next : ∀ {s' : Shared} {H' : Hp}, Inv (X.blk sC HC scope ce held) ([] ++ pinsAt held s7.heap) σ8 H' s' → nxt H' → ∃ m, m < n ∧ Here m s' := by
        intro s' H' I' nx
        obtain ⟨m', lt, z'⟩ := down H' nx
        have pinned : ∀ b ∈ held, ∀ o, s7.heap.get? b = some o → s'.heap.get? b = some o ∧ H' b = none := by
          intro b hb o e
          have q := I'.pin (b, o) (List.mem_append_right _ (List.mem_append_right _ (mem_pinsAt hb e)))
          exact ⟨q.1, q.2.1⟩
        have lens : (wipe σ (own.map (·.2))).length = σ8.length := by rw [← w8, wipe_length]
        refine ⟨m', lt, i + 1, H', (I'.unpinned (pins := [])).weak lens (fun j v e => ?_), TW.keep _ _ _ at7 (fun b hb o e => (pinned b hb o e).1), fun b hb => ?_, z'⟩
        · rw [← w8] at e
          exact (wipe_some e).1
        · obtain ⟨o, e, _⟩ := TW.obj _ _ at7 b hb
          exact (pinned b hb o e).2
      cases yes with
      | false =>
        simp only [Bool.false_eq_true, if_false] at q9 ⊢
        exact next I9 q9
      | true =>
        simp only [if_true] at q9 ⊢
        refine thnF (je.run _ s9 σ8 H9 _ I9 q9) fun z s10 g10 => ?_
        obtain ⟨yv, H10, I10, r10, k, M, c, ey, hD10, room, nx⟩ := g10
        subst ey
        refine thnF (mt_sadd (X := X.blk sC HC scope ce held) _ s10 σ8 H10 (.ref D) [.int k] (.ref D) [z] (fun v H' => v = .non ∧ nxt H') I10 rfl (.cons r10 .nil) ⟨D, k, M, c, rfl, rfl, hD10, room, rfl, nx⟩) fun v s11 g11 => ?_
        obtain ⟨v', H11, I11, _, _, nx'⟩ := g11
        exact next I11 nx'
  have start := PpSet.codeAny_compStart_set loop (TW.self X.A 0 _ _ _ atE loop)
  rw [eE] at start
  exact start
end
/-! ### {t: v}: a dict of one pair, its key a tuple of ints and texts: a rule of our own -/
def tDisp1T (trs : List (TE × TE)) : TE := fun σ H Q => ∀ p, H p = none → tPairs trs σ (upd H p (.dT [])) fun ps H2 =>
  H2 p = some (.dT []) ∧ ∃ (b : Addr) (k : List Key) (v : V), ps = [(.ref b, v)] ∧ H2 b = some (.tup (k.map kV)) ∧ Q (.ref p) (upd H2 p (.dT [(k, v)]))
theorem pe_disp1T {X : Cx} {pos : Pos} {ke ve : Expr} {trs : List (TE × TE)} (hu : X.A.units + 1 < cLine) (h : PPs X pos [some ke] [ve] trs) : PE X (.Dict [some ke] [ve] pos) (tDisp1T trs) := by
  constructor
  intro pins s σ H Q I q
  have fresh := I.hok.fresh (Nat.le_refl s.heap.objs.size)
  have I1 := I.laid (a := s.heap.objs.size) (o := .dT []) (h' := s.heap.push { cls := .type "dict", data := .dict #[] }) (t' := s.toks) (fun _ _ e => Heap.get?_push_of_some _ e) (Nat.le_refl _) (dt_empty s.heap I.big)
  have run := h.run pins _ σ _ _ I1 (q _ fresh)
  rw [arm_eval_Dict, zip_pairTrees [some ke] [ve] X.env pos rfl rfl, dictDisplay_pairs _ (by simp [pairTrees]) (by simp [pairTrees])]
  refine wpAny_bind (wpAny_standAt (wpAny_bind (wpAny_subDictH (knd := tupleKind (mixKind X.prog X.w)) (Q := fun d s' => wpAny (model X.prog X.w) X.A (pure (Value.ref d)) (EP X pins σ Q) X.xe s') (by show X.A.units < cLine; omega) (by simp [pairTrees]) ?_)))
  refine thn run fun ws s2 res => ?_
  obtain ⟨ps, H2, I2, rel, e, b, k, v, eps, hb, q2⟩ := res
  subst eps
  cases rel with
  | cons r1 r2 =>
    cases r2
    rename_i kw
    obtain ⟨ku, vu⟩ := kw
    obtain ⟨rk, rv⟩ := r1
    have ek : ku = Value.ref b := rk
    subst ek
    obtain ⟨z, hd, xs, rel0, dd⟩ := dt_of I2.hok e
    cases rel0
    refine ⟨[(k, b, vu)], ⟨rfl, rfl, key_of I2.hok hb, trivial⟩, dd, fun h' tk dd' hs => wpAny_pure ?_⟩
    obtain ⟨o, es, ep, ho, h2, h3, h4, _, h5⟩ := dd'
    refine ⟨.ref s.heap.objs.size, _, d_write (ob := .dT [(k, v)]) I2 (by rw [e]; exact True.intro) hs ⟨o, ho⟩ ⟨Nat.le_of_lt (by decide : (1 : Nat) < sizeLine), hd, [(k, b, vu)], .cons ⟨rfl, ?_, rv⟩ .nil, o, es, ep, ho, h2, h3, h4, h5⟩, rfl, q2⟩
    rw [upd_ne (ne_of hb e (fun z => nomatch z))]
    exact hb
/-! ### groups of places: the mathematics -/
def goodG (many : Nat) (g : List Int) : Prop := g.Pairwise (· < ·) ∧ ∀ x ∈ g, 0 ≤ x ∧ x < (many : Int)
theorem rise_lenG : ∀ {g : List Int} {lo hi : Int}, g.Pairwise (· < ·) → (∀ x ∈ g, lo ≤ x ∧ x < hi) → (g.length : Int) ≤ max 0 (hi - lo)
  | [], lo, hi, _, _ => by
    show ((0 : Nat) : Int) ≤ max 0 (hi - lo)
    omega
  | x :: g, lo, hi, hp, hb => by
    obtain ⟨h1, h2⟩ := List.pairwise_cons.mp hp
    obtain ⟨b1, b2⟩ := hb x List.mem_cons_self
    have ih := rise_lenG (lo := x + 1) (hi := hi) h2 fun y hy => ⟨by have := h1 y hy; omega, (hb y (List.mem_cons_of_mem _ hy)).2⟩
    rw [List.length_cons]
    omega
theorem goodG.len {many : Nat} {g : List Int} (h : goodG many g) : g.length ≤ many := by
  have := rise_lenG h.1 h.2
  omega
def ids (many : Nat) : List Int := (List.range many).map fun (i : Nat) => (i : Int)
theorem ids_pair (many : Nat) : (ids many).Pairwise (· < ·) := by
  unfold ids
  rw [List.pairwise_map]
  refine List.Pairwise.imp ?_ List.pairwise_lt_range
  intro a b h
  omega
theorem mem_ids {many : Nat} {k : Int} : k ∈ ids many ↔ 0 ≤ k ∧ k < (many : Int) := by
  unfold ids
  rw [List.mem_map]
  constructor
  · rintro ⟨i, hi, rfl⟩
    have := List.mem_range.mp hi
    omega
  · rintro ⟨h0, h1⟩
    exact ⟨k.toNat, List.mem_range.mpr (by omega), by omega⟩
theorem ids_good (many : Nat) : goodG many (ids many) := ⟨ids_pair many, fun _ h => mem_ids.mp h⟩
def ledG (many : Nat) (row g : List Int) : List Int := (ids many).filter fun k => decide (k ∈ g.map (goK row))
theorem ledG_good (many : Nat) (row g : List Int) : goodG many (ledG many row g) := by
  refine ⟨List.Pairwise.filter _ (ids_pair many), fun x hx => ?_⟩
  exact mem_ids.mp (List.mem_filter.mp hx).1
theorem goK_in' {many : Nat} {f : List Int} {p : Int} (h : GoodRow many f) (h0 : 0 ≤ p) (h1 : p < (many : Int)) : 0 ≤ goK f p ∧ goK f p < (many : Int) := by
  have hl : p.toNat < f.length := by rw [h.1]; omega
  unfold goK
  rw [List.getD_eq_getElem?_getD, List.getElem?_eq_getElem hl]
  exact h.2 _ (List.getElem_mem hl)
theorem mem_ledG {many : Nat} {row g : List Int} {k : Int} (hr : GoodRow many row) (hg : ∀ x ∈ g, 0 ≤ x ∧ x < (many : Int)) : k ∈ ledG many row g ↔ ∃ x ∈ g, goK row x = k := by
  unfold ledG
  rw [List.mem_filter, mem_ids]
  constructor
  · rintro ⟨_, h⟩
    exact List.mem_map.mp (of_decide_eq_true h)
  · rintro ⟨x, hx, rfl⟩
    exact ⟨goK_in' hr (hg x hx).1 (hg x hx).2, decide_eq_true (List.mem_map.mpr ⟨x, hx, rfl⟩)⟩
theorem at_goK {row : List Int} {p : Int} (h0 : 0 ≤ p) (h : p.toNat < row.length) : (row.map V.int)[p.toNat]? = some (.int (goK row p)) := by
  rw [List.getElem?_map, List.getElem?_eq_getElem h]
  unfold goK
  rw [List.getD_eq_getElem?_getD, List.getElem?_eq_getElem h]
  rfl
/-! ### walks back: the mathematics -/
def rowsOf (ms : List Mv) (ns : List Int) : List (List Int) := ns.map fun n => (ms.getD n.toNat (0, [])).2
def endsK (many : Nat) (rows : List (List Int)) : Nat → List Int
  | 0 => (List.range many).map fun (i : Nat) => (i : Int)
  | k + 1 => (rows.getD k []).map (goK (endsK many rows k))
theorem endsK_good {many : Nat} {rows : List (List Int)} (h : ∀ r ∈ rows, GoodRow many r) : ∀ k, k ≤ rows.length → GoodRow many (endsK many rows k)
  | 0, _ => by
    refine ⟨by unfold endsK; rw [List.length_map, List.length_range], fun x hx => ?_⟩
    unfold endsK at hx
    obtain ⟨i, hi, rfl⟩ := List.mem_map.mp hx
    have := List.mem_range.mp hi
    omega
  | k + 1, hk => by
    have ih := endsK_good h k (by omega)
    have g : rows.getD k [] = rows[k] := by rw [List.getD_eq_getElem?_getD, List.getElem?_eq_getElem (by omega)]; rfl
    obtain ⟨h1, h2⟩ := h rows[k] (List.getElem_mem (by omega))
    unfold endsK
    rw [g]
    refine ⟨by rw [List.length_map, h1], fun x hx => ?_⟩
    obtain ⟨p, hp, rfl⟩ := List.mem_map.mp hx
    obtain ⟨a, b⟩ := h2 p hp
    have hl : p.toNat < (endsK many rows k).length := by rw [ih.1]; omega
    unfold goK
    rw [List.getD_eq_getElem?_getD, List.getElem?_eq_getElem hl]
    exact ih.2 _ (List.getElem_mem hl)
/-- the first count of steps by which all are one -/
def FirstOne (many : Nat) (rows : List (List Int)) (k : Nat) : Prop := k ≤ rows.length ∧ one (endsK many rows k) = true ∧ ∀ j, j < k → one (endsK many rows j) = false
def NoOne (many : Nat) (rows : List (List Int)) : Prop := ∀ j, j ≤ rows.length → one (endsK many rows j) = false
def DrawnAt (H : Hp) (v : V) (many : Nat) (rows : List (List Int)) : Prop :=
  (∃ (k : Nat) (t : Addr), FirstOne many rows k ∧ v = .ref t ∧ H t = some (.tup [.int (goK (endsK many rows k) 0), .int (k : Int)])) ∨ (NoOne many rows ∧ v = .non)
def NumsOk (ms : List Mv) (ns : List Int) : Prop := ns.length ≤ 1000 ∧ ∀ n ∈ ns, 0 ≤ n ∧ n < (ms.length : Int)
theorem rowsOf_good {many : Nat} {ms : List Mv} {ns : List Int} (G : Good many ms) (h : NumsOk ms ns) : ∀ r ∈ rowsOf ms ns, GoodRow many r := by
  intro r hr
  obtain ⟨n, hn, rfl⟩ := List.mem_map.mp hr
  obtain ⟨a, b⟩ := h.2 n hn
  have hl : n.toNat < ms.length := by omega
  rw [List.getD_eq_getElem?_getD, List.getElem?_eq_getElem hl]
  exact (G.mv _ (List.getElem_mem hl)).2.2
/-- rows that stand as tuples -/
def StepsAt (H : Hp) (S : Addr) (rows : List (List Int)) : Prop := ∃ qs : List Addr, H S = some (.lst (qs.map V.ref)) ∧ Paired (fun q row => H q = some (.tup (row.map V.int))) qs rows
theorem StepsAt.same {H H' : Hp} {S : Addr} {rows : List (List Int)} (s : Same H H') (h : StepsAt H S rows) : StepsAt H' S rows := by
  obtain ⟨qs, e, p⟩ := h
  exact ⟨qs, s _ _ e, L2.Paired.mapP p fun _ _ q => s _ _ q⟩
/-! ### rising lists, and whether all are one: the mathematics -/
def Rise (xs ns : List Int) : Prop := xs.Pairwise (· < ·) ∧ ∀ k, k ∈ xs ↔ k ∈ ns
theorem Rise.same {xs ys ns : List Int} (a : Rise xs ns) (b : Rise ys ns) : xs = ys := rise_same a.1 b.1 fun k => (a.2 k).trans (b.2 k).symm
theorem all_at (ns : List Int) : (List.range ns.length).map (fun i => ns.getD i 0) = ns := by
  apply List.ext_getElem?
  intro i
  rw [List.getElem?_map]
  by_cases h : i < ns.length
  · rw [List.getElem?_range h, List.getElem?_eq_getElem h]
    show some (ns.getD i 0) = _
    rw [List.getD_eq_getElem?_getD, List.getElem?_eq_getElem h]
    rfl
  · rw [List.getElem?_eq_none_iff.mpr (by rw [List.length_range]; omega), List.getElem?_eq_none_iff.mpr (by omega)]
    rfl
theorem mem_dist {ns : List Int} {k : Int} : k ∈ dist ns ↔ k ∈ ns := by
  have e := PyProof.Rows.firstMet_any (fun i => ns.getD i 0) ns.length k
  rw [all_at] at e
  have a : ∀ (l : List Int), (l.any (· == k) = true ↔ k ∈ l) := fun l => by simp
  rw [← a, ← a]
  exact iff_of_eq (congrArg (· = true) e)
theorem nodup_met (val : Nat → Int) : ∀ i, (PyProof.Rows.firstMet val i).Nodup
  | 0 => List.nodup_nil
  | i + 1 => by
    rw [PyProof.Rows.firstMet_succ]
    unfold PyProof.Rows.step_dedup
    have ih := nodup_met val i
    split
    · exact ih
    · rename_i h
      refine List.nodup_append.mpr ⟨ih, by simp, fun a ha b hb => ?_⟩
      rw [List.mem_singleton.mp hb]
      intro e
      subst e
      exact h (by simp [ha])
theorem one_iff {ns : List Int} : one ns = true ↔ ∃ v, v ∈ ns ∧ ∀ x ∈ ns, x = v := by
  unfold one
  rw [decide_eq_true_iff]
  constructor
  · intro h
    have h1 : (dist ns).length = 1 := by
      have e : (((dist ns).length : Nat) : Int) = 1 := V.int.inj h
      omega
    obtain ⟨v, ev⟩ := List.length_eq_one_iff.mp h1
    refine ⟨v, mem_dist.mp (by rw [ev]; exact List.mem_singleton_self v), fun x hx => ?_⟩
    have := mem_dist.mpr hx
    rw [ev] at this
    exact List.mem_singleton.mp this
  · rintro ⟨v, hv, all⟩
    have nd : (dist ns).Nodup := nodup_met _ _
    have m1 := mem_dist.mpr hv
    have m2 : ∀ x ∈ dist ns, x = v := fun x hx => all x (mem_dist.mp hx)
    match hd : dist ns with
    | [] => rw [hd] at m1; simp at m1
    | [a] => rfl
    | a :: b :: t =>
      rw [hd] at nd m2
      have ea := m2 a List.mem_cons_self
      have eb := m2 b (List.mem_cons_of_mem _ List.mem_cons_self)
      have := (List.nodup_cons.mp nd).1
      rw [ea, eb] at this
      exact absurd List.mem_cons_self this
theorem rise_one {xs ns : List Int} (r : Rise xs ns) (h : one ns = true) : ∃ v, xs = [v] ∧ v ∈ ns ∧ ∀ x ∈ ns, x = v := by
  obtain ⟨v, hv, all⟩ := one_iff.mp h
  refine ⟨v, rise_same r.1 (List.pairwise_singleton _ _) fun k => ⟨fun hk => ?_, fun hk => ?_⟩, hv, all⟩
  · exact List.mem_singleton.mpr (all k ((r.2 k).mp hk))
  · rw [List.mem_singleton.mp hk]
    exact (r.2 v).mpr hv
theorem rise_len {xs ns : List Int} (r : Rise xs ns) (ne : ns ≠ []) (h : ¬ 1 < xs.length) : one ns = true := by
  obtain ⟨v, hv⟩ := List.exists_mem_of_ne_nil _ ne
  have m := (r.2 v).mpr hv
  have h1 : xs.length = 1 := by
    have := List.length_pos_of_mem m
    omega
  obtain ⟨u, e⟩ := List.length_eq_one_iff.mp h1
  refine one_iff.mpr ⟨u, (r.2 u).mp (by rw [e]; exact List.mem_singleton_self u), fun x hx => ?_⟩
  have := (r.2 x).mpr hx
  rw [e] at this
  exact List.mem_singleton.mp this
/-- all are one by value v -/
theorem one_goK {many : Nat} {E : List Int} (g : GoodRow many E) (m1 : 1 ≤ many) (h : one E = true) : ∀ x ∈ E, x = goK E 0 := by
  obtain ⟨v, hv, all⟩ := one_iff.mp h
  have h0 : 0 < E.length := by rw [g.1]; omega
  have e : goK E 0 = E[0] := by
    unfold goK
    rw [List.getD_eq_getElem?_getD, show (0 : Int).toNat = 0 from rfl, List.getElem?_eq_getElem h0]
    rfl
  intro x hx
  rw [e, all x hx, all E[0] (List.getElem_mem h0)]
/-- walks that begin still farther back end at the same place -/
theorem one_on {many : Nat} {rows : List (List Int)} (h : ∀ r ∈ rows, GoodRow many r) (m1 : 1 ≤ many) {j : Nat} (ho : one (endsK many rows j) = true) (hj : j ≤ rows.length) : ∀ k, j ≤ k → k ≤ rows.length → one (endsK many rows k) = true ∧ goK (endsK many rows k) 0 = goK (endsK many rows j) 0
  | 0, h1, _ => by
    have : j = 0 := by omega
    subst this
    exact ⟨ho, rfl⟩
  | k + 1, h1, h2 => by
    by_cases e : j = k + 1
    · subst e
      exact ⟨ho, rfl⟩
    · obtain ⟨ih, ev⟩ := one_on h m1 ho hj k (by omega) (by omega)
      have gk := endsK_good h k (by omega)
      have gk1 := endsK_good h (k + 1) h2
      have all := one_goK gk m1 ih
      have g : rows.getD k [] = rows[k] := by
        rw [List.getD_eq_getElem?_getD, List.getElem?_eq_getElem (by omega)]
        rfl
      obtain ⟨r1, r2⟩ := h rows[k] (List.getElem_mem (by omega))
      have mem : ∀ x ∈ endsK many rows (k + 1), x = goK (endsK many rows k) 0 := by
        intro x hx
        unfold endsK at hx
        rw [g] at hx
        obtain ⟨p, hp, rfl⟩ := List.mem_map.mp hx
        obtain ⟨a, b⟩ := r2 p hp
        have hl : p.toNat < (endsK many rows k).length := by rw [gk.1]; omega
        refine all _ ?_
        unfold goK
        rw [List.getD_eq_getElem?_getD, List.getElem?_eq_getElem hl]
        exact List.getElem_mem hl
      have h0 : 0 < (endsK many rows (k + 1)).length := by rw [gk1.1]; omega
      have o1 : one (endsK many rows (k + 1)) = true := one_iff.mpr ⟨_, by
        have := mem _ (List.getElem_mem h0)
        rw [← this]
        exact List.getElem_mem h0, mem⟩
      refine ⟨o1, ?_⟩
      rw [← ev, ← mem (goK (endsK many rows (k + 1)) 0) ?_]
      unfold goK
      rw [List.getD_eq_getElem?_getD, show (0 : Int).toNat = 0 from rfl, List.getElem?_eq_getElem h0]
      exact List.getElem_mem h0
/-- rows behind don't matter -/
theorem ends_more {many : Nat} {rows rows' : List (List Int)} : ∀ k, k ≤ rows.length → endsK many (rows ++ rows') k = endsK many rows k
  | 0, _ => rfl
  | k + 1, hk => by
    show ((rows ++ rows').getD k []).map (goK (endsK many (rows ++ rows') k)) = (rows.getD k []).map (goK (endsK many rows k))
    rw [ends_more k (by omega), List.getD_eq_getElem?_getD, List.getElem?_append_left (by omega), ← List.getD_eq_getElem?_getD]
/-- what tries tells -/
def Tried (E : Nat → List Int) (len : Nat) (tr : List (Nat × List Int)) : Prop :=
  (∀ i x, tr[i]? = some x → x.1 = 2 ^ i ∧ 2 ^ i ≤ len ∧ Rise x.2 (E (2 ^ i))) ∧ (∀ i, i + 1 < tr.length → one (E (2 ^ i)) = false) ∧ (len < 2 ^ tr.length ∨ ∃ i, tr.length = i + 1 ∧ one (E (2 ^ i)) = true)
theorem tried_le {E : Nat → List Int} {len : Nat} {a b : List (Nat × List Int)} (ha : Tried E len a) (hb : Tried E len b) : ¬ a.length < b.length := by
  intro h
  obtain ⟨a1, a2, a3⟩ := ha
  obtain ⟨b1, b2, b3⟩ := hb
  rcases a3 with c | ⟨i, ei, o⟩
  · have := (b1 a.length _ (List.getElem?_eq_getElem h)).2.1
    omega
  · have := b2 i (by omega)
    rw [o] at this
    cases this
theorem tried_same {E : Nat → List Int} {len : Nat} {a b : List (Nat × List Int)} (ha : Tried E len a) (hb : Tried E len b) : a = b := by
  have h1 := tried_le ha hb
  have h2 := tried_le hb ha
  have hl : a.length = b.length := by omega
  apply List.ext_getElem hl
  intro i hi hi'
  have x := ha.1 i _ (List.getElem?_eq_getElem hi)
  have y := hb.1 i _ (List.getElem?_eq_getElem hi')
  exact Prod.ext (x.1.trans y.1.symm) (x.2.2.same y.2.2)
section
variable {P : Program} {w : World} {K : PySem.W.Frag} {mg : Str → Option Value} {base : Heap} {C : Addr}
def nSt : List Str := ["chain", "numbers", "whithers", "number", "_", "whither"]
theorem scSt : FnScope ["chain", "numbers", "whithers", "number", "_", "whither"] ["chain", "numbers"] (defScope sStepsOf) := ⟨rfl, rfl, rfl, by decide +kernel, rfl, by decide +kernel, by decide +kernel⟩
def spSteps (C : Addr) : Sp := fun vs H Q _ => ∃ (x l : Addr) (many : Nat) (ms : List Mv) (ns : List Int), vs = [.ref x, .ref l] ∧ ChainAt C H x many ms ∧ H l = some (.lst (ns.map V.int)) ∧ NumsOk ms ns ∧ ms.length ≤ 8 ∧
  ∀ S H', Same H H' → H S = none → StepsAt H' S (rowsOf ms ns) → Q (.ref S) H'
theorem ok_steps {f fP fT : Addr} {fd fdP fdT : FuncData} (F : Fun K "steps_of" "steps_of" sStepsOf f fd) (T : ChM K C fP fT fdP fdT) (mr : mg "range" = none) (ml : mg "len" = none) (mL : mg "list" = none) : FnOk P w K mg base CX0 2 f fd ["chain", "numbers"] (spSteps C) := by
  have GT : FnOk P w K mg base CX0 1 fT fdT ["self"] (spTold C) := ok_told T.FT T.cl T.nV mL
  refine F.ok scSt (fun vs H Q E h => ?_) (fun cdv A outer s H vs Q E hr h => ?_)
  · obtain ⟨x, l, many, ms, ns, rfl, _⟩ := h
    rfl
  · obtain ⟨x, l, many, ms, ns, rfl, hC, hl, hN, h8, q⟩ := h
    refine ⟨_, pss_cons (ps_set (i := 2) scSt.nd rfl (.inr rfl) (pe_lc (own := [("_", 4), ("whither", 5)]) (g := gTup K 2 (gCons (gName 4) (gCons (gName 5) gNil))) (tt := tYes) (te := tVar 5) rfl scSt.nd (pi_list (pe_meth0 (pv 0) T.cl T.hT GT hr T.bT .nil pass0)) (blkOk_by (N := nSt) (sc := defScope sStepsOf) (by decide +kernel))
          (fun _ _ _ _ _ => by exact (pg_tup rfl (pgs_cons (pg_name (i := 4) scSt.nd rfl (.inl rfl)) (pgs_cons (pg_name (i := 5) scSt.nd rfl (.inl rfl)) pgs_nil)))) (fun _ _ _ _ _ => pts_nil) (fun _ _ _ _ _ => pv 5)))
      (pss_cons (ps_for PassesOwn.never rfl (pi_list (pv 1)) (pg_name (i := 3) scSt.nd rfl (.inl rfl))
        (pss_one (ps_if (pt_cmpR op_notIn_rng (pv 3) (pe_callTy cr_range1 (by rfl) mr (by decide +kernel) (pa_cons (pe_callB call_len_seq (by rfl) ml PySem.boot_len (pa_cons (pv 2) pa_nil)) pa_nil)) rfl) pss_never pss_nil)))
      (pss_one (ps_ret (pe_lc (own := [("number", 3)]) (g := gName 3) (tt := tYes) (te := tOp (rIxL K) (tVar 2) (tVar 3)) rfl scSt.nd (pi_list (pv 1)) (blkOk_by (N := nSt) (sc := defScope sStepsOf) (by decide +kernel))
          (fun _ _ _ _ _ => pg_name (i := 3) scSt.nd rfl (.inl rfl)) (fun _ _ _ _ _ => pts_nil) (fun _ _ _ _ _ => by exact (pe_ix ix_list (pv 2) (pv 3) (fun _ _ => rfl))))))), ?_⟩
    obtain ⟨dx, a0, ws, h1, h2, h3⟩ := id hC
    refine ⟨.ref x, rfl, x, dx, _, rfl, h1, ch_noT, x, many, ms, rfl, hC, fun lt wl nlt hM => ?_⟩
    have s1 : Same H (upd H lt (.lst wl)) := same_new nlt
    have lenW := hM.length
    -- whithers
    refine ⟨lt, rfl, ⟨_, SqL.of upd_same⟩, fun W nW => ?_⟩
    have hlt : (upd H lt (.lst wl)) lt = some (.lst wl) := upd_same
    generalize upd H lt (.lst wl) = H1 at s1 hM hlt nW ⊢
    refine lc_list (K := K) (a := lt) (xs := wl) (fun i H' => Same H1 H' ∧ ∃ qs : List Addr, qs.length = i ∧ H' W = some (.lst (qs.map V.ref)) ∧ Paired (fun q (m : Mv) => H1 q = some (.tup (m.2.map V.int))) qs (ms.take i))
      ⟨same_new nW, [], rfl, upd_same, .nil⟩ (fun i H' _ h => SqL.of (h.1 _ _ hlt)) ?_ ?_
    · rintro i v H2 hv ⟨s2, qs, el, hW, hp⟩
      obtain ⟨m, em, ⟨ta, tb, rfl, hta, htb⟩⟩ := hM.get' hv
      have hi : i < ms.length := by
        obtain ⟨q1, _⟩ := List.getElem?_eq_some_iff.mp em
        exact q1
      refine ⟨ta, _, rfl, SqT.of (s2 _ _ hta), rfl, .int m.1, [.ref tb], rfl, .ref tb, [], rfl, rfl, rfl, .ref tb, rfl, _, hW, by rw [List.length_map, el]; exact small8 (by omega), ?_⟩
      refine ⟨fun b u e => by rw [upd_ne (ne_of_none e nW)]; exact s2 _ _ e, qs ++ [tb], by rw [List.length_append, el]; rfl, by rw [upd_same, List.map_append]; rfl, ?_⟩
      rw [take_snoc em]
      exact paired_end (F := fun q (m : Mv) => H1 q = some (.tup (m.2.map V.int))) htb hp
    rintro H2 ⟨s2, qs, el, hW, hp⟩
    rw [lenW, List.take_length] at hp
    have s12 := s1.trans s2
    have hl2 := s12 _ _ hl
    have lenQ : qs.length = ms.length := hp.length
    -- the numbers are moves
    refine ⟨.ref l, rfl, l, rfl, ⟨_, SqL.of hl2⟩, for_list (K := K) (a := l) (xs := ns.map V.int) (fun i σ H' => ∃ y3, σ = [some (.ref x), some (.ref l), some (.ref W), y3, none, none] ∧ Same H2 H') ⟨none, rfl, Same.refl _⟩ (fun i σ H' _ ⟨_, _, s3⟩ => SqL.of (s3 _ _ hl2)) ?_ ?_⟩
    · rintro i v σ H3 hv ⟨y3, rfl, s3⟩
      rw [List.getElem?_map] at hv
      obtain ⟨n, hn, rfl⟩ := Option.map_eq_some_iff.mp hv
      obtain ⟨n0, n1⟩ := hN.2 n (List.mem_of_getElem? hn)
      have hW3 := s3 _ _ hW
      refine ⟨.int n, rfl, .ref W, rfl, W, _, rfl, .inl (SqL.of hW3), _, rfl, fun r nr => ⟨n, r, 0, _, rfl, rfl, upd_same, _, rfl, iteNS (by rw [List.length_map, lenQ]; omega) ?_⟩⟩
      exact ⟨some (.int n), rfl, s3.trans (same_new nr)⟩
    · rintro σ H3 ⟨y3, rfl, s3⟩
      have hl3 := s3 _ _ hl2
      have hW3 := s3 _ _ hW
      refine ⟨.ref l, rfl, l, rfl, ⟨_, SqL.of hl3⟩, fun S nS => ?_⟩
      refine lc_list (K := K) (a := l) (xs := ns.map V.int) (fun i H' => Same H3 H' ∧ ∃ ps : List Addr, ps.length = i ∧ H' S = some (.lst (ps.map V.ref)) ∧ Paired (fun q row => H1 q = some (.tup (row.map V.int))) ps ((rowsOf ms ns).take i))
        ⟨same_new nS, [], rfl, upd_same, .nil⟩ (fun i H' _ h => SqL.of (h.1 _ _ hl3)) ?_ ?_
      · rintro i v H4 hv ⟨s4, ps, ep, hS, hp4⟩
        rw [List.getElem?_map] at hv
        obtain ⟨n, hn, rfl⟩ := Option.map_eq_some_iff.mp hv
        obtain ⟨n0, n1⟩ := hN.2 n (List.mem_of_getElem? hn)
        have hi : i < ns.length := by
          obtain ⟨q1, _⟩ := List.getElem?_eq_some_iff.mp hn
          exact q1
        have hnm : n.toNat < ms.length := by omega
        obtain ⟨qa, eqa, hqa⟩ := paired_get hp (List.getElem?_eq_getElem hnm)
        have gW : (qs.map V.ref)[n.toNat]? = some (.ref qa) := by rw [List.getElem?_map, eqa]; rfl
        have en : n = ((n.toNat : Nat) : Int) := by omega
        refine ⟨rfl, .ref W, rfl, .int n, rfl, W, _, n, _, rfl, rfl, SqL.of (s4 _ _ hW3), at_of en gW, _, hS, by rw [List.length_map, ep]; exact small1k (by have := hN.1; omega), ?_⟩
        refine ⟨fun b u e => by rw [upd_ne (ne_of_none e nS)]; exact s4 _ _ e, ps ++ [qa], by rw [List.length_append, ep]; rfl, by rw [upd_same, List.map_append]; rfl, ?_⟩
        have er : (rowsOf ms ns)[i]? = some ms[n.toNat].2 := by
          unfold rowsOf
          rw [List.getElem?_map, hn]
          show some (ms.getD n.toNat (0, [])).2 = _
          rw [List.getD_eq_getElem?_getD, List.getElem?_eq_getElem hnm]
          rfl
        rw [take_snoc er]
        exact paired_end (F := fun q (row : List Int) => H1 q = some (.tup (row.map V.int))) hqa hp4
      · rintro H4 ⟨s4, ps, ep, hS, hp4⟩
        rw [List.length_map, List.take_of_length_le (by unfold rowsOf; rw [List.length_map]; exact Nat.le_refl _)] at hp4
        have s14 := (s2.trans s3).trans s4
        exact q S H4 (s1.trans s14) ((s12.trans s3).free nS) ⟨ps, hS, L2.Paired.mapP hp4 fun _ _ e => s14 _ _ e⟩
/-! ### drawn -/
theorem scOne : FnScope ["ends"] ["ends"] (defScope sAreOne) := ⟨rfl, rfl, rfl, by decide +kernel, rfl, by decide +kernel, by decide +kernel⟩
def spOne (K : PySem.W.Frag) : Sp := fun vs H Q _ => ∃ (l : Addr) (ns : List Int), vs = [.ref l] ∧ H l = some (.lst (ns.map V.int)) ∧ ns.length < 64 ∧ Q (.bl (one ns)) H
theorem ok_one {f : Addr} {fd : FuncData} {k : Nat} (F : Fun K "_are_one" "_are_one" sAreOne f fd) (ml : mg "len" = none) (mS : mg "set" = none) : FnOk P w K mg base CX0 (k + 1) f fd ["ends"] (spOne K) := by
  refine F.ok scOne (fun vs H Q E h => ?_) (fun cdv A outer s H vs Q E hr h => ?_)
  · obtain ⟨l, ns, rfl, _⟩ := h
    rfl
  · obtain ⟨l, ns, rfl, hl, h64, q⟩ := h
    exact ⟨_, pss_one (ps_ret (pe_cmpR op_eq (pe_lenSetN (by rfl) ml (by rfl) mS (pv 0)) pe_int (nomark _))), .ref l, rfl, l, ns, rfl, SqL.of hl, h64, rfl, q⟩
end
/-! ### drawn_from, drawn -/
/-- where the walks from these places end -/
def seenK (many : Nat) (rows : List (List Int)) (bs : List Int) (k : Nat) : List Int := bs.map (goK (endsK many rows k))
def FirstB (many : Nat) (rows : List (List Int)) (bs : List Int) (k : Nat) : Prop := k ≤ rows.length ∧ one (seenK many rows bs k) = true ∧ ∀ j, j < k → one (seenK many rows bs j) = false
def NoneB (many : Nat) (rows : List (List Int)) (bs : List Int) : Prop := ∀ j, j ≤ rows.length → one (seenK many rows bs j) = false
def DrawnB (H : Hp) (v : V) (many : Nat) (rows : List (List Int)) (bs : List Int) : Prop :=
  (∃ (k : Nat) (t : Addr), FirstB many rows bs k ∧ v = .ref t ∧ H t = some (.tup [.int (goK (seenK many rows bs k) 0), .int (k : Int)])) ∨ (NoneB many rows bs ∧ v = .non)
theorem goK_zero {many : Nat} {p : Int} (h0 : 0 ≤ p) (h1 : p < (many : Int)) : goK ((List.range many).map fun (i : Nat) => (i : Int)) p = p := by
  unfold goK
  rw [List.getD_eq_getElem?_getD, List.getElem?_map, List.getElem?_range (by omega)]
  show ((p.toNat : Nat) : Int) = p
  omega
theorem seenK_zero {many : Nat} {rows : List (List Int)} {bs : List Int} (h : ∀ b ∈ bs, 0 ≤ b ∧ b < (many : Int)) : seenK many rows bs 0 = bs := by
  have e : seenK many rows bs 0 = bs.map id := List.map_congr_left fun b hb => goK_zero (h b hb).1 (h b hb).2
  rw [e, List.map_id]
theorem seenK_all {many : Nat} {rows : List (List Int)} (h : ∀ r ∈ rows, GoodRow many r) {k : Nat} (hk : k ≤ rows.length) : seenK many rows ((List.range many).map fun (i : Nat) => (i : Int)) k = endsK many rows k := by
  have gE := endsK_good h k hk
  unfold seenK
  rw [List.map_map]
  apply List.ext_getElem?
  intro i
  rw [List.getElem?_map]
  by_cases hi : i < many
  · rw [List.getElem?_range hi, List.getElem?_eq_getElem (by rw [gE.1]; exact hi)]
    show some (goK (endsK many rows k) (i : Int)) = _
    unfold goK
    rw [Int.toNat_natCast, List.getD_eq_getElem?_getD, List.getElem?_eq_getElem (by rw [gE.1]; exact hi)]
    rfl
  · rw [List.getElem?_eq_none_iff.mpr (by rw [List.length_range]; omega), List.getElem?_eq_none_iff.mpr (by rw [gE.1]; omega)]
    rfl
theorem DrawnB.all {H : Hp} {v : V} {many : Nat} {rows : List (List Int)} (h : ∀ r ∈ rows, GoodRow many r) (d : DrawnB H v many rows ((List.range many).map fun (i : Nat) => (i : Int))) : DrawnAt H v many rows := by
  rcases d with ⟨k, t, ⟨hk, h1, h2⟩, e, ht⟩ | ⟨hn, e⟩
  · refine .inl ⟨k, t, ⟨hk, by rw [← seenK_all h hk]; exact h1, fun j hj => by rw [← seenK_all h (by omega)]; exact h2 j hj⟩, e, ?_⟩
    rw [ht, seenK_all h hk]
  · exact .inr ⟨fun j hj => by rw [← seenK_all h hj]; exact hn j hj, e⟩
section
variable {P : Program} {w : World} {K : PySem.W.Frag} {mg : Str → Option Value} {base : Heap} {C : Addr}
def nDf : List Str := ["chain", "begins", "numbers", "steps", "ends", "seen", "far", "place"]
theorem scDf : FnScope ["chain", "begins", "numbers", "steps", "ends", "seen", "far", "place"] ["chain", "begins", "numbers"] (defScope sDrawnFrom) := ⟨rfl, rfl, rfl, by decide +kernel, rfl, by decide +kernel, by decide +kernel⟩
def spDf (K : PySem.W.Frag) (C : Addr) : Sp := fun vs H Q _ => ∃ (x b l : Addr) (many : Nat) (ms : List Mv) (bs ns : List Int), vs = [.ref x, .ref b, .ref l] ∧ ChainAt C H x many ms ∧ Good many ms ∧ SqL K H b (bs.map V.int) ∧ bs.length < 64 ∧ 1 ≤ bs.length ∧ (∀ z ∈ bs, 0 ≤ z ∧ z < (many : Int)) ∧ H l = some (.lst (ns.map V.int)) ∧ NumsOk ms ns ∧
  ∀ v H', Same H H' → DrawnB H' v many (rowsOf ms ns) bs → Q v H'
theorem ok_drawnFrom {f fS fO fP fT : Addr} {fd fdS fdO fdP fdT : FuncData} (F : Fun K "drawn_from" "drawn_from" sDrawnFrom f fd) (FS : Fun K "steps_of" "steps_of" sStepsOf fS fdS) (bS : Binds K fdS ["chain", "numbers"] []) (gS : mg "steps_of" = some (.ref fS))
    (FO : Fun K "_are_one" "_are_one" sAreOne fO fdO) (bO : Binds K fdO ["ends"] []) (gO : mg "_are_one" = some (.ref fO)) (T : ChM K C fP fT fdP fdT) (mr : mg "range" = none) (ml : mg "len" = none) (mL : mg "list" = none) (mS : mg "set" = none) :
    FnOk P w K mg base CX0 3 f fd ["chain", "begins", "numbers"] (spDf K C) := by
  have GS : FnOk P w K mg base CX0 2 fS fdS ["chain", "numbers"] (spSteps C) := ok_steps FS T mr ml mL
  have GO : FnOk P w K mg base CX0 1 fO fdO ["ends"] (spOne K) := ok_one FO ml mS
  have GP : FnOk P w K mg base CX0 1 fP fdP ["self"] (spPlaces C) := ok_places T.FP T.cl T.nM
  refine F.ok scDf (fun vs H Q E h => ?_) (fun cdv A outer s H vs Q E hr h => ?_)
  · obtain ⟨x, b, l, many, ms, bs, ns, rfl, _⟩ := h
    rfl
  · obtain ⟨x, b, l, many, ms, bs, ns, rfl, hC, G, hb, b64, b1, hbs, hl, hN, q⟩ := h
    have r1 : Room 1 _ := hr.mono (by decide)
    refine ⟨_, pss_cons (ps_set (i := 3) scDf.nd rfl (.inl rfl) (pe_call GS hr (by rfl) gS FS.kp bS .nil pass0 (pa_cons (pv 0) (pa_cons (pv 2) pa_nil))))
      (pss_cons (ps_set (i := 4) scDf.nd rfl (.inr rfl) (pe_listRg rfl (by rfl) mL (prg_1 (by rfl) mr (pe_meth0 (pv 0) T.cl T.hP GP r1 T.bP .nil pass0))))
      (pss_cons (ps_set (i := 5) scDf.nd rfl (.inl rfl) (pe_callTy call_list_of (by rfl) mL (by decide +kernel) (pa_cons (pv 1) pa_nil)))
      (pss_cons (ps_set (i := 6) scDf.nd rfl (.inl rfl) pe_int)
      (pss_cons (ps_while PassesOwn.never (PW.pt (pw_and (pt_cmpR op_lt (pv 6) (pe_callB call_len_seq (by rfl) ml PySem.boot_len (pa_cons (pv 3) pa_nil)) (nomark _)) (pw_and1 (pt_not (pt_val (pe_call GO r1 (by rfl) gO FO.kp bO .nil pass0 (pa_cons (pv 5) pa_nil)))))))
        (pss_cons (ps_set (i := 4) scDf.nd rfl (.inr rfl) (pe_lc (own := [("place", 7)]) (g := gName 7) (tt := tYes) (te := tOp (rIxL K) (tVar 4) (tVar 7)) rfl scDf.nd (pi_tup (pe_ix ix_list (pv 3) (pv 6) (fun _ _ => rfl))) (blkOk_by (N := nDf) (sc := defScope sDrawnFrom) (by decide +kernel))
          (fun _ _ _ _ _ => pg_name (i := 7) scDf.nd rfl (.inl rfl)) (fun _ _ _ _ _ => pts_nil) (fun _ _ _ _ _ => by exact (pe_ix ix_list (pv 4) (pv 7) (fun _ _ => rfl)))))
        (pss_cons (ps_setLc (i := 5) (own := [("place", 7)]) (g := gName 7) (tt := tYes) (te := tOp (rIxL K) (tVar 4) (tVar 7)) rfl scDf.nd rfl rfl (sw_true rfl rfl rfl (by decide +kernel)) (pi_list (pv 1)) (blkOk_by (N := nDf) (sc := defScope sDrawnFrom) (by decide +kernel))
          (fun _ _ _ _ _ => pg_name (i := 7) scDf.nd rfl (.inl rfl)) (fun _ _ _ _ _ => pts_nil) (fun _ _ _ _ _ => by exact (pe_ix ix_list (pv 4) (pv 7) (fun _ _ => rfl))))
        (pss_one (ps_aug (i := 6) scDf.nd rfl (.inl rfl) pe_int ip_add)))))
      (pss_cons (ps_if (pt_val (pe_call GO r1 (by rfl) gO FO.kp bO .nil pass0 (pa_cons (pv 5) pa_nil))) (pss_one (ps_ret (pe_tup (pa_cons (pe_ix ix_list (pv 5) pe_int (fun _ _ => rfl)) (pa_cons (pv 6) pa_nil))))) pss_nil)
      (pss_one (ps_ret pe_non))))))), ?_⟩
    have h8 := G.l8
    have m6 := G.m6
    have m1 := G.m1
    refine ⟨.ref x, rfl, .ref l, rfl, x, l, many, ms, ns, rfl, hC, hl, hN, h8, fun S H1 s1 nS hSt => ?_⟩
    have hC1 := hC.same s1
    obtain ⟨dx, a0, ws, h1, h2, h3⟩ := id hC1
    obtain ⟨qs, hS, hp⟩ := hSt
    have gR := rowsOf_good G hN
    have lenR : (rowsOf ms ns).length = ns.length := by
      unfold rowsOf
      rw [List.length_map]
    have lenQ : qs.length = (rowsOf ms ns).length := hp.length
    have n1000 := hN.1
    have gE := endsK_good gR
    have lenSeen : ∀ k, (seenK many (rowsOf ms ns) bs k).length = bs.length := fun k => by
      unfold seenK
      rw [List.length_map]
    refine ⟨.ref x, rfl, x, dx, _, rfl, h1, ch_no, x, many, ms, rfl, hC1, _, rfl, RgOk.of_le (by omega) (by omega) (by omega) (by omega), fun e0 ne0 => ?_⟩
    rw [rg_ends]
    have s2 : Same H1 (upd H1 e0 (.lst ((endsK many (rowsOf ms ns) 0).map V.int))) := same_new ne0
    have hb1 := s1.seq hb
    refine ⟨.ref b, rfl, b, _, rfl, .inl (s2.seq hb1), fun g0 ng0 => ?_⟩
    have s3' : Same (upd H1 e0 (.lst ((endsK many (rowsOf ms ns) 0).map V.int))) (upd (upd H1 e0 (.lst ((endsK many (rowsOf ms ns) 0).map V.int))) g0 (.lst (bs.map V.int))) := same_new ng0
    refine while_by (fun σ H' => ∃ (k : Nat) (e g : Addr), σ = [some (.ref x), some (.ref b), some (.ref l), some (.ref S), some (.ref e), some (.ref g), some (.int (k : Int)), none] ∧ Same H1 H' ∧ k ≤ (rowsOf ms ns).length ∧ H' e = some (.lst ((endsK many (rowsOf ms ns) k).map V.int)) ∧ H' g = some (.lst ((seenK many (rowsOf ms ns) bs k).map V.int)) ∧ ∀ j, j < k → one (seenK many (rowsOf ms ns) bs j) = false)
      (fun σ _ => match σ with | [_, _, _, _, _, _, some (.int k), _] => (rowsOf ms ns).length - k.toNat | _ => 0) ⟨0, e0, g0, rfl, s2.trans s3', Nat.zero_le _, s3' _ _ upd_same, by rw [seenK_zero hbs]; exact upd_same, fun j hj => absurd hj (Nat.not_lt_zero _)⟩ ?_ ?_
    · rintro σ H2 ⟨k, e, g, rfl, s3, hk, he, hg, hbef⟩
      have hS2 := s3 _ _ hS
      obtain ⟨gl, gx⟩ := gE k hk
      have h64 : (seenK many (rowsOf ms ns) bs k).length < 64 := by rw [lenSeen]; exact b64
      -- what follows the loop
      have after : (k = (rowsOf ms ns).length ∨ one (seenK many (rowsOf ms ns) bs k) = true) → tSeq (tIfS (tB (tCall (spOne K) [] E0 (tCons (tVar 5) tNil))) (tRet (tTup (tCons (tOp (rIxL K) (tVar 5) (tC (.int 0))) (tCons (tVar 6) tNil)))) tNext) (tRet (tC .non)) { nx := fun _ H' => Q .non H', rt := Q } [some (.ref x), some (.ref b), some (.ref l), some (.ref S), some (.ref e), some (.ref g), some (.int (k : Int)), none] H2 := by
        intro hex
        refine ⟨.ref g, rfl, g, _, rfl, hg, h64, _, rfl, ite2 (fun c => ?_) (fun c => ?_)⟩
        · have g0 : ((seenK many (rowsOf ms ns) bs k).map V.int)[0]? = some (.int (goK (seenK many (rowsOf ms ns) bs k) 0)) := by
            have h0 : 0 < (seenK many (rowsOf ms ns) bs k).length := by rw [lenSeen]; omega
            rw [List.getElem?_map, List.getElem?_eq_getElem h0]
            unfold goK
            rw [List.getD_eq_getElem?_getD, show (0 : Int).toNat = 0 from rfl, List.getElem?_eq_getElem h0]
            rfl
          refine ⟨.ref g, rfl, g, _, 0, _, rfl, rfl, SqL.of hg, atI_nat (j := 0) g0, .int (k : Int), rfl, (by show 2 ≤ sizeLine; decide), fun t nt => ?_⟩
          exact q _ _ ((s1.trans s3).trans (same_new nt)) (.inl ⟨k, t, ⟨hk, c, hbef⟩, rfl, upd_same⟩)
        · refine q _ _ (s1.trans s3) (.inr ⟨fun j hj => ?_, rfl⟩)
          by_cases hjk : j < k
          · exact hbef j hjk
          · have ek : k = (rowsOf ms ns).length := hex.resolve_right c
            have ej : j = k := by omega
            rw [ej]
            cases ho : one (seenK many (rowsOf ms ns) bs k) with
            | false => rfl
            | true => exact absurd ho c
      refine ⟨.int (k : Int), rfl, .ref S, rfl, S, _, rfl, .inl (SqL.of hS2), _, _, rfl, rfl, _, rfl, ite2 (fun c => ?_) (fun c => ?_)⟩
      · have hlt : k < (rowsOf ms ns).length := by
          have := of_decide_eq_true c
          rw [List.length_map, lenQ] at this
          omega
        refine ⟨.ref g, rfl, g, _, rfl, hg, h64, _, rfl, ?_⟩
        cases ho : one (seenK many (rowsOf ms ns) bs k) with
        | true => exact after (.inr ho)
        | false =>
          refine (if_pos (rfl : (!false) = true)).mpr ?_
          have er := List.getElem?_eq_getElem hlt
          obtain ⟨qa, eqa, hqa⟩ := paired_get hp er
          have gS : (qs.map V.ref)[k]? = some (.ref qa) := by rw [List.getElem?_map, eqa]; rfl
          have hqa2 := s3 _ _ hqa
          obtain ⟨rl, rx⟩ := gR _ (List.getElem_mem hlt)
          refine ⟨.ref S, rfl, .int (k : Int), rfl, S, _, (k : Int), _, rfl, rfl, SqL.of hS2, atI_nat gS, qa, rfl, ⟨_, SqT.of hqa2⟩, fun D nD => ?_⟩
          have eK : endsK many (rowsOf ms ns) (k + 1) = (rowsOf ms ns)[k].map (goK (endsK many (rowsOf ms ns) k)) := by
            show ((rowsOf ms ns).getD k []).map _ = _
            rw [List.getD_eq_getElem?_getD, er]
            rfl
          refine lc_tup (K := K) (a := qa) (xs := ((rowsOf ms ns)[k]).map V.int) (fun i H' => Same H2 H' ∧ H' D = some (.lst ((((rowsOf ms ns)[k].map (goK (endsK many (rowsOf ms ns) k))).take i).map V.int)))
            ⟨same_new nD, by rw [List.take_zero]; exact upd_same⟩ (fun i H' _ h => SqT.of (h.1 _ _ hqa2)) ?_ ?_
          · rintro i v H3 hv ⟨s4, hD⟩
            rw [List.getElem?_map] at hv
            obtain ⟨p, hpp, rfl⟩ := Option.map_eq_some_iff.mp hv
            obtain ⟨p0, p1⟩ := rx p (List.mem_of_getElem? hpp)
            have hpl : p.toNat < (endsK many (rowsOf ms ns) k).length := by omega
            have ge : ((endsK many (rowsOf ms ns) k).map V.int)[p.toNat]? = some (.int (goK (endsK many (rowsOf ms ns) k) p)) := by
              rw [List.getElem?_map, List.getElem?_eq_getElem hpl]
              unfold goK
              rw [List.getD_eq_getElem?_getD, List.getElem?_eq_getElem hpl]
              rfl
            have hi : i < (rowsOf ms ns)[k].length := by
              obtain ⟨q1, _⟩ := List.getElem?_eq_some_iff.mp hpp
              exact q1
            refine ⟨rfl, .ref e, rfl, .int p, rfl, e, _, p, _, rfl, rfl, SqL.of (s4 _ _ he), at_of (show p = ((p.toNat : Nat) : Int) by omega) ge, _, hD, ?_, fun b u eb => by rw [upd_ne (ne_of_none eb nD)]; exact s4 _ _ eb, ?_⟩
            · rw [List.length_map, List.length_take]
              exact small8 (Nat.le_trans (Nat.min_le_left _ _) (by omega))
            · rw [upd_same, take_snoc (x := goK (endsK many (rowsOf ms ns) k) p) (by rw [List.getElem?_map, hpp]; rfl), List.map_append]
              rfl
          · rintro H3 ⟨s4, hD⟩
            rw [List.length_map, List.take_of_length_le (by rw [List.length_map]; exact Nat.le_refl _), ← eK] at hD
            have hb3 : SqL K H3 b (bs.map V.int) := (s3.trans s4).seq hb1
            obtain ⟨gl', gx'⟩ := gE (k + 1) hlt
            refine ⟨.ref b, rfl, b, rfl, ⟨_, hb3⟩, fun D' nD' => ?_⟩
            refine lc_list (K := K) (a := b) (xs := bs.map V.int) (fun i H' => Same H3 H' ∧ H' D' = some (.lst (((seenK many (rowsOf ms ns) bs (k + 1)).take i).map V.int)))
              ⟨same_new nD', by rw [List.take_zero]; exact upd_same⟩ (fun i H' _ h => h.1.seq hb3) ?_ ?_
            · rintro i v H4 hv ⟨s5, hD4⟩
              rw [List.getElem?_map] at hv
              obtain ⟨p, hpp, rfl⟩ := Option.map_eq_some_iff.mp hv
              obtain ⟨p0, p1⟩ := hbs p (List.mem_of_getElem? hpp)
              have hpl : p.toNat < (endsK many (rowsOf ms ns) (k + 1)).length := by omega
              have ge : ((endsK many (rowsOf ms ns) (k + 1)).map V.int)[p.toNat]? = some (.int (goK (endsK many (rowsOf ms ns) (k + 1)) p)) := by
                rw [List.getElem?_map, List.getElem?_eq_getElem hpl]
                unfold goK
                rw [List.getD_eq_getElem?_getD, List.getElem?_eq_getElem hpl]
                rfl
              refine ⟨rfl, .ref D, rfl, .int p, rfl, D, _, p, _, rfl, rfl, SqL.of (s5 _ _ hD), at_of (show p = ((p.toNat : Nat) : Int) by omega) ge, _, hD4, ?_, fun b u eb => by rw [upd_ne (ne_of_none eb nD')]; exact s5 _ _ eb, ?_⟩
              · rw [List.length_map, List.length_take, lenSeen]
                exact small1k (Nat.le_trans (Nat.min_le_right _ _) (by omega))
              · have et : (seenK many (rowsOf ms ns) bs (k + 1))[i]? = some (goK (endsK many (rowsOf ms ns) (k + 1)) p) := by
                  unfold seenK
                  rw [List.getElem?_map, hpp]
                  rfl
                rw [upd_same, take_snoc et, List.map_append]
                rfl
            · rintro H4 ⟨s5, hD4⟩
              rw [List.length_map, List.take_of_length_le (by rw [lenSeen]; exact Nat.le_refl _)] at hD4
              refine ⟨.int (k : Int), rfl, (k : Int), 1, rfl, rfl, ⟨k + 1, D, D', ?_, (s3.trans s4).trans s5, hlt, s5 _ _ hD, hD4, fun j hj => ?_⟩, ?_⟩
              · rfl
              · by_cases hjk : j < k
                · exact hbef j hjk
                · have ej : j = k := by omega
                  rw [ej]
                  exact ho
              · show (rowsOf ms ns).length - ((k : Int) + 1).toNat < (rowsOf ms ns).length - ((k : Int)).toNat
                omega
      · have hge : k = (rowsOf ms ns).length := by
          have h9 : ¬ ((k : Int) < ((qs.map V.ref).length : Int)) := fun z => c (decide_eq_true z)
          rw [List.length_map, lenQ] at h9
          omega
        exact after (.inl hge)
    · rintro σ H2 Q1 Q2 hq ⟨v, e1, u, e2, p, ys, e3, e4, i, j, e5, e6, b, e7, h⟩
      refine ⟨v, e1, u, e2, p, ys, e3, e4, i, j, e5, e6, b, e7, ?_⟩
      cases b with
      | false => exact hq _ _ h
      | true =>
        obtain ⟨z, e8, l2, ns2, e9, e10, e11, k2, e12, h2⟩ := h
        exact ⟨z, e8, l2, ns2, e9, e10, e11, k2, e12, hq _ _ h2⟩
end
/-- a set comprehension over a tuple of ints, its element an int -/
theorem scI_tup {w : World} {K : PySem.W.Frag} {a D : Addr} {ns : List Int} {f : Int → Int} {j : Nat} {elm : TE} {σ : L2.St} {H1 : Hp} {gone : List Nat} {Qd : Hp → Prop} (nD : H1 D = none) (hT : SqT K H1 a (ns.map V.int)) (small : ns.length + 1 < scanBound)
    (keep : ∀ n : Int, wipe ((wipe σ gone).set j (some (.int n))) gone = wipe σ gone)
    (turn : ∀ n ∈ ns, ∀ (H' : Hp) (q : VK), Same H1 H' → q (.int (f n)) H' → elm ((wipe σ gone).set j (some (.int n))) H' q)
    (done : ∀ H' M c, Same H1 H' → H' D = some (SetO w D M c) → (∀ k, M k = true ↔ k ∈ ns.map f) → c ≤ ns.length → Qd H') :
    ∃ Z : Nat → Nat → Hp → Prop, (∃ m, Z 0 m (upd H1 D (SetO w D (fun _ => false) 0))) ∧
      ∀ i m Hb, Z i m Hb → ((Itt K a).stop i Hb ∧ Qd Hb) ∨
        ((Itt K a).go i Hb ∧ ∃ nxt : Hp → Prop, (∀ Hc, nxt Hc → ∃ m', m' < m ∧ Z (i + 1) m' Hc) ∧ ∀ v Hc, (Itt K a).yld i Hb v Hc → oneTurn w D (gName j) tYes elm gone σ v Hc nxt) := by
  let At : Nat → Hp → Prop := fun i Hb => Same H1 Hb ∧ ∃ M c, Hb D = some (SetO w D M c) ∧ (∀ k, M k = true ↔ k ∈ (ns.take i).map f) ∧ c ≤ i
  refine ⟨fun i m Hb => m = ns.length - i ∧ i ≤ ns.length ∧ At i Hb, ⟨ns.length, rfl, Nat.zero_le _, same_new nD, _, 0, upd_same, fun k => by simp, Nat.le_refl _⟩, ?_⟩
  rintro i m Hb ⟨rfl, hi, sH, M, c, hD, hM, hc⟩
  have hT' := Same.seqt sH hT
  by_cases lt : i < ns.length
  · refine .inr ⟨⟨_, .int ns[i], hT', by rw [List.getElem?_map, List.getElem?_eq_getElem lt]; rfl⟩, At (i + 1), fun Hc p => ⟨ns.length - (i + 1), by omega, rfl, lt, p⟩, fun v Hc y => ?_⟩
    obtain ⟨e, y⟩ := y
    subst e
    have ev := y _ hT'
    rw [List.getElem?_map, List.getElem?_eq_getElem lt] at ev
    have ev' : v = .int ns[i] := (Option.some.inj ev).symm
    subst ev'
    refine ⟨keep _, turn ns[i] (List.getElem_mem lt) _ _ sH ⟨f ns[i], M, c, rfl, hD, by omega, ?_⟩⟩
    refine ⟨fun b o e => by rw [upd_ne (ne_of_none e nD)]; exact sH b o e, _, _, upd_same, fun k => ?_, ?_⟩
    · rw [Bool.or_eq_true, hM k, decide_eq_true_iff, take_snoc (List.getElem?_eq_getElem lt), List.map_append, List.mem_append]
      constructor
      · rintro (h | h)
        · exact .inl h
        · exact .inr (by rw [h]; simp)
      · rintro (h | h)
        · exact .inl h
        · exact .inr (by simpa using h)
    · split <;> omega
  · have e : i = ns.length := by omega
    subst e
    refine .inl ⟨⟨_, hT', by rw [List.length_map]; exact Nat.le_refl _⟩, done Hb M c sH hD (fun k => by rw [hM k, List.take_length]) hc⟩
section
variable {P : Program} {w : World} {K : PySem.W.Frag} {mg : Str → Option Value} {base : Heap}
/-! ### led_to -/
theorem scLed : FnScope ["whither", "group", "place"] ["whither", "group"] (defScope sLedTo) := ⟨rfl, rfl, rfl, by decide +kernel, rfl, by decide +kernel, by decide +kernel⟩
def spLed : Sp := fun vs H Q _ => ∃ (wa ga : Addr) (many : Nat) (row g : List Int), vs = [.ref wa, .ref ga] ∧ H wa = some (.tup (row.map V.int)) ∧ H ga = some (.tup (g.map V.int)) ∧ many ≤ 6 ∧ GoodRow many row ∧ goodG many g ∧
  ∀ p H', Same H H' → H p = none → H' p = some (.tup ((ledG many row g).map V.int)) → Q (.ref p) H'
theorem ok_led {f : Addr} {fd : FuncData} {k : Nat} (F : Fun K "led_to" "led_to" sLedTo f fd) (mt : mg "tuple" = none) (ms : mg "sorted" = none) : FnOk P w K mg base CX0 (k + 1) f fd ["whither", "group"] spLed := by
  refine F.ok scLed (fun vs H Q E h => ?_) (fun cdv A outer s H vs Q E hr h => ?_)
  · obtain ⟨wa, ga, many, row, g, rfl, _⟩ := h
    rfl
  · obtain ⟨wa, ga, many, row, g, rfl, hw, hg, m6, hrow, gg, q⟩ := h
    refine ⟨_, pss_one (ps_ret (pe_callTy call_tuple_of (by rfl) mt (by decide +kernel) (pa_cons (pe_callB (cr_sortedSet rfl) (by rfl) ms (by decide +kernel) (pa_cons
      (pe_scI (own := [("place", 2)]) (gt := gName 2) (tst := tYes) (elm := tOp (rIxT K) (tVar 0) (tVar 2)) rfl scLed.nd (pi_tup (pv 1)) (blkOk_by (N := ["whither", "group", "place"]) (sc := defScope sLedTo) (by decide +kernel)) (fun _ _ _ _ _ => pg_name (i := 2) scLed.nd rfl (.inl rfl)) (fun _ _ _ _ _ => pts_nil) (fun _ _ _ _ _ => by exact (pe_ix ix_tup (pv 0) (pv 2) (fun _ _ => rfl)))) pa_nil)) pa_nil))), ?_⟩
    have len := gg.len
    refine ⟨.ref ga, rfl, ga, rfl, ⟨_, SqT.of hg⟩, fun D nD => ?_⟩
    refine scI_tup (w := w) (ns := g) (f := goK row) (j := 2) nD (SqT.of hg) (by unfold scanBound; omega) (fun n => rfl) (fun n hn H' q' sH hq => ?_) (fun H' M c sH hD hM hc => ?_)
    · obtain ⟨n0, n1⟩ := gg.2 n hn
      refine ⟨.ref wa, rfl, .int n, rfl, wa, _, n, _, rfl, rfl, SqT.of (sH _ _ hw), at_of (show n = ((n.toNat : Nat) : Int) by omega) (at_goK n0 (by rw [hrow.1]; omega)), hq⟩
    · refine ⟨D, M, c, rfl, hD, by omega, fun ns p hp hmem hlen np => ?_⟩
      refine ⟨p, _, rfl, .inl ⟨SqL.of upd_same, fun t nt => ?_⟩⟩
      have e : ns = ledG many row g := by
        refine rise_same hp (ledG_good many row g).1 fun k => ?_
        rw [hmem k, hM k, mem_ledG hrow gg.2, List.mem_map]
      rw [e] at nt ⊢
      have s2 := sH.trans (same_new (o := .lst ((ledG many row g).map V.int)) np)
      exact q t _ (s2.trans (same_new nt)) (s2.free nt) upd_same
end
/-! ### all groups to which rows lead: the mathematics -/
abbrev GR := List Int × List Int
def keysG (l : List GR) : List (List Int) := l.map (·.1)
def addG (l : List GR) (g r : List Int) : List GR := if g ∈ keysG l then l else l ++ [(g, r)]
def rowM (ms : List Mv) (n : Nat) : List Int := (ms.getD n (0, [])).2
def visitN (many : Nat) (ms : List Mv) (g r : List Int) (l : List GR) : Nat → List GR
  | 0 => l
  | k + 1 => addG (visitN many ms g r l k) (ledG many (rowM ms k) g) (r ++ [(k : Int)])
def stepN (many : Nat) (ms : List Mv) (l : List GR) (d : Nat) : List GR := match l[d]? with
  | none => l
  | some p => visitN many ms p.1 p.2 l ms.length
def bfsN (many : Nat) (ms : List Mv) (b : List Int) : Nat → List GR
  | 0 => [(b, [])]
  | d + 1 => stepN many ms (bfsN many ms b d) d
def gf (many : Nat) (ms : List Mv) (b : List Int) : List GR := bfsN many ms b 64
/-- what stood stands, at its place -/
def Pre (l l' : List GR) : Prop := ∃ t, l' = l ++ t
theorem Pre.refl (l : List GR) : Pre l l := ⟨[], (List.append_nil l).symm⟩
theorem Pre.trans {a b c : List GR} (h : Pre a b) (k : Pre b c) : Pre a c := by
  obtain ⟨t, rfl⟩ := h
  obtain ⟨u, rfl⟩ := k
  exact ⟨t ++ u, by rw [List.append_assoc]⟩
theorem Pre.at {a b : List GR} (h : Pre a b) {i : Nat} {p : GR} (e : a[i]? = some p) : b[i]? = some p := by
  obtain ⟨t, rfl⟩ := h
  obtain ⟨lt, _⟩ := List.getElem?_eq_some_iff.mp e
  rw [List.getElem?_append_left lt]
  exact e
theorem Pre.len {a b : List GR} (h : Pre a b) : a.length ≤ b.length := by
  obtain ⟨t, rfl⟩ := h
  rw [List.length_append]
  omega
theorem Pre.keys {a b : List GR} (h : Pre a b) {g : List Int} (m : g ∈ keysG a) : g ∈ keysG b := by
  obtain ⟨t, rfl⟩ := h
  unfold keysG at *
  rw [List.map_append]
  exact List.mem_append.mpr (.inl m)
theorem addG_pre (l : List GR) (g r : List Int) : Pre l (addG l g r) := by
  unfold addG
  split
  · exact Pre.refl l
  · exact ⟨_, rfl⟩
theorem addG_mem (l : List GR) (g r : List Int) : g ∈ keysG (addG l g r) := by
  unfold addG
  split
  · assumption
  · unfold keysG
    rw [List.map_append]
    exact List.mem_append.mpr (.inr List.mem_cons_self)
theorem visitN_pre (many : Nat) (ms : List Mv) (g r : List Int) (l : List GR) : ∀ k, Pre l (visitN many ms g r l k)
  | 0 => Pre.refl l
  | k + 1 => (visitN_pre many ms g r l k).trans (addG_pre _ _ _)
theorem stepN_pre (many : Nat) (ms : List Mv) (l : List GR) (d : Nat) : Pre l (stepN many ms l d) := by
  unfold stepN
  split
  · exact Pre.refl l
  · exact visitN_pre _ _ _ _ _ _
theorem bfsN_pre (many : Nat) (ms : List Mv) (b : List Int) (d : Nat) : ∀ e, Pre (bfsN many ms b d) (bfsN many ms b (d + e))
  | 0 => Pre.refl _
  | e + 1 => (bfsN_pre many ms b d e).trans (stepN_pre _ _ _ _)
/-- a property of all that is found -/
theorem addG_all {F : GR → Prop} {l : List GR} {g r : List Int} (h : ∀ p ∈ l, F p) (n : F (g, r)) : ∀ p ∈ addG l g r, F p := by
  unfold addG
  split
  · exact h
  · intro p hp
    rcases List.mem_append.mp hp with hp | hp
    · exact h p hp
    · rw [List.mem_singleton.mp hp]
      exact n
theorem visitN_all {F : GR → Prop} {many : Nat} {ms : List Mv} {g r : List Int} {l : List GR} (h : ∀ p ∈ l, F p) (n : ∀ k, k < ms.length → F (ledG many (rowM ms k) g, r ++ [(k : Int)])) : ∀ k, k ≤ ms.length → ∀ p ∈ visitN many ms g r l k, F p
  | 0, _ => h
  | k + 1, hk => addG_all (visitN_all h n k (by omega)) (n k (by omega))
theorem bfsN_all {F : GR → Prop} {many : Nat} {ms : List Mv} {b : List Int} (h0 : F (b, [])) (n : ∀ p k, F p → k < ms.length → F (ledG many (rowM ms k) p.1, p.2 ++ [(k : Int)])) : ∀ d, ∀ p ∈ bfsN many ms b d, F p
  | 0 => fun p hp => by rw [List.mem_singleton.mp hp]; exact h0
  | d + 1 => by
    have ih := bfsN_all h0 n d
    show ∀ p ∈ stepN many ms (bfsN many ms b d) d, F p
    unfold stepN
    split
    · exact ih
    · rename_i q hq
      exact visitN_all ih (fun k hk => n q k (ih q (List.mem_of_getElem? hq)) hk) _ (Nat.le_refl _)
theorem addG_nodup {l : List GR} {g r : List Int} (h : (keysG l).Nodup) : (keysG (addG l g r)).Nodup := by
  unfold addG
  split
  · exact h
  · rename_i n
    unfold keysG at *
    rw [List.map_append]
    refine List.nodup_append.mpr ⟨h, by simp, fun a ha c hc => ?_⟩
    rw [List.mem_singleton.mp hc]
    intro e
    subst e
    exact n ha
theorem visitN_nodup {many : Nat} {ms : List Mv} {g r : List Int} {l : List GR} (h : (keysG l).Nodup) : ∀ k, (keysG (visitN many ms g r l k)).Nodup
  | 0 => h
  | k + 1 => addG_nodup (visitN_nodup h k)
theorem bfsN_nodup (many : Nat) (ms : List Mv) (b : List Int) : ∀ d, (keysG (bfsN many ms b d)).Nodup
  | 0 => by simp [bfsN, keysG]
  | d + 1 => by
    have ih := bfsN_nodup many ms b d
    show (keysG (stepN many ms (bfsN many ms b d) d)).Nodup
    unfold stepN
    split
    · exact ih
    · exact visitN_nodup ih _
theorem bfsN_good {many : Nat} {ms : List Mv} {b : List Int} (hb : goodG many b) (d : Nat) : ∀ p ∈ bfsN many ms b d, goodG many p.1 :=
  bfsN_all (F := fun p => goodG many p.1) hb (fun _ _ _ _ => ledG_good _ _ _) d
/-! how many there may be -/
def subs : List Int → List (List Int)
  | [] => [[]]
  | x :: xs => subs xs ++ (subs xs).map (x :: ·)
theorem subs_len : ∀ xs : List Int, (subs xs).length = 2 ^ xs.length
  | [] => rfl
  | x :: xs => by
    show (subs xs ++ (subs xs).map (x :: ·)).length = _
    rw [List.length_append, List.length_map, subs_len xs, List.length_cons, Nat.pow_succ]
    omega
theorem mem_subs : ∀ {xs g : List Int}, xs.Pairwise (· < ·) → g.Pairwise (· < ·) → (∀ k ∈ g, k ∈ xs) → g ∈ subs xs
  | [], g, _, _, h => by
    cases g with
    | nil => exact List.mem_cons_self
    | cons a r => exact absurd (h a List.mem_cons_self) (by simp)
  | x :: xs, g, hx, hg, h => by
    obtain ⟨x1, x2⟩ := List.pairwise_cons.mp hx
    show g ∈ subs xs ++ (subs xs).map (x :: ·)
    cases g with
    | nil => exact List.mem_append.mpr (.inl (mem_subs x2 .nil fun k hk => nomatch hk))
    | cons a r =>
      obtain ⟨a1, a2⟩ := List.pairwise_cons.mp hg
      by_cases e : a = x
      · subst e
        refine List.mem_append.mpr (.inr (List.mem_map.mpr ⟨r, mem_subs x2 a2 fun k hk => ?_, rfl⟩))
        rcases List.mem_cons.mp (h k (List.mem_cons_of_mem _ hk)) with z | z
        · have := a1 k hk
          omega
        · exact z
      · refine List.mem_append.mpr (.inl (mem_subs x2 hg fun k hk => ?_))
        have ha : a ∈ xs := (List.mem_cons.mp (h a List.mem_cons_self)).resolve_left e
        rcases List.mem_cons.mp (h k hk) with z | z
        · have := x1 a ha
          rcases List.mem_cons.mp hk with w | w
          · exact absurd (w.symm.trans z) e
          · have := a1 k w
            omega
        · exact z
theorem pigeon {α : Type} [DecidableEq α] : ∀ {l m : List α}, l.Nodup → (∀ x ∈ l, x ∈ m) → l.length ≤ m.length
  | [], _, _, _ => Nat.zero_le _
  | x :: l, m, hn, h => by
    obtain ⟨n1, n2⟩ := List.nodup_cons.mp hn
    have hx := h x List.mem_cons_self
    have ih := pigeon (m := m.erase x) n2 fun y hy => (List.mem_erase_of_ne (fun e => n1 (by rw [← e]; exact hy))).mpr (h y (List.mem_cons_of_mem _ hy))
    rw [List.length_erase_of_mem hx] at ih
    have : 0 < m.length := List.length_pos_of_mem hx
    rw [List.length_cons]
    omega
theorem bfsN_len {many : Nat} {ms : List Mv} {b : List Int} (hb : goodG many b) (m6 : many ≤ 6) (d : Nat) : (bfsN many ms b d).length ≤ 64 := by
  have h := pigeon (m := subs (ids many)) (bfsN_nodup many ms b d) fun g hg => by
    obtain ⟨p, hp, rfl⟩ := List.mem_map.mp hg
    obtain ⟨g1, g2⟩ := bfsN_good hb d p hp
    exact mem_subs (ids_pair many) g1 fun k hk => mem_ids.mpr (g2 k hk)
  rw [subs_len] at h
  unfold keysG at h
  rw [List.length_map] at h
  have e : (ids many).length = many := by
    unfold ids
    rw [List.length_map, List.length_range]
  rw [e] at h
  exact Nat.le_trans h (Nat.pow_le_pow_right (n := 2) (by decide) m6)
/-- once all are done there is no more -/
theorem bfsN_end {many : Nat} {ms : List Mv} {b : List Int} {d : Nat} (h : (bfsN many ms b d).length ≤ d) : ∀ e, bfsN many ms b (d + e) = bfsN many ms b d
  | 0 => rfl
  | e + 1 => by
    have ih := bfsN_end h e
    show stepN many ms (bfsN many ms b (d + e)) (d + e) = _
    rw [ih]
    unfold stepN
    rw [List.getElem?_eq_none_iff.mpr (by omega)]
theorem bfsN_gf {many : Nat} {ms : List Mv} {b : List Int} {d : Nat} (h : (bfsN many ms b d).length ≤ d) (d64 : d ≤ 64) : bfsN many ms b d = gf many ms b := by
  have := bfsN_end h (64 - d)
  rw [show d + (64 - d) = 64 by omega] at this
  exact this.symm
theorem visitN_mem {many : Nat} {ms : List Mv} {g r : List Int} {l : List GR} : ∀ {k n : Nat}, n < k → ledG many (rowM ms n) g ∈ keysG (visitN many ms g r l k)
  | k + 1, n, h => by
    by_cases e : n = k
    · subst e
      exact addG_mem _ _ _
    · exact (addG_pre _ _ _).keys (visitN_mem (k := k) (by omega))
theorem bfsN_done {many : Nat} {ms : List Mv} {b : List Int} : ∀ (d : Nat) {i : Nat} {p : GR}, i < d → (bfsN many ms b d)[i]? = some p → ∀ n, n < ms.length → ledG many (rowM ms n) p.1 ∈ keysG (bfsN many ms b d)
  | d + 1, i, p, hi, e, n, hn => by
    have pre := bfsN_pre many ms b d 1
    by_cases c : i < (bfsN many ms b d).length
    · have e0 : (bfsN many ms b d)[i]? = some p := by
        have := pre.at (List.getElem?_eq_getElem c)
        rw [this] at e
        cases e
        exact List.getElem?_eq_getElem c
      by_cases c2 : i < d
      · exact pre.keys (bfsN_done d c2 e0 n hn)
      · have ed : i = d := by omega
        subst ed
        show _ ∈ keysG (stepN many ms (bfsN many ms b i) i)
        unfold stepN
        rw [e0]
        exact visitN_mem hn
    · exfalso
      have h : (bfsN many ms b d).length ≤ d := by omega
      have := bfsN_end h 1
      rw [this, List.getElem?_eq_none_iff.mpr (by omega)] at e
      cases e
theorem gf_len {many : Nat} {ms : List Mv} {b : List Int} (hb : goodG many b) (m6 : many ≤ 6) : (gf many ms b).length ≤ 64 := bfsN_len hb m6 64
/-- all is closed under moves -/
theorem gf_closed {many : Nat} {ms : List Mv} {b : List Int} (hb : goodG many b) (m6 : many ≤ 6) {g : List Int} (hg : g ∈ keysG (gf many ms b)) {n : Nat} (hn : n < ms.length) : ledG many (rowM ms n) g ∈ keysG (gf many ms b) := by
  obtain ⟨p, hp, rfl⟩ := List.mem_map.mp hg
  obtain ⟨i, hi, e⟩ := List.getElem_of_mem hp
  have := gf_len (ms := ms) hb m6
  exact bfsN_done 64 (i := i) (p := p) (by omega) (by rw [← e]; exact List.getElem?_eq_getElem hi) n hn
theorem gf_begin {many : Nat} {ms : List Mv} {b : List Int} : (gf many ms b)[0]? = some (b, []) := by
  have := (bfsN_pre many ms b 0 64).at (i := 0) (p := (b, [])) rfl
  rw [Nat.zero_add] at this
  exact this
theorem bfsN_rowlen {many : Nat} {ms : List Mv} {b : List Int} : ∀ d, ∀ p ∈ bfsN many ms b d, p.2.length ≤ d
  | 0 => fun p hp => by rw [List.mem_singleton.mp hp]; exact Nat.le_refl _
  | d + 1 => by
    have ih := bfsN_rowlen (many := many) (ms := ms) (b := b) d
    show ∀ p ∈ stepN many ms (bfsN many ms b d) d, p.2.length ≤ d + 1
    unfold stepN
    split
    · exact fun p hp => Nat.le_succ_of_le (ih p hp)
    · rename_i q hq
      refine visitN_all (F := fun p => p.2.length ≤ d + 1) (fun p hp => Nat.le_succ_of_le (ih p hp)) (fun k _ => ?_) _ (Nat.le_refl _)
      have := ih q (List.mem_of_getElem? hq)
      show (q.2 ++ [(k : Int)]).length ≤ d + 1
      rw [List.length_append]
      show q.2.length + 1 ≤ d + 1
      omega
theorem snocInd {α : Type} {F : List α → Prop} (h0 : F []) (h : ∀ l x, F l → F (l ++ [x])) (l : List α) : F l := by
  have : ∀ n (l : List α), l.length = n → F l := by
    intro n
    induction n with
    | zero =>
      intro l hl
      rw [List.eq_nil_of_length_eq_zero hl]
      exact h0
    | succ n ih =>
      intro l hl
      have ne : l ≠ [] := fun e => by rw [e] at hl; cases hl
      rw [← List.dropLast_concat_getLast ne]
      exact h _ _ (ih _ (by rw [List.length_dropLast]; omega))
  exact this l.length l rfl
/-- where a row leads a group -/
def runG (many : Nat) (ms : List Mv) (b : List Int) (r : List Int) : List Int := r.foldl (fun g n => ledG many (rowM ms n.toNat) g) b
theorem runG_snoc (many : Nat) (ms : List Mv) (b r : List Int) (n : Int) : runG many ms b (r ++ [n]) = ledG many (rowM ms n.toNat) (runG many ms b r) := by
  unfold runG
  rw [List.foldl_append]
  rfl
theorem gf_row {many : Nat} {ms : List Mv} {b : List Int} : ∀ p ∈ gf many ms b, runG many ms b p.2 = p.1 ∧ ∀ n ∈ p.2, 0 ≤ n ∧ n < (ms.length : Int) :=
  bfsN_all (F := fun p => runG many ms b p.2 = p.1 ∧ ∀ n ∈ p.2, 0 ≤ n ∧ n < (ms.length : Int)) ⟨rfl, fun _ h => nomatch h⟩ (fun p k h hk => by
    refine ⟨?_, fun n hn => ?_⟩
    · show runG many ms b (p.2 ++ [(k : Int)]) = _
      rw [runG_snoc, h.1]
      rfl
    · rcases List.mem_append.mp hn with hn | hn
      · exact h.2 n hn
      · rw [List.mem_singleton.mp hn]
        omega) 64
theorem gf_run {many : Nat} {ms : List Mv} {b : List Int} (hb : goodG many b) (m6 : many ≤ 6) : ∀ {r : List Int}, (∀ n ∈ r, 0 ≤ n ∧ n < (ms.length : Int)) → runG many ms b r ∈ keysG (gf many ms b) := by
  intro r
  refine snocInd (F := fun r => (∀ n ∈ r, 0 ≤ n ∧ n < (ms.length : Int)) → runG many ms b r ∈ keysG (gf many ms b)) ?_ ?_ r
  · intro _
    exact List.mem_map.mpr ⟨_, List.mem_of_getElem? gf_begin, rfl⟩
  · intro r n ih h
    rw [runG_snoc]
    have hn := h n (List.mem_append.mpr (.inr List.mem_cons_self))
    exact gf_closed hb m6 (ih fun z hz => h z (List.mem_append.mpr (.inl hz))) (by omega)
section
variable {P : Program} {w : World} {K : PySem.W.Frag} {mg : Str → Option Value} {base : Heap}
/-! ### groups_from -/
/-- a dict of groups and rows -/
abbrev KvAt (H : Hp) : List Key × V → GR → Prop := fun kv p => kv.1 = p.1.map Sum.inl ∧ ∃ a, kv.2 = .ref a ∧ H a = some (.lst (p.2.map V.int))
def GfAt (H : Hp) (D : Addr) (l : List GR) : Prop := ∃ kvs, H D = some (.dT kvs) ∧ Paired (KvAt H) kvs l
/-- a list of groups, as tuples -/
def GrpsAt (H : Hp) (vs : List V) (l : List GR) : Prop := Paired (fun v (p : GR) => ∃ a, v = V.ref a ∧ H a = some (.tup (p.1.map V.int))) vs l
theorem key_ints (g : List Int) : (g.map (Sum.inl (β := Str))).map kV = g.map V.int := by
  rw [List.map_map]
  rfl
theorem key_inj {g k : List Int} (h : g.map (Sum.inl (β := Str)) = k.map Sum.inl) : g = k := by
  have : ∀ {g k : List Int}, g.map (Sum.inl (β := Str)) = k.map Sum.inl → g = k := by
    intro g
    induction g with
    | nil =>
      intro k e
      cases k with
      | nil => rfl
      | cons a r => cases e
    | cons a r ih =>
      intro k e
      cases k with
      | nil => cases e
      | cons b t =>
        rw [List.map_cons, List.map_cons] at e
        injection e with e1 e2
        injection e1 with e1
        rw [e1, ih e2]
  exact this h
theorem val_none {H : Hp} {g : List Int} : ∀ {kvs : List (List Key × V)} {l : List GR}, Paired (KvAt H) kvs l → g ∉ keysG l → valV kvs (g.map Sum.inl) = none
  | _, _, .nil, _ => rfl
  | _, _, .cons (a := kv) (b := p) h t, n => by
    have n1 : ¬ g = p.1 := fun e => n (by rw [e]; exact List.mem_cons_self)
    rw [valV_neg (fun e => n1 (key_inj (e.symm.trans h.1)))]
    exact val_none t fun m => n (List.mem_cons_of_mem _ m)
theorem val_some {H : Hp} : ∀ {kvs : List (List Key × V)} {l : List GR} {p : GR}, Paired (KvAt H) kvs l → (keysG l).Nodup → p ∈ l → ∃ a, valV kvs (p.1.map Sum.inl) = some (.ref a) ∧ H a = some (.lst (p.2.map V.int))
  | _, _, p, .nil, _, m => nomatch m
  | _, _, p, .cons (a := kv) (b := q) h t, nd, m => by
    obtain ⟨n1, n2⟩ := List.nodup_cons.mp (show (q.1 :: keysG _).Nodup from nd)
    rcases List.mem_cons.mp m with e | m
    · subst e
      obtain ⟨h1, a, h2, h3⟩ := h
      exact ⟨a, by rw [valV_pos h1, h2], h3⟩
    · have ne : ¬ kv.1 = p.1.map Sum.inl := fun e => n1 (by
        rw [key_inj (h.1.symm.trans e)]
        exact List.mem_map.mpr ⟨p, m, rfl⟩)
      rw [valV_neg ne]
      exact val_some t n2 m
theorem key_dec {l : List GR} {g : List Int} {H : Hp} {kvs : List (List Key × V)} (h : Paired (KvAt H) kvs l) : (valV kvs (g.map Sum.inl)).isSome = decide (g ∈ keysG l) := by
  by_cases m : g ∈ keysG l
  · rw [decide_eq_true m, ← valV_any]
    obtain ⟨p, hp, e⟩ := List.mem_map.mp m
    have : ∀ {kvs : List (List Key × V)} {l : List GR}, Paired (KvAt H) kvs l → p ∈ l → (kvs.any fun kv => decide (kv.1 = g.map Sum.inl)) = true := by
      intro kvs l h
      induction h with
      | nil => intro m; cases m
      | @cons kv q ks qs hk t ih =>
        intro m
        rw [List.any_cons]
        rcases List.mem_cons.mp m with e2 | m
        · subst e2
          rw [decide_eq_true (show kv.1 = g.map Sum.inl by rw [hk.1, e]), Bool.true_or]
        · rw [ih m, Bool.or_true]
    exact this h hp
  · rw [decide_eq_false m, val_none h m]
    rfl
theorem GfAt.same {H H' : Hp} {D : Addr} {l : List GR} (s : Same H H') (h : GfAt H D l) : GfAt H' D l := by
  obtain ⟨kvs, e, p⟩ := h
  exact ⟨kvs, s _ _ e, L2.Paired.mapP p fun kv q ⟨h1, a, h2, h3⟩ => ⟨h1, a, h2, s _ _ h3⟩⟩
theorem GrpsAt.same {H H' : Hp} {vs : List V} {l : List GR} (s : ∀ b xs, H b = some (.tup xs) → H' b = some (.tup xs)) (h : GrpsAt H vs l) : GrpsAt H' vs l :=
  L2.Paired.mapP h fun v q ⟨a, h2, h3⟩ => ⟨a, h2, s _ _ h3⟩
theorem GrpsAt.snoc {H : Hp} {vs : List V} {l : List GR} {a : Addr} {g r : List Int} (h : GrpsAt H vs l) (e : H a = some (.tup (g.map V.int))) : GrpsAt H (vs ++ [.ref a]) (l ++ [(g, r)]) := paired_end (F := fun v (p : GR) => ∃ a, v = V.ref a ∧ H a = some (.tup (p.1.map V.int))) (b := (g, r)) ⟨a, rfl, e⟩ h
theorem ints_no_ref {ns : List Int} {i : Nat} {a : Addr} (h : (ns.map V.int)[i]? = some (.ref a)) : False := by
  rw [List.getElem?_map] at h
  obtain ⟨n, _, e⟩ := Option.map_eq_some_iff.mp h
  cases e
/-- D and F are other things -/
def Gr0 (D F : Addr) (H H' : Hp) : Prop := ∀ b o, b ≠ D → b ≠ F → H b = some o → H' b = some o
theorem scGf : FnScope ["moves", "begin", "rows", "found", "done", "row", "number", "_", "whither", "group"] ["moves", "begin"] (defScope sGroupsFrom) := ⟨rfl, rfl, rfl, by decide +kernel, rfl, by decide +kernel, by decide +kernel⟩
def spGf : Sp := fun vs H Q _ => ∃ (m ba : Addr) (many : Nat) (ws : List V) (ms : List Mv) (b : List Int), vs = [.ref m, .ref ba] ∧ H m = some (.lst ws) ∧ MovesAt H ws ms ∧ (∀ mv ∈ ms, GoodMv many mv) ∧ ms.length ≤ 8 ∧ many ≤ 6 ∧ H ba = some (.tup (b.map V.int)) ∧ goodG many b ∧
  ∀ D H', Same H H' → H D = none → GfAt H' D (gf many ms b) → Q (.ref D) H'
/-- the rows in it are new -/
def FrK (H : Hp) (kvs : List (List Key × V)) : Prop := ∀ kv ∈ kvs, ∀ a, kv.2 = V.ref a → H a = none
theorem FrK.snoc {H : Hp} {kvs : List (List Key × V)} {k : List Key} {a : Addr} (h : FrK H kvs) (n : H a = none) : FrK H (kvs ++ [(k, V.ref a)]) := fun kv hk b e => by
  rcases List.mem_append.mp hk with hk | hk
  · exact h kv hk b e
  · rw [List.mem_singleton.mp hk] at e
    cases e
    exact n
def spGfF : Sp := fun vs H Q _ => ∃ (m ba : Addr) (many : Nat) (ws : List V) (ms : List Mv) (b : List Int), vs = [.ref m, .ref ba] ∧ H m = some (.lst ws) ∧ MovesAt H ws ms ∧ (∀ mv ∈ ms, GoodMv many mv) ∧ ms.length ≤ 8 ∧ many ≤ 6 ∧ H ba = some (.tup (b.map V.int)) ∧ goodG many b ∧
  ∀ D H' kvs, Same H H' → H D = none → H' D = some (.dT kvs) → Paired (KvAt H') kvs (gf many ms b) → FrK H kvs → Q (.ref D) H'
/-- the state of the search: the dict at D, the list at F, both of what is found -/
def Sea (H H' : Hp) (D F : Addr) (l : List GR) : Prop := Same H H' ∧ ∃ kvs fs, H' D = some (.dT kvs) ∧ H' F = some (.lst fs) ∧ Paired (KvAt H') kvs l ∧ GrpsAt H' fs l ∧ FrK H kvs
theorem rowM_at {ms : List Mv} {n : Nat} {m : Mv} (h : ms[n]? = some m) : rowM ms n = m.2 := by
  unfold rowM
  rw [List.getD_eq_getElem?_getD, h]
  rfl
theorem ok_gfF {f fL : Addr} {fd fdL : FuncData} (F : Fun K "groups_from" "groups_from" sGroupsFrom f fd) (DL : Df K mg "led_to" sLedTo ["whither", "group"] fL fdL) (ml : mg "len" = none) (mE : mg "enumerate" = none) (mt : mg "tuple" = none) (ms' : mg "sorted" = none) : FnOk P w K mg base CX0 2 f fd ["moves", "begin"] spGfF := by
  have GL : FnOk P w K mg base CX0 1 fL fdL ["whither", "group"] spLed := ok_led DL.F mt ms'
  refine F.ok scGf (fun vs H Q E h => ?_) (fun cdv A outer s H vs Q E hr h => ?_)
  · obtain ⟨m, ba, many, ws, ms, b, rfl, _⟩ := h
    rfl
  · obtain ⟨m, ba, many, ws, ms, b, rfl, hm, hM, hgood, l8, m6, hb, gb, q⟩ := h
    have hu1 := hu_of hr
    refine ⟨_, (pss_cons (ps_set (i := 2) scGf.nd rfl (.inl rfl) (pe_disp1T hu1 (pps_cons (pv 1) (pe_lst pa_nil) pps_nil)))
      (pss_cons (ps_set (i := 3) scGf.nd rfl (.inl rfl) (pe_lst (pa_cons (pv 1) pa_nil)))
      (pss_cons (ps_set (i := 4) scGf.nd rfl (.inl rfl) pe_int)
      (pss_cons (ps_while PassesOwn.never (pt_cmpR op_lt (pv 4) (pe_callB call_len_seq (by rfl) ml PySem.boot_len (pa_cons (pv 3) pa_nil)) (nomark _)) (pss_cons (ps_set (i := 5) scGf.nd rfl (.inl rfl) (pe_dget (hu1) (pv 2) (pe_ix ix_list (pv 3) (pv 4) (fun _ _ => rfl)) (fun _ _ => rfl)))
      (pss_cons (ps_for PassesOwn.never rfl (pi_enum (by rfl) mE (pa_cons (pv 0) pa_nil)) (pg_tup rfl (pgs_cons (pg_name (i := 6) scGf.nd rfl (.inl rfl)) (pgs_cons (pg_tup rfl (pgs_cons (pg_name (i := 7) scGf.nd rfl (.inl rfl)) (pgs_cons (pg_name (i := 8) scGf.nd rfl (.inl rfl)) pgs_nil))) pgs_nil))) (pss_cons (ps_set (i := 9) scGf.nd rfl (.inl rfl) (pe_call GL hr (by rfl) DL.g DL.F.kp DL.b .nil pass0 (pa_cons (pv 8) (pa_cons (pe_ix ix_list (pv 3) (pv 4) (fun _ _ => rfl)) pa_nil))))
      (pss_one (ps_if (pt_cmp (pc_dnotin (hu1) (pv 9) (pv 2))) (pss_cons (ps_dput (hu1) (pv 2) (pv 9) (pe_op op_cat (pv 5) (pe_lst (pa_cons (pv 6) pa_nil))) rfl)
      (pss_one (ps_expr (pe_bm PySem.F.plainAttrs_list PySem.F.slot_list_append PySem.F.type_list_append mt_append (pv 3) (pa_cons (pv 9) pa_nil))))) pss_nil))))
      (pss_one (ps_aug (i := 4) scGf.nd rfl (.inl rfl) pe_int ip_add)))))
      (pss_one (ps_ret (pv 2))))))), ?_⟩
    have lenW := hM.length
    -- rows = {begin: []}
    refine fun D nD => ?_
    have s1 : Same H (upd H D (.dT [])) := same_new nD
    refine ⟨.ref ba, rfl, Nat.zero_le _, fun r0 nr0 => ?_⟩
    have hD1 : (upd (upd H D (.dT [])) r0 (.lst [])) D = some (.dT []) := same_new nr0 _ _ upd_same
    refine ⟨hD1, ba, b.map Sum.inl, .ref r0, rfl, by rw [key_ints]; exact same_new nr0 _ _ (s1 _ _ hb), ?_⟩
    have s2 : Same H (upd (upd (upd H D (.dT [])) r0 (.lst [])) D (.dT [(b.map Sum.inl, .ref r0)])) := Same.put (s1.trans (same_new nr0)) nD
    have hD2 : (upd (upd (upd H D (.dT [])) r0 (.lst [])) D (.dT [(b.map Sum.inl, .ref r0)])) D = some (.dT [(b.map Sum.inl, .ref r0)]) := upd_same
    have nr0D : r0 ≠ D := (ne_of_none upd_same nr0).symm
    have hr2 : (upd (upd (upd H D (.dT [])) r0 (.lst [])) D (.dT [(b.map Sum.inl, .ref r0)])) r0 = some (.lst []) := by
      rw [upd_ne nr0D]
      exact upd_same
    generalize upd (upd (upd H D (.dT [])) r0 (.lst [])) D (.dT [(b.map Sum.inl, .ref r0)]) = H2 at s2 hD2 hr2 ⊢
    -- found = [begin]
    refine ⟨.ref ba, rfl, (by show 1 ≤ sizeLine; decide), fun F' nF => ?_⟩
    have nF0 := s2.free nF
    have nDF : D ≠ F' := ne_of_none hD2 nF
    have sea0 : Sea H (upd H2 F' (.lst [.ref ba])) D F' (bfsN many ms b 0) := ⟨s2.trans (same_new nF), _, _, same_new nF _ _ hD2, upd_same, .cons ⟨rfl, r0, rfl, same_new nF _ _ hr2⟩ .nil, .cons ⟨ba, rfl, same_new nF _ _ (s2 _ _ hb)⟩ .nil, fun kv hk a e => by
      obtain rfl := List.mem_singleton.mp hk
      cases e
      exact (s1.free nr0)⟩
    generalize upd H2 F' (.lst [.ref ba]) = H3 at sea0 ⊢
    have lenB := bfsN_len (ms := ms) gb m6
    refine while_by (fun σ H' => ∃ (d : Nat) (y5 y6 y7 y8 y9 : Option V), σ = [some (.ref m), some (.ref ba), some (.ref D), some (.ref F'), some (.int (d : Int)), y5, y6, y7, y8, y9] ∧ d ≤ (bfsN many ms b d).length ∧ Sea H H' D F' (bfsN many ms b d))
      (fun σ _ => match σ with | [_, _, _, _, some (.int d), _, _, _, _, _] => 65 - d.toNat | _ => 0) ⟨0, none, none, none, none, none, rfl, Nat.zero_le _, sea0⟩ ?_ ?_
    · rintro σ H4 ⟨d, y5, y6, y7, y8, y9, rfl, hd, sea⟩
      obtain ⟨s4, kvs, fs, hD4, hF4, pk, pf, fk⟩ := id sea
      have lenF : fs.length = (bfsN many ms b d).length := pf.length
      refine ⟨.int (d : Int), rfl, .ref F', rfl, F', _, rfl, .inl (SqL.of hF4), _, _, rfl, rfl, _, rfl, ite2 (fun c => ?_) (fun c => ?_)⟩
      · have lt : d < (bfsN many ms b d).length := by
          have h1 : (d : Int) < ((fs.length : Nat) : Int) := of_decide_eq_true c
          omega
        have ep := List.getElem?_eq_getElem lt
        obtain ⟨p, ep'⟩ : ∃ p, (bfsN many ms b d)[d]? = some p := ⟨_, ep⟩
        have hp := List.mem_of_getElem? ep'
        obtain ⟨v, ev, ga, rfl, hga⟩ := paired_get (F := fun v (p : GR) => ∃ a, v = V.ref a ∧ H4 a = some (.tup (p.1.map V.int))) pf ep'
        obtain ⟨ra, hval, hra⟩ := val_some pk (bfsN_nodup many ms b d) hp
        have gp := bfsN_good (ms := ms) gb d p hp
        -- row = rows[found[done]]
        refine ⟨.ref D, rfl, .ref F', rfl, .int (d : Int), rfl, F', _, _, _, rfl, rfl, SqL.of hF4, atI_nat ev, D, .ref ra, rfl, by rw [← hval]; exact DGet.t hD4 (by rw [key_ints]; exact hga), ?_⟩
        have hm4 := s4 _ _ hm
        refine ⟨.ref m, rfl, m, ws, rfl, SqL.of hm4, for_it (walk_enum (K := K) (a := m) (xs := ws)) (fun k σ H' => ∃ y6 y7 y8 y9, σ = [some (.ref m), some (.ref ba), some (.ref D), some (.ref F'), some (.int (d : Int)), some (.ref ra), y6, y7, y8, y9] ∧ Sea H H' D F' (visitN many ms p.1 p.2 (bfsN many ms b d) k) ∧ H' ra = some (.lst (p.2.map V.int)) ∧ H' ga = some (.tup (p.1.map V.int)) ∧ ∃ fs', H' F' = some (.lst fs') ∧ fs'[d]? = some (.ref ga))
          ⟨y6, y7, y8, y9, rfl, sea, hra, hga, fs, hF4, ev⟩ (fun k σ H' hk ⟨_, _, _, _, _, ⟨s, _⟩, _⟩ => SqL.of (s _ _ hm)) ?_ ?_⟩
        · rintro k z σ H5 H6 hk ⟨y6, y7, y8, y9, rfl, sea5, hra5, hga5, fs5, hF5, ev5⟩ ⟨Tp, u, v, rfl, nT, rfl, eu, ewk⟩
          obtain ⟨mv, emv, hmv⟩ := hM.get' ewk
          have eu' : u = .int (k : Int) := (Option.some.inj eu).symm
          subst eu'
          have hk8 : k < ms.length := by omega
          obtain ⟨s5, kvs5, fs5', hD5, hF5', pk5, pf5, fk5⟩ := sea5
          have efs : fs5' = fs5 := by
            rw [hF5] at hF5'
            cases hF5'
            rfl
          subst efs
          have sT := same_new (o := .tup [.int (k : Int), v]) nT
          obtain ⟨ta, tb, rfl, hta, htb⟩ := hmv.same (Same.tups (s5.trans sT))
          have s5T := s5.trans sT
          refine ⟨Tp, [.int (k : Int), .ref ta], rfl, SqT.of upd_same, rfl, .int (k : Int), [.ref ta], rfl, .ref ta, [], rfl, ?_⟩
          refine ⟨ta, [.int mv.1, .ref tb], rfl, SqT.of hta, rfl, .int mv.1, [.ref tb], rfl, .ref tb, [], rfl, rfl, rfl, ?_⟩
          -- group = led_to(whither, found[done])
          have gm := hgood mv (List.mem_of_getElem? emv)
          refine ⟨.ref tb, rfl, .ref F', rfl, .int (d : Int), rfl, F', _, _, _, rfl, rfl, SqL.of (sT _ _ hF5), atI_nat ev5, ?_⟩
          refine ⟨tb, ga, many, mv.2, p.1, rfl, htb, sT _ _ hga5, m6, gm.2.2, gp, fun g7 H7 s7 ng7 hg7 => ?_⟩
          have sT7 := sT.trans s7
          have hD7 := sT7 _ _ hD5
          have hF7 := sT7 _ _ hF5
          have pk7 : Paired (KvAt H7) kvs5 _ := L2.Paired.mapP pk5 fun kv q ⟨h1, a, h2, h3⟩ => ⟨h1, a, h2, sT7 _ _ h3⟩
          have pf7 := GrpsAt.same (Same.tups sT7) pf5
          have erow : rowM ms k = mv.2 := rowM_at emv
          have evis : visitN many ms p.1 p.2 (bfsN many ms b d) (k + 1) = addG (visitN many ms p.1 p.2 (bfsN many ms b d) k) (ledG many mv.2 p.1) (p.2 ++ [(k : Int)]) := by
            show addG _ (ledG many (rowM ms k) p.1) _ = _
            rw [erow]
          have hra7 := sT7 _ _ hra5
          have hga7 := sT7 _ _ hga5
          have s07 := s5.trans sT7
          refine ⟨.ref g7, rfl, .ref D, rfl, D, _, rfl, DGet.t hD7 (by rw [key_ints]; exact hg7), ?_⟩
          rw [key_dec pk7]
          refine ⟨_, rfl, ite2 (fun c => ?_) (fun c => ?_)⟩
          · -- a new group
            have nm : ledG many mv.2 p.1 ∉ keysG (visitN many ms p.1 p.2 (bfsN many ms b d) k) := fun mem => by
              rw [decide_eq_true mem] at c
              cases c
            have lenK : kvs5.length ≤ 64 := by
              rw [pk5.length]
              have h1 := (visitN_pre many ms p.1 p.2 (bfsN many ms b d) k)
              have : Pre (visitN many ms p.1 p.2 (bfsN many ms b d) k) (visitN many ms p.1 p.2 (bfsN many ms b d) ms.length) := by
                have : ∀ j, Pre (visitN many ms p.1 p.2 (bfsN many ms b d) k) (visitN many ms p.1 p.2 (bfsN many ms b d) (k + j)) := by
                  intro j
                  induction j with
                  | zero => exact Pre.refl _
                  | succ j ih => exact ih.trans (addG_pre _ _ _)
                have h2 := this (ms.length - k)
                rw [show k + (ms.length - k) = ms.length by omega] at h2
                exact h2
              have h3 := this.len
              have h4 : bfsN many ms b (d + 1) = visitN many ms p.1 p.2 (bfsN many ms b d) ms.length := by
                show stepN many ms (bfsN many ms b d) d = _
                unfold stepN
                rw [ep']
              have h5 := lenB (d + 1)
              rw [h4] at h5
              omega
            have lenF5 : fs5'.length ≤ 64 := by
              have h1 := pf5.length
              have h2 := pk5.length
              omega
            have lenR : p.2.length ≤ 64 := by
              have h1 := bfsN_rowlen d p hp
              have h2 := lenB d
              omega
            refine ⟨.ref ra, rfl, .int (k : Int), rfl, (by show 1 ≤ sizeLine; decide), fun c1 nc1 => ⟨ra, c1, _, _, rfl, rfl, same_new nc1 _ _ hra7, upd_same, le1k (by rw [List.length_map]; show p.2.length + 1 ≤ 1000; omega), fun c2 nc2 => ?_⟩⟩
            have er : p.2.map V.int ++ [V.int (k : Int)] = (p.2 ++ [(k : Int)]).map V.int := by rw [List.map_append]; rfl
            rw [er]
            have s8 := (same_new (o := .lst [.int (k : Int)]) nc1).trans (same_new (o := .lst ((p.2 ++ [(k : Int)]).map V.int)) nc2)
            have hc2 : (upd (upd H7 c1 (.lst [.int (k : Int)])) c2 (.lst ((p.2 ++ [(k : Int)]).map V.int))) c2 = some (.lst ((p.2 ++ [(k : Int)]).map V.int)) := upd_same
            generalize upd (upd H7 c1 (.lst [.int (k : Int)])) c2 (.lst ((p.2 ++ [(k : Int)]).map V.int)) = H8 at s8 hc2 ⊢
            have hD8 := s8 _ _ hD7
            have hF8 := s8 _ _ hF7
            have hg8 := s8 _ _ hg7
            refine ⟨.ref D, rfl, .ref g7, rfl, D, _, rfl, DPut.t hD8 (by rw [key_ints]; exact hg8) (lt1k (by omega)), ?_⟩
            rw [putK_new _ (val_none pk7 nm)]
            have neD : ∀ {b o}, H8 b = some o → (∀ kvs, o ≠ .dT kvs) → b ≠ D := fun e n z => by
              rw [z, hD8] at e
              exact n _ (Option.some.inj e).symm
            have hF9 : (upd H8 D (.dT (kvs5 ++ [((ledG many mv.2 p.1).map Sum.inl, .ref c2)]))) F' = some (.lst fs5') := by
              rw [upd_ne (Ne.symm nDF)]
              exact hF8
            refine ⟨.ref F', rfl, .inl ⟨rfl, _, SqL.of hF9⟩, .ref g7, rfl, F', _, _, rfl, rfl, hF9, lt1k (by omega), ?_⟩
            have k9 : ∀ b o, b ≠ D → b ≠ F' → H8 b = some o → (upd (upd H8 D (.dT (kvs5 ++ [((ledG many mv.2 p.1).map Sum.inl, .ref c2)]))) F' (.lst (fs5' ++ [.ref g7]))) b = some o := fun b o n1 n2 e => by
              rw [upd_ne n2, upd_ne n1]
              exact e
            have neF : ∀ {b xs}, H8 b = some (.tup xs) → b ≠ F' := fun e z => by
              rw [z, hF8] at e
              cases e
            have kt : ∀ b xs, H8 b = some (.tup xs) → (upd (upd H8 D (.dT (kvs5 ++ [((ledG many mv.2 p.1).map Sum.inl, .ref c2)]))) F' (.lst (fs5' ++ [.ref g7]))) b = some (.tup xs) := fun b xs e => k9 b _ (neD e fun _ z => nomatch z) (neF e) e
            have neI : ∀ {b : Addr} {ns : List Int}, H8 b = some (.lst (ns.map V.int)) → b ≠ F' := fun {b ns} e z => by
              rw [z, hF8] at e
              injection e with e
              injection e with e
              rw [e] at ev5
              exact ints_no_ref ev5
            have kl : ∀ (b : Addr) (ns : List Int), H8 b = some (.lst (ns.map V.int)) → (upd (upd H8 D (.dT (kvs5 ++ [((ledG many mv.2 p.1).map Sum.inl, .ref c2)]))) F' (.lst (fs5' ++ [.ref g7]))) b = some (.lst (ns.map V.int)) := fun b ns e => k9 b _ (neD e fun _ z => nomatch z) (neI e) e
            have e2 : visitN many ms p.1 p.2 (bfsN many ms b d) (k + 1) = visitN many ms p.1 p.2 (bfsN many ms b d) k ++ [(ledG many mv.2 p.1, p.2 ++ [(k : Int)])] := by
              rw [evis]
              unfold addG
              rw [if_neg nm]
            refine ⟨some (.int (k : Int)), some (.int mv.1), some (.ref tb), some (.ref g7), rfl, ?_, kl _ _ (s8 _ _ hra7), kt _ _ (s8 _ _ hga7), _, upd_same, ?_⟩
            · rw [e2]
              refine ⟨fun b o e => k9 b o (ne_of_none e nD) (ne_of_none e nF0) (s8 _ _ (s07 _ _ e)), kvs5 ++ [((ledG many mv.2 p.1).map Sum.inl, .ref c2)], fs5' ++ [.ref g7], ?_, upd_same, ?_, ?_, fk5.snoc (s07.free ((same_new (o := .lst [.int (k : Int)]) nc1).free nc2))⟩
              · rw [upd_ne nDF]
                exact upd_same
              · exact paired_end (F := KvAt _) ⟨rfl, c2, rfl, kl _ _ hc2⟩ (L2.Paired.mapP pk7 fun kv q ⟨h1, a, h2, h3⟩ => ⟨h1, a, h2, kl _ _ (s8 _ _ h3)⟩)
              · exact GrpsAt.snoc (GrpsAt.same (fun b xs e => kt b xs (s8 _ _ e)) pf7) (kt _ _ hg8)
            · rw [List.getElem?_append_left (by obtain ⟨h, _⟩ := List.getElem?_eq_some_iff.mp ev5; exact h)]
              exact ev5
          · -- it is there already
            have mem : ledG many mv.2 p.1 ∈ keysG (visitN many ms p.1 p.2 (bfsN many ms b d) k) := by
              by_cases mm : ledG many mv.2 p.1 ∈ keysG (visitN many ms p.1 p.2 (bfsN many ms b d) k)
              · exact mm
              · rw [decide_eq_false mm] at c
                exact absurd rfl c
            have e2 : visitN many ms p.1 p.2 (bfsN many ms b d) (k + 1) = visitN many ms p.1 p.2 (bfsN many ms b d) k := by
              rw [evis]
              unfold addG
              rw [if_pos mem]
            refine ⟨some (.int (k : Int)), some (.int mv.1), some (.ref tb), some (.ref g7), rfl, ?_, hra7, hga7, fs5', hF7, ev5⟩
            rw [e2]
            exact ⟨s07, kvs5, fs5', hD7, hF7, pk7, pf7, fk5⟩
        · rintro σ H5 ⟨y6, y7, y8, y9, rfl, sea5, _⟩
          have eb : visitN many ms p.1 p.2 (bfsN many ms b d) ws.length = bfsN many ms b (d + 1) := by
            show _ = stepN many ms (bfsN many ms b d) d
            unfold stepN
            rw [ep', lenW]
          rw [eb] at sea5
          have pl := (bfsN_pre many ms b d 1).len
          have h64 := lenB d
          refine ⟨.int (d : Int), rfl, (d : Int), 1, rfl, rfl, ⟨d + 1, some (.ref ra), y6, y7, y8, y9, rfl, ?_, sea5⟩, ?_⟩
          · omega
          · show 65 - ((d : Int) + 1).toNat < 65 - ((d : Int)).toNat
            omega
      · have ge : (bfsN many ms b d).length ≤ d := by
          have h1 : ¬ ((d : Int) < ((fs.length : Nat) : Int)) := fun z => c (decide_eq_true z)
          omega
        have h64 := lenB d
        refine ⟨.ref D, rfl, q D H4 kvs s4 nD hD4 ?_ fk⟩
        rw [← bfsN_gf ge (by omega)]
        exact pk
    · rintro σ H2 Q1 Q2 hq ⟨v, e1, u, e2, p, ys, e3, e4, i, j, e5, e6, b, e7, h⟩
      exact ⟨v, e1, u, e2, p, ys, e3, e4, i, j, e5, e6, b, e7, hq _ _ h⟩
theorem ok_gf {f fL : Addr} {fd fdL : FuncData} (F : Fun K "groups_from" "groups_from" sGroupsFrom f fd) (DL : Df K mg "led_to" sLedTo ["whither", "group"] fL fdL) (ml : mg "len" = none) (mE : mg "enumerate" = none) (mt : mg "tuple" = none) (ms' : mg "sorted" = none) : FnOk P w K mg base CX0 2 f fd ["moves", "begin"] spGf :=
  (ok_gfF F DL ml mE mt ms').imp fun vs H Q E ⟨m, ba, many, ws, ms, b, e, hm, hM, hg, l8, m6, hb, gb, q⟩ => ⟨m, ba, many, ws, ms, b, e, hm, hM, hg, l8, m6, hb, gb, fun D H' kvs s n hD pk _ => q D H' s n ⟨kvs, hD, pk⟩⟩
end
/-! ### all(r[x] == g for x in e), e a list of ints: a rule of our own -/
def eltQ (x r g : Str) (p1 p2 p3 p4 p5 : Pos) : Expr := .Compare (.Subscript (.Name r p1) (.Name x p2) p3) [.Eq] [.Name g p4] p5
theorem elt_eqix {prog : Program} {w : World} {cenv : Env} {A : Around} {E : Value → Shared → Prop} {x r g : Str} {p1 p2 p3 p4 p5 : Pos} {s : Shared} {m : Str → Option Value} {cr cg R L G : Addr} {z : Int} {t : Tok} {its : Array Value} {dL dG : PyData} {as bs : List Addr}
    (kf : cenv.scope.kind = .function) (kx : cenv.kindOf x = some .local) (kr : cenv.kindOf r = some .free) (kg : cenv.kindOf g = some .free) (hm : s.heap.Ns cenv.locals m) (ex : m x = some (.int z t))
    (lr : cenv.cells.lookup r = some cr) (er : s.heap.IsCell cr (some (.ref R))) (lg : cenv.cells.lookup g = some cg) (eg : s.heap.IsCell cg (some (.ref G))) (hR : s.heap.IsList R its) (z0 : 0 ≤ z) (z1 : z < 2 ^ 63) (hz : its[z.toNat]? = some (.ref L))
    (rL : Reads s.heap (.ref L) dL as) (rG : Reads s.heap (.ref G) dG bs) (sL : SeqAt.shaped dL = true) (sG : SeqAt.shaped dG = true) (hu : A.units + 64 < cLine)
    (dx : (x == ("__debug__" : Str)) = false) (dr : (r == ("__debug__" : Str)) = false) (kcr : (r == ("__classdict__" : Str)) = false) (dg : (g == ("__debug__" : Str)) = false) (kcg : (g == ("__classdict__" : Str)) = false) :
    wpAny (model prog w) A (eval (eltQ x r g p1 p2 p3 p4 p5) cenv) (fun v s' => v = .bool (PyData.eqv dL dG) ∧ Keeps s s') E s := by
  refine wpAny_Compare1 (Subscript_ (wpAny_Name (wpAny_loadName_free kf kr lr er ?_ kcr) dr)) (by rfl)
  refine wpAny_Name (wpAny_loadName_local kf kx hm ex ?_) dx
  refine item_listR hR z0 z1 hz ?_
  refine wpAny_Name (wpAny_loadName_free kf kg lg eg ?_ kcg) dg
  exact SeqAt.compareEq_shaped rL rG sL sG hu ⟨rfl, s.heap, s.toks, rfl, fun _ _ e => e⟩
/-- a list of ints in a heap, read -/
theorem reads_ints {h : Heap} {a : Addr} {its : List Value} {ns : List Int} (hl : h.IsList a its.toArray) (r : Vals (ns.map V.int) its) : ∃ as, Reads h (.ref a) (.list (ns.map PyData.int)) as := by
  obtain ⟨o, ho, hc, n, hd⟩ := hl
  have all : ∀ {ns : List Int} {its : List Value}, Vals (ns.map V.int) its → ∃ as, ReadsAll h its (ns.map PyData.int) as := by
    intro ns
    induction ns with
    | nil =>
      intro its r
      cases r
      exact ⟨[], .nil⟩
    | cons n ns ih =>
      intro its r
      cases r with
      | cons rn rr =>
        obtain ⟨t, rfl⟩ := rn
        obtain ⟨as, ha⟩ := ih rr
        exact ⟨[] ++ as, .cons (.int n t) ha⟩
  obtain ⟨as, ha⟩ := all r
  exact ⟨_, .list ho hc hd (by simpa using ha)⟩
theorem eqvAll_ints : ∀ (a b : List Int), PyData.eqvAll (a.map PyData.int) (b.map PyData.int) = decide (a = b)
  | [], [] => by simp [PyData.eqvAll]
  | [], y :: ys => by simp [PyData.eqvAll]
  | x :: xs, [] => by simp [PyData.eqvAll]
  | x :: xs, y :: ys => by
    show ((x == y) && PyData.eqvAll (xs.map PyData.int) (ys.map PyData.int)) = _
    rw [eqvAll_ints xs ys]
    by_cases h : x = y
    · subst h
      simp
    · simp [h]
theorem eqv_ints (a b : List Int) : PyData.eqv (.list (a.map PyData.int)) (.list (b.map PyData.int)) = decide (a = b) := eqvAll_ints a b
section
variable {X : Cx} {pins : List (Addr × Obj)} {σ : L2.St} {H : Hp} {s : Shared}
/-- what is asked of the lists: r a list of lists of ints, g a list of ints -/
def EqRows (K : PySem.W.Frag) (H1 : Hp) (σ : L2.St) (ir ig : Nat) (ns gs : List Int) (row : Int → List Int) : Prop :=
  ∃ (R G : Addr) (rs : List V), σ[ir]? = some (some (.ref R)) ∧ σ[ig]? = some (some (.ref G)) ∧ SqL K H1 R rs ∧ SqL K H1 G (gs.map V.int) ∧
    ∀ n ∈ ns, 0 ≤ n ∧ n < 1000 ∧ ∃ L, rs[n.toNat]? = some (.ref L) ∧ SqL K H1 L ((row n).map V.int)
open GxR in
theorem gen_eqq {c P : Addr} {iter : Expr} {x r g : Str} {px gpos p1 p2 p3 p4 p5 : Pos} {scope : Scope} {te : TE} {k ir ig : Nat} {Q' : Value → Shared → Prop} {W : List Int → List Int → (Int → List Int) → Hp → Prop}
    (hr : Room k X.A) (TB : TabB X.base X.mg c P) (hcode : X.env.code = .ref c) (S : GenS X.env scope x) (hi : PE X iter te)
    (nr : X.N[ir]? = some r) (vr : X.env.kindOf r = some .cell) (fr : (r, NameKind.free) ∈ scope.names) (lr : scope.names.lookup r = some .free)
    (ng : X.N[ig]? = some g) (vg : X.env.kindOf g = some .cell) (fg : (g, NameKind.free) ∈ scope.names) (lg : scope.names.lookup g = some .free)
    (dx : (x == ("__debug__" : Str)) = false) (dr : (r == ("__debug__" : Str)) = false) (kcr : (r == ("__classdict__" : Str)) = false) (dg : (g == ("__debug__" : Str)) = false) (kcg : (g == ("__classdict__" : Str)) = false)
    (hs : ∀ v, genFold iter X.env v = pure v) (I : Inv X pins σ H s)
    (h : te σ H fun v H1 => ∃ (a : Addr) (ns gs : List Int) (row : Int → List Int), v = .ref a ∧ SqL X.K H1 a (ns.map V.int) ∧ TabG H1 P ∧ EqRows X.K H1 σ ir ig ns gs row ∧ W ns gs row H1)
    (hQ : ∀ ns gs row H1 q s5, W ns gs row H1 → AllReady X pins σ H1 P (ns.map fun n => decide (row n = gs)) q s5 → Q' (.ref q) s5) :
    wpAny (model X.prog X.w) X.A (eval (.GeneratorExp (eltQ x r g p1 p2 p3 p4 p5) [⟨.Name x px, iter, [], 0⟩] scope gpos) X.env) Q' X.xe s := by
  refine wpAny_GeneratorExp_walksQD hr.hd S.co (closure_ok S.free) S.cell S.dot S.loc S.kind (by have := hr.dp; omega) ?_ hs
  refine thn (hi.run pins s σ H _ I h) fun xv s1 got => ?_
  obtain ⟨v, H1, I1, r1, a, ns, gs, row, ev, hT, hTab, ⟨R, G, rs, hR, hG, qR, qG, hrows⟩, hW⟩ := got
  subst ev
  obtain rfl : xv = Value.ref a := r1
  obtain ⟨its, rv, plA, hz⟩ := I1.list hT
  have listAt : s1.heap.IsList a its.toArray := plA.isList
  -- the captured names
  have cellOf : ∀ (i : Nat) (y : Str) (b : Addr), X.N[i]? = some y → X.env.kindOf y = some .cell → σ[i]? = some (some (.ref b)) → ∃ cc, X.env.cells.lookup y = some cc ∧ s1.heap.IsCell cc (some (.ref b)) := by
    intro i y b hy vy hb
    obtain ⟨m, _, hl⟩ := I1.loc
    obtain ⟨uv, ru, lk⟩ := hl i y (.ref b) hy hb (.inr (.inl vy))
    have eu : uv = Value.ref b := ru
    subst eu
    rcases lk with ⟨k1, _⟩ | ⟨_, cc, e1, e2⟩
    · rw [vy] at k1
      cases k1
    · exact ⟨cc, e1, e2⟩
  obtain ⟨cr, hcr, hcellr⟩ := cellOf ir r R nr vr hR
  obtain ⟨cg, hcg, hcellg⟩ := cellOf ig g G ng vg hG
  obtain ⟨mb, bb1, bb2⟩ := I1.mod.blt
  have lenI : its.toArray.size = ns.length := by
    have e := rv.length
    rw [List.length_map] at e
    simp only [List.size_toArray]
    omega
  obtain ⟨ps, hP, hps⟩ := hTab
  refine wpAny_pyIter_list listAt ?_
  let it : Obj := { cls := .type "list_iterator", data := .fields #[.ref a, .int 0 0] }
  have atP : s1.heap.get? P = some { cls := .none, data := .fields ps } := I1.hok P _ hP
  have ltP : P < s1.heap.objs.size := Heap.lt_size atP
  have limI : (s1.heap.push it).NoLimit := I1.nolimit.push it
  have keepI : ∀ b o, s1.heap.get? b = some o → (s1.heap.push it).get? b = some o := fun b o e => Heap.get?_push_of_some _ e
  have codeI : PySem.W.CodeHd (s1.heap.push it) c P := TB.code.keeps fun b o e => keepI b o (I1.bk b o e)
  have ltS : cStatics < s1.heap.objs.size := let ⟨_, q, _⟩ := I1.nolimit; q.lt
  have neS : cStatics ≠ P := fun e => by
    obtain ⟨_, ⟨o', es, ep, g1, g2, _⟩, _⟩ := I1.nolimit
    rw [e, atP] at g1
    cases g1
    cases g2
  have szI : (s1.heap.push it).objs.size = s1.heap.objs.size + 1 := Heap.size_push ..
  have iterI : (s1.heap.push it).IsListIter s1.heap.objs.size a 0 := ⟨_, Heap.get?_push_size _ rfl, rfl, rfl⟩
  have listI : (s1.heap.push it).IsList a its.toArray := by
    obtain ⟨o, e, q⟩ := listAt
    exact ⟨o, keepI _ _ e, q⟩
  have neIt : a ≠ s1.heap.objs.size := by
    obtain ⟨o, e, _⟩ := listAt
    exact Nat.ne_of_lt (Heap.lt_size e)
  have neLP : ∀ {b : Addr} {vs : Array Value}, s1.heap.IsList b vs → b ≠ P := fun hl e => by
    obtain ⟨o, q, _, nn, dd⟩ := hl
    rw [e, atP] at q
    cases q
    cases dd
  have Wk : ∀ A' : Around, A'.handled = none → Walks X.prog X.w A' s1.heap.objs.size [s1.heap.objs.size, a] [s1.heap.objs.size] its.toArray.size (fun j v => its.toArray[j]? = some v) (fun j hp => hp.IsListIter s1.heap.objs.size a j ∧ hp.IsList a its.toArray) :=
    fun A' hA => Walks.list hA s1.heap.objs.size a neIt its.toArray
  refine ⟨limI, gen_code hcode codeI (keepI _ _ atP) hps fun code h3 tk more hx hge hP3 ht3 => ?_⟩
  have hge2 : s1.heap.objs.size + 1 ≤ h3.objs.size := by
    rw [← szI]
    exact hge
  have keep3 : ∀ b o, b ≠ P → s1.heap.get? b = some o → h3.get? b = some o := fun b o nb e => hx b o nb (keepI b o e)
  obtain ⟨bm, ob, f1, f2, f3, f4, f5, f6, f7, f8⟩ := TB.bm
  have glob3 : h3.Ns X.env.globals X.mg := by
    rw [I1.ok.glob]
    exact ((I1.mod.glob.keeps I1.bk).push it).extBut hx TB.gP
  refine wpAny_builtinsFor (m := X.mg) glob3 f1 f2 (keep3 _ _ f4 (I1.bk _ _ f5)) f6 f7 f8 ?_
  refine ⟨s1.heap.objs.size, [s1.heap.objs.size, a], [s1.heap.objs.size], its.toArray.size, fun j v => its.toArray[j]? = some v, _, fun _ => true, fun j v => ∃ z, ns[j]? = some z ∧ v = .bool (decide (row z = gs)), rfl, Wk, ?_, ?_, limI.extBut hx neS, ?_, ?_, ?_⟩
  · refine ⟨?_, ?_⟩
    · obtain ⟨o, e, q⟩ := iterI
      exact ⟨o, hx _ _ (Nat.ne_of_gt ltP) e, q⟩
    · obtain ⟨o, e, q⟩ := listI
      exact ⟨o, hx _ _ (neLP listAt) e, q⟩
  · intro b hb
    show b < h3.objs.size
    rcases List.mem_cons.mp hb with e | e
    · rw [e]
      exact Nat.lt_of_succ_le hge2
    · have e2 : b = a := by simpa using e
      obtain ⟨o, q, _⟩ := listAt
      have lta := Heap.lt_size q
      rw [e2]
      exact Nat.lt_of_lt_of_le lta (by omega)
  · intro hmem
    have e : cStatics = s1.heap.objs.size := by simpa using hmem
    rw [e] at ltS
    exact Nat.lt_irrefl _ ltS
  · intro href hhref
    refine ⟨fun A' E' j v s₂ m₂ hA hD hU hPv ha2 hb2 hk => ?_, fun A' E' j v s₂ m₂ hA hD hU hPv _ ha2 hb2 hk => ?_⟩
    · simp only [List.forIn_nil]
      exact wpAny_pure ⟨rfl, s₂.heap, s₂.toks, rfl, fun _ _ e => e⟩
    · -- what stood ahead of the generator stands
      have old : ∀ b o, b ≠ P → s1.heap.get? b = some o → s₂.heap.get? b = some o := fun b o nb e => by
        refine hk b (List.mem_range.mpr ?_) (fun z => ?_) o (hhref b o (keep3 b o nb e))
        · exact Nat.lt_of_lt_of_le (Heap.lt_size e) (by show s1.heap.objs.size ≤ h3.objs.size; omega)
        · have e2 : b = s1.heap.objs.size := by simpa using z
          exact Nat.ne_of_lt (Heap.lt_size e) e2
      have oldL : ∀ {b : Addr} {vs : Array Value}, s1.heap.IsList b vs → s₂.heap.IsList b vs := fun hl => by
        have ne := neLP hl
        obtain ⟨o, q, w⟩ := hl
        exact ⟨o, old _ _ ne q, w⟩
      have oldC : ∀ {cc : Addr} {u : Option Value}, s1.heap.IsCell cc u → s₂.heap.IsCell cc u := fun hc => by
        obtain ⟨o, e, d⟩ := hc
        refine ⟨o, old _ _ (fun z => ?_) e, d⟩
        rw [z, atP] at e
        cases e
        cases d
      have hjv : its[j]? = some v := by simpa using hPv
      obtain ⟨zv, ez, rz⟩ : ∃ z, ns[j]? = some z ∧ RelV (.int z) v := by
        have hj : j < ns.length := by
          obtain ⟨h, _⟩ := List.getElem?_eq_some_iff.mp hjv
          simpa [lenI] using (show j < its.toArray.size by simpa using h)
        obtain ⟨uu, g1, g2⟩ := rv.get (i := j) (x := .int ns[j]) (by rw [List.getElem?_map, List.getElem?_eq_getElem hj]; rfl)
        rw [hjv] at g1
        cases g1
        exact ⟨_, List.getElem?_eq_getElem hj, g2⟩
      obtain ⟨tz, rfl⟩ := rz
      obtain ⟨z0, z1, L, hL, qL⟩ := hrows zv (List.mem_of_getElem? ez)
      obtain ⟨itR, rR, plR, _⟩ := I1.list qR
      obtain ⟨itG, rG, plG, _⟩ := I1.list qG
      obtain ⟨itL, rL, plL, _⟩ := I1.list qL
      obtain ⟨uL, eL, rUL⟩ := rR.get hL
      have euL : uL = Value.ref L := rUL
      subst euL
      obtain ⟨asL, readL⟩ := reads_ints (oldL plL.isList) rL
      obtain ⟨asG, readG⟩ := reads_ints (oldL plG.isList) rG
      have cloOf : ∀ y cc, (y, NameKind.free) ∈ scope.names → X.env.cells.lookup y = some cc → (cloFrom X.env.cells scope.names []).lookup y = some cc := fun y cc fy hcc => clo_one _ _ _ _ (fun p hp hf => by
        obtain ⟨c', ec'⟩ := S.free p hp hf
        rw [ec']
        rfl) hcc (.inl fy)
      have un := hr.un
      refine thn (elt_eqix (x := x) (r := r) (g := g) S.kind S.loc lr lg ha2 hb2 (cloOf r cr fr hcr) (oldC hcellr) (cloOf g cg fg hcg) (oldC hcellg) (oldL plR.isList) z0 (by omega) (by simpa using eL) readL readG
        (Sh.shaped (n := 1) (Sh.list (Sh.ints _)) (by decide)) (Sh.shaped (n := 1) (Sh.list (Sh.ints _)) (by decide)) (by omega) dx dr kcr dg kcg) fun v' s3 hv => ⟨⟨zv, ez, ?_⟩, hv.2⟩
      rw [hv.1, eqv_ints]
  · intro q h5 tk5 gs5 hbare hag hsz5 hk5 W5 hat
    have e0 : passing (fun _ => true) its.toArray.size 0 = List.range its.toArray.size := GxR.passing_true _
    rw [e0] at W5
    rw [List.length_range, lenI] at W5
    have oldA : ∀ b o, s1.heap.get? b = some o → b ∉ h3.objs.size :: [s1.heap.objs.size] := fun b o e hb => by
      have l0 := Heap.lt_size e
      rcases List.mem_cons.mp hb with z | z
      · rw [z] at l0
        exact absurd (Nat.lt_of_lt_of_le l0 (Nat.le_of_succ_le hge2)) (Nat.lt_irrefl _)
      · have z2 : b = s1.heap.objs.size := by simpa using z
        exact Nat.ne_of_lt l0 z2
    have W6 := W5.in4_1
    rw [show ns.length = (ns.map fun n => decide (row n = gs)).length from (List.length_map _).symm] at W6
    rw [lenI, show ns.length = (ns.map fun n => decide (row n = gs)).length from (List.length_map _).symm] at hat
    refine hQ ns gs row H1 q _ hW ⟨_, _, _, _, _, fun j => (ns.map fun n => decide (row n = gs)).getD j false, W6, hat, ?_, fun j b hb => by show (ns.map fun n => decide (row n = gs)).getD j false = b; rw [List.getD_eq_getElem?_getD, hb]; rfl, fun s' hm => ?_⟩
    · intro j yv sj Qj Ej hy hQj
      obtain ⟨i', hij, z, hz', rfl⟩ := hy
      obtain ⟨hj, ej⟩ := List.getElem?_eq_some_iff.mp hij
      rw [List.getElem_range] at ej
      subst ej
      refine wpAny_truthy_bool ?_
      have eb : (ns.map fun n => decide (row n = gs)).getD j false = decide (row z = gs) := by
        rw [List.getD_eq_getElem?_getD, List.getElem?_map, hz']
        rfl
      have hQj' : Qj ((ns.map fun n => decide (row n = gs)).getD j false) sj := hQj
      rw [eb] at hQj'
      exact hQj'
    · have J := inv_tab (more := more) (h' := s'.heap) (g' := s'.gens) (d' := s'.drawn) (t' := s'.toks) I1 hP (fun b o nb e => hm.heap b o (oldA b o e) (hk5 b o (keep3 b o nb e))) (hm.heap P _ (oldA P _ atP) (hk5 P _ hP3)) (AllBare.movedS (I1.bare.push hbare) hm)
      rw [sh_eta s1 s' hm.os] at J
      exact ⟨upd H1 P (.tbl (ps ++ more)), ⟨⟨ps ++ more, upd_same, ht3⟩, fun b hb => upd_ne hb⟩, J⟩
/-- all(r[x] == g for x in e): e a list of ints, r in slot ir, g in slot ig -/
def tAllQ (K : PySem.W.Frag) (P : Addr) (ir ig : Nat) (te : TE) : TE := fun σ H Q => te σ H fun v H1 => ∃ (a : Addr) (ns gs : List Int) (row : Int → List Int), v = .ref a ∧ SqL K H1 a (ns.map V.int) ∧ GxR.TabG H1 P ∧ EqRows K H1 σ ir ig ns gs row ∧
  ∀ H2, GxR.Tabbed P H1 H2 → Q (.bl (ns.all fun n => decide (row n = gs))) H2
theorem pe_allQ {c P : Addr} {iter : Expr} {x r g : Str} {px p pos gpos p1 p2 p3 p4 p5 : Pos} {scope : Scope} {te : TE} {k ir ig : Nat}
    (hr : Room k X.A) (hg : Gl X "all") (hm : X.mg "all" = none) (TB : GxR.TabB X.base X.mg c P) (hcode : X.env.code = .ref c) (S : GxR.GenS X.env scope x) (hi : PE X iter te)
    (nr : X.N[ir]? = some r) (vr : X.env.kindOf r = some .cell) (fr : (r, NameKind.free) ∈ scope.names) (lr : scope.names.lookup r = some .free)
    (ng : X.N[ig]? = some g) (vg : X.env.kindOf g = some .cell) (fg : (g, NameKind.free) ∈ scope.names) (lg : scope.names.lookup g = some .free)
    (dx : (x == ("__debug__" : Str)) = false) (dr : (r == ("__debug__" : Str)) = false) (kcr : (r == ("__classdict__" : Str)) = false) (dg : (g == ("__debug__" : Str)) = false) (kcg : (g == ("__classdict__" : Str)) = false)
    (hs : ∀ v, genFold iter X.env v = pure v)
    (he : starEach [.GeneratorExp (eltQ x r g p1 p2 p3 p4 p5) [⟨.Name x px, iter, [], 0⟩] scope gpos] X.env = (false, eval (.GeneratorExp (eltQ x r g p1 p2 p3 p4 p5) [⟨.Name x px, iter, [], 0⟩] scope gpos) X.env) :: starEach [] X.env := by rfl) :
    PE X (.Call (.Name "all" p) [.GeneratorExp (eltQ x r g p1 p2 p3 p4 p5) [⟨.Name x px, iter, [], 0⟩] scope gpos] [] pos) (tAllQ X.K P ir ig te) := by
  refine ⟨fun pins s σ H Q I h => wpAny_Call_Name_kw (ld_blt I hg hm (by decide +kernel) (PyProof.Rows.callWith_builtin1 (id := "all") ?_ he (by rfl)))⟩
  rw [he]
  show wpAny _ _ (spliced (_ :: backTo pos (starEach [] X.env))) _ _ s
  refine Calls.spliced_cons (gen_eqq (W := fun ns gs row H1 => ∀ H2, GxR.Tabbed P H1 H2 → Q (.bl (ns.all fun n => decide (row n = gs))) H2) hr TB hcode S hi nr vr fr lr ng vg fg lg dx dr kcr dg kcg hs I h fun ns gs row H1 q s5 hW ⟨fp, wr, G, F, St', tr, W, hst, htr, hb, hI⟩ => Calls.spliced_nil ?_)
  refine call_all_walkS (W.self 0 _ _ _ hst ⟨q, fp, wr, G, _, F, St', _, rfl, W, hst, htr, fun s' hmv => ?_⟩)
  obtain ⟨H2, hT, J⟩ := hI s' hmv
  refine ⟨.bl _, H2, J, rfl, ?_⟩
  rw [all_tr _ tr hb, List.all_map]
  exact hW H2 hT
end
/-! ### places that are reached: the mathematics -/
def GoodAll (many : Nat) (ms : List Mv) : Prop := ∀ mv ∈ ms, GoodMv many mv
def Valid (ms : List Mv) (r : List Int) : Prop := ∀ n ∈ r, 0 ≤ n ∧ n < (ms.length : Int)
theorem rowM_good {many : Nat} {ms : List Mv} (G : GoodAll many ms) {n : Nat} (h : n < ms.length) : GoodRow many (rowM ms n) := by
  unfold rowM
  rw [List.getD_eq_getElem?_getD, List.getElem?_eq_getElem h]
  exact (G _ (List.getElem_mem h)).2.2
def walkP (ms : List Mv) (p : Int) (r : List Int) : Int := r.foldl (fun x n => goK (rowM ms n.toNat) x) p
theorem walkP_snoc (ms : List Mv) (p n : Int) (r : List Int) : walkP ms p (r ++ [n]) = goK (rowM ms n.toNat) (walkP ms p r) := by
  unfold walkP
  rw [List.foldl_append]
  rfl
theorem walkP_app (ms : List Mv) (p : Int) (r s : List Int) : walkP ms p (r ++ s) = walkP ms (walkP ms p r) s := by
  unfold walkP
  rw [List.foldl_append]
theorem Valid.app {ms : List Mv} {r s : List Int} (a : Valid ms r) (b : Valid ms s) : Valid ms (r ++ s) := fun n hn => (List.mem_append.mp hn).elim (a n) (b n)
theorem Valid.one {ms : List Mv} {n : Nat} (h : n < ms.length) : Valid ms [(n : Int)] := fun z hz => by
  rw [List.mem_singleton.mp hz]
  omega
theorem walkP_in {many : Nat} {ms : List Mv} (G : GoodAll many ms) {p : Int} (p0 : 0 ≤ p) (p1 : p < (many : Int)) : ∀ {r : List Int}, Valid ms r → 0 ≤ walkP ms p r ∧ walkP ms p r < (many : Int) := by
  intro r
  refine snocInd (F := fun r => Valid ms r → 0 ≤ walkP ms p r ∧ walkP ms p r < (many : Int)) ?_ ?_ r
  · intro _
    exact ⟨p0, p1⟩
  · intro r n ih h
    rw [walkP_snoc]
    have hn := h n (List.mem_append.mpr (.inr List.mem_cons_self))
    obtain ⟨a, b⟩ := ih fun z hz => h z (List.mem_append.mpr (.inl hz))
    exact goK_in' (rowM_good G (by omega)) a b
theorem ledG_one {many : Nat} {row : List Int} {x : Int} (hr : GoodRow many row) (x0 : 0 ≤ x) (x1 : x < (many : Int)) : ledG many row [x] = [goK row x] := by
  refine rise_same (ledG_good many row [x]).1 (List.pairwise_singleton _ _) fun k => ?_
  rw [mem_ledG hr (fun z hz => by rw [List.mem_singleton.mp hz]; exact ⟨x0, x1⟩)]
  constructor
  · rintro ⟨z, hz, rfl⟩
    rw [List.mem_singleton.mp hz]
    exact List.mem_cons_self
  · intro h
    exact ⟨x, List.mem_cons_self, (List.mem_singleton.mp h).symm⟩
theorem runG_one {many : Nat} {ms : List Mv} (G : GoodAll many ms) {p : Int} (p0 : 0 ≤ p) (p1 : p < (many : Int)) {r : List Int} : Valid ms r → runG many ms [p] r = [walkP ms p r] := by
  refine snocInd (F := fun r => Valid ms r → runG many ms [p] r = [walkP ms p r]) ?_ ?_ r
  · intro _
    rfl
  · intro r n ih h
    have hv : Valid ms r := fun z hz => h z (List.mem_append.mpr (.inl hz))
    have hn := h n (List.mem_append.mpr (.inr List.mem_cons_self))
    obtain ⟨a, b⟩ := walkP_in G p0 p1 hv
    rw [runG_snoc, walkP_snoc, ih hv, ledG_one (rowM_good G (by omega)) a b]
theorem good_one {many : Nat} {p : Int} (p0 : 0 ≤ p) (p1 : p < (many : Int)) : goodG many [p] := ⟨List.pairwise_singleton _ _, fun x hx => by rw [List.mem_singleton.mp hx]; exact ⟨p0, p1⟩⟩
/-- from a place one comes to another -/
def Rch (ms : List Mv) (p q : Int) : Prop := ∃ r, Valid ms r ∧ walkP ms p r = q
theorem Rch.refl (ms : List Mv) (p : Int) : Rch ms p p := ⟨[], (fun _ h => nomatch h), rfl⟩
theorem Rch.trans {ms : List Mv} {p q s : Int} (a : Rch ms p q) (b : Rch ms q s) : Rch ms p s := by
  obtain ⟨r, h1, rfl⟩ := a
  obtain ⟨t, h2, rfl⟩ := b
  exact ⟨r ++ t, h1.app h2, walkP_app _ _ _ _⟩
theorem Rch.step {ms : List Mv} {p q : Int} {n : Nat} (a : Rch ms p q) (h : n < ms.length) : Rch ms p (goK (rowM ms n) q) := by
  obtain ⟨r, h1, rfl⟩ := a
  refine ⟨r ++ [(n : Int)], h1.app (Valid.one h), ?_⟩
  rw [walkP_snoc]
  rfl
theorem Rch.in {many : Nat} {ms : List Mv} (G : GoodAll many ms) {p q : Int} (p0 : 0 ≤ p) (p1 : p < (many : Int)) (h : Rch ms p q) : 0 ≤ q ∧ q < (many : Int) := by
  obtain ⟨r, h1, rfl⟩ := h
  exact walkP_in G p0 p1 h1
/-- what is closed under moves and holds p holds all that is reached -/
theorem Rch.ind {ms : List Mv} {F : Int → Prop} {p q : Int} (h0 : F p) (hs : ∀ x n, F x → n < ms.length → F (goK (rowM ms n) x)) (h : Rch ms p q) : F q := by
  obtain ⟨r, h1, rfl⟩ := h
  revert h1
  refine snocInd (F := fun r => Valid ms r → F (walkP ms p r)) ?_ ?_ r
  · intro _
    exact h0
  · intro r n ih hv
    rw [walkP_snoc]
    have hn := hv n (List.mem_append.mpr (.inr List.mem_cons_self))
    exact hs _ _ (ih fun z hz => hv z (List.mem_append.mpr (.inl hz))) (by omega)
def reachL (many : Nat) (ms : List Mv) (p : Int) : List Int := (ids many).filter fun q => decide ([q] ∈ keysG (gf many ms [p]))
theorem gf_ones {many : Nat} {ms : List Mv} (G : GoodAll many ms) {p : Int} (p0 : 0 ≤ p) (p1 : p < (many : Int)) : ∀ g ∈ gf many ms [p], ∃ x, g.1 = [x] ∧ 0 ≤ x ∧ x < (many : Int) :=
  bfsN_all (F := fun g => ∃ x, g.1 = [x] ∧ 0 ≤ x ∧ x < (many : Int)) ⟨p, rfl, p0, p1⟩ (fun g k h hk => by
    obtain ⟨x, e, a, b⟩ := h
    refine ⟨goK (rowM ms k) x, ?_, goK_in' (rowM_good G hk) a b⟩
    show ledG many (rowM ms k) g.1 = _
    rw [e, ledG_one (rowM_good G hk) a b]) 64
theorem mem_reachL {many : Nat} {ms : List Mv} (G : GoodAll many ms) (m6 : many ≤ 6) {p q : Int} (p0 : 0 ≤ p) (p1 : p < (many : Int)) : q ∈ reachL many ms p ↔ Rch ms p q := by
  unfold reachL
  rw [List.mem_filter, decide_eq_true_iff]
  constructor
  · rintro ⟨_, h⟩
    obtain ⟨g, hg, e⟩ := List.mem_map.mp h
    obtain ⟨h1, h2⟩ := gf_row g hg
    refine ⟨g.2, h2, ?_⟩
    rw [runG_one G p0 p1 h2, e] at h1
    injection h1
  · intro h
    refine ⟨mem_ids.mpr (h.in G p0 p1), ?_⟩
    obtain ⟨r, h1, rfl⟩ := h
    rw [← runG_one G p0 p1 h1]
    exact gf_run (good_one p0 p1) m6 h1
theorem reachL_rise (many : Nat) (ms : List Mv) (p : Int) : (reachL many ms p).Pairwise (· < ·) := List.Pairwise.filter _ (ids_pair many)
theorem reachL_in {many : Nat} {ms : List Mv} {p q : Int} (h : q ∈ reachL many ms p) : 0 ≤ q ∧ q < (many : Int) := mem_ids.mp (List.mem_filter.mp h).1
theorem reachL_self {many : Nat} {ms : List Mv} (G : GoodAll many ms) (m6 : many ≤ 6) {p : Int} (p0 : 0 ≤ p) (p1 : p < (many : Int)) : p ∈ reachL many ms p := (mem_reachL G m6 p0 p1).mpr (Rch.refl ms p)
theorem sorted_rise {xs ns : List Int} (hp : xs.Perm ns) (hs : xs.Pairwise (· ≤ ·)) (hn : ns.Nodup) : xs.Pairwise (· < ·) := by
  have nd : xs.Nodup := hp.nodup_iff.mpr hn
  refine List.Pairwise.imp₂ (R := (· ≤ ·)) (S := (· ≠ ·)) (fun a b h1 h2 => ?_) hs nd
  have h2' : a ≠ b := h2
  have h1' : a ≤ b := h1
  show a < b
  omega
/-! ### closed groups -/
def clK (many : Nat) (ms : List Mv) (p : Int) : Bool := decide ((reachL many ms p).getD 0 0 = p) && (reachL many ms p).all fun x => decide (reachL many ms x = reachL many ms p)
def closedL (many : Nat) (ms : List Mv) : List (List Int) := ((ids many).filter (clK many ms)).map (reachL many ms)
section
variable {P : Program} {w : World} {K : PySem.W.Frag} {mg : Str → Option Value} {base : Heap} {C : Addr}
abbrev LstOf (H : Hp) : V → List Int → Prop := fun v xs => ∃ a, v = V.ref a ∧ H a = some (.lst (xs.map V.int))
def ListsAt (H : Hp) (L : Addr) (xss : List (List Int)) : Prop := ∃ vs, H L = some (.lst vs) ∧ Paired (LstOf H) vs xss
theorem ListsAt.same {H H' : Hp} {L : Addr} {xss : List (List Int)} (s : Same H H') (h : ListsAt H L xss) : ListsAt H' L xss := by
  obtain ⟨vs, e, p⟩ := h
  exact ⟨vs, s _ _ e, L2.Paired.mapP p fun v xs ⟨a, h1, h2⟩ => ⟨a, h1, s _ _ h2⟩⟩
/-- lists at F, none of them F -/
def ListsIn (H : Hp) (F : Addr) (xss : List (List Int)) : Prop := ∃ vs, H F = some (.lst vs) ∧ Paired (fun v xs => ∃ a, v = V.ref a ∧ a ≠ F ∧ H a = some (.lst (xs.map V.int))) vs xss
theorem ListsIn.same {H H' : Hp} {L : Addr} {xss : List (List Int)} (s : Same H H') (h : ListsIn H L xss) : ListsIn H' L xss := by
  obtain ⟨vs, e, p⟩ := h
  exact ⟨vs, s _ _ e, L2.Paired.mapP p fun v xs ⟨a, h1, h2, h3⟩ => ⟨a, h1, h2, s _ _ h3⟩⟩
theorem ListsIn.at {H : Hp} {L : Addr} {xss : List (List Int)} (h : ListsIn H L xss) : ListsAt H L xss := by
  obtain ⟨vs, e, p⟩ := h
  exact ⟨vs, e, L2.Paired.mapP p fun v xs ⟨a, h1, h2, h3⟩ => ⟨a, h1, h3⟩⟩
theorem dp_lists {K : PySem.W.Frag} {H : Hp} : ∀ {vs : List V} {xss : List (List Int)}, Paired (LstOf H) vs xss → DpAll K H vs (xss.map fun xs => .list (xs.map PyData.int))
  | _, _, .nil => .nil
  | _, _, .cons ⟨a, e, h⟩ t => .cons (by rw [e]; exact dp_lst h) (dp_lists t)
def lsD (xss : List (List Int)) : PyData := .list (xss.map fun xs => .list (xs.map PyData.int))
theorem Sh.lists (xss : List (List Int)) : Sh 2 (lsD xss) := Sh.list fun d hd => by
  obtain ⟨xs, _, rfl⟩ := List.mem_map.mp hd
  exact Sh.list (Sh.ints xs)
theorem ListsAt.dp {K : PySem.W.Frag} {H : Hp} {L : Addr} {xss : List (List Int)} (h : ListsAt H L xss) : Dp K H (.ref L) (lsD xss) := by
  obtain ⟨vs, e, p⟩ := h
  exact .lst (SqL.of e) (dp_lists p)
theorem Sh.lst (xs : List Int) : Sh 1 (.list (xs.map PyData.int)) := Sh.list (Sh.ints xs)
theorem eqv_lst (xs ys : List Int) : PyData.eqv (.list (xs.map PyData.int)) (.list (ys.map PyData.int)) = decide (xs = ys) := by
  simp only [PyData.eqv]
  exact PySem.W.ked_eqvAll xs ys
theorem any_lsts (g : List Int) : ∀ xss : List (List Int), ((xss.map fun xs => PyData.list (xs.map PyData.int)).any fun z => PyData.eqv z (.list (g.map PyData.int))) = decide (g ∈ xss)
  | [] => by rw [decide_eq_false (by simp)]; rfl
  | x :: xss => by
    rw [List.map_cons, List.any_cons, eqv_lst, any_lsts g xss]
    by_cases c : x = g
    · subst c
      rw [decide_eq_true rfl, decide_eq_true List.mem_cons_self]
      rfl
    · rw [decide_eq_false c, Bool.false_or]
      exact decide_eq_decide.mpr ⟨fun h => List.mem_cons_of_mem _ h, fun h => (List.mem_cons.mp h).resolve_left (Ne.symm c)⟩
end
section
variable {P : Program} {w : World} {K : PySem.W.Frag} {mg : Str → Option Value} {base : Heap} {C : Addr}
/-! ### _reached -/
theorem scRe : FnScope ["moves", "begin", "group"] ["moves", "begin"] (defScope sReached) := ⟨rfl, rfl, rfl, by decide +kernel, rfl, by decide +kernel, by decide +kernel⟩
def spRe : Sp := fun vs H Q _ => ∃ (m : Addr) (many : Nat) (ws : List V) (ms : List Mv) (p : Int), vs = [.ref m, .int p] ∧ H m = some (.lst ws) ∧ MovesAt H ws ms ∧ GoodAll many ms ∧ ms.length ≤ 8 ∧ many ≤ 6 ∧ 0 ≤ p ∧ p < (many : Int) ∧
  ∀ L H', Same H H' → H L = none → H' L = some (.lst ((reachL many ms p).map V.int)) → Q (.ref L) H'
theorem ok_reached {f fG fL : Addr} {fd fdG fdL : FuncData} (F : Fun K "_reached" "_reached" sReached f fd) (DG : Df K mg "groups_from" sGroupsFrom ["moves", "begin"] fG fdG) (DL : Df K mg "led_to" sLedTo ["whither", "group"] fL fdL) (ml : mg "len" = none) (mE : mg "enumerate" = none) (mt : mg "tuple" = none) (ms' : mg "sorted" = none) : FnOk P w K mg base CX0 3 f fd ["moves", "begin"] spRe := by
  have GG : FnOk P w K mg base CX0 2 fG fdG ["moves", "begin"] spGf := ok_gf DG.F DL ml mE mt ms'
  refine F.ok scRe (fun vs H Q E h => ?_) (fun cdv A outer s H vs Q E hr h => ?_)
  · obtain ⟨m, many, ws, ms, p, rfl, _⟩ := h
    rfl
  · obtain ⟨m, many, ws, ms, p, rfl, hm, hM, G, l8, m6, p0, p1, q⟩ := h
    refine ⟨_, pss_one (ps_ret (pe_callB cr_sortedI (by rfl) ms' (by decide +kernel) (pa_cons
      (pe_lc (own := [("group", 2)]) (g := gName 2) (tt := tYes) (te := tOp (rIxT K) (tVar 2) (tC (.int 0))) rfl scRe.nd (pi_keys (pe_frz (pe_call GG hr (by rfl) DG.g DG.F.kp DG.b .nil pass0 (pa_cons (pv 0) (pa_cons (pe_tup (pa_cons (pv 1) pa_nil)) pa_nil))))) (blkOk_by (N := ["moves", "begin", "group"]) (sc := defScope sReached) (by decide +kernel))
        (fun _ _ _ _ _ => pg_name (i := 2) scRe.nd rfl (.inl rfl)) (fun _ _ _ _ _ => pts_nil) (fun _ _ _ _ _ => by exact (pe_ix ix_tup (pv 2) pe_int (fun _ _ => rfl)))) pa_nil))), ?_⟩
    refine ⟨.ref m, rfl, .int p, rfl, (by show 1 ≤ sizeLine; decide), fun t nt => ?_⟩
    have s1 := same_new (o := .tup [.int p]) nt
    refine ⟨m, t, many, ws, ms, [p], rfl, s1 _ _ hm, hM.same (Same.tups s1), G, l8, m6, upd_same, good_one p0 p1, fun D H1 s2 nD ⟨kvs, hD, pk⟩ => ?_⟩
    have s12 := s1.trans s2
    refine ⟨D, .dT kvs, rfl, hD, True.intro, fun od => ⟨D, od, rfl, .inr ⟨kvs, upd_same, ?_⟩⟩⟩
    have lenK : kvs.length = (gf many ms [p]).length := pk.length
    have ones := gf_ones G p0 p1
    have l64 := gf_len (ms := ms) (good_one p0 p1) m6
    have s3 : Same H (upd H1 D (.frz od (.dT kvs))) := Same.put s12 (s1.free nD)
    refine fun E' nE => lc_it walk_keysT (fun i H' => Same (upd H1 D (.frz od (.dT kvs))) H' ∧ H' E' = some (.lst ((((gf many ms [p]).map fun g => g.1.getD 0 0).take i).map V.int))) ⟨same_new nE, by rw [List.take_zero]; exact upd_same⟩ (fun i H' _ h => h.1 _ _ upd_same) ?_ ?_
    · rintro i x H2' H2 hi ⟨s4, hE⟩ ⟨rfl, k, v, qa, ekv, rfl, hqa⟩
      obtain ⟨g, eg, ek, _⟩ : ∃ g : GR, (gf many ms [p])[i]? = some g ∧ k = g.1.map Sum.inl ∧ True := by
        have : ∀ {kvs : List (List Key × V)} {l : List GR} {i : Nat} {kv : List Key × V}, Paired (KvAt H1) kvs l → kvs[i]? = some kv → ∃ g : GR, l[i]? = some g ∧ kv.1 = g.1.map Sum.inl := by
          intro kvs l i kv h
          induction h generalizing i with
          | nil => intro e; simp at e
          | @cons a b as bs hab t ih =>
            intro e
            cases i with
            | zero =>
              simp at e
              subst e
              exact ⟨b, rfl, hab.1⟩
            | succ i => simpa using ih (by simpa using e)
        obtain ⟨g, e1, e2⟩ := this pk ekv
        exact ⟨g, e1, e2, trivial⟩
      obtain ⟨y, ey, _⟩ := ones g (List.mem_of_getElem? eg)
      have hq2 : H2 qa = some (.tup [.int y]) := by
        rw [hqa, ek, key_ints, ey]
        rfl
      refine ⟨rfl, .ref qa, rfl, qa, _, 0, _, rfl, rfl, SqT.of hq2, atI_nat (j := 0) rfl, _, hE, ?_, fun b u eb => by rw [upd_ne (ne_of_none eb nE)]; exact s4 _ _ eb, ?_⟩
      · rw [List.length_map, List.length_take, List.length_map]
        exact lt1k (Nat.le_trans (Nat.min_le_right _ _) (by omega))
      · have ei : ((gf many ms [p]).map fun g => g.1.getD 0 0)[i]? = some y := by
          rw [List.getElem?_map, eg]
          show some (g.1.getD 0 0) = some y
          rw [ey]
          rfl
        rw [upd_same, take_snoc ei, List.map_append]
        rfl
    · rintro H2 ⟨s4, hE⟩
      rw [List.take_of_length_le (by rw [List.length_map, lenK]; exact Nat.le_refl _)] at hE
      refine ⟨E', _, rfl, SqL.of hE, fun ns' L hp hs nL => ?_⟩
      have nd : ((gf many ms [p]).map fun g => g.1.getD 0 0).Nodup := by
        have h1 : (keysG (gf many ms [p])).Nodup := bfsN_nodup many ms [p] 64
        have : ∀ {l : List GR}, (∀ g ∈ l, ∃ x, g.1 = [x] ∧ 0 ≤ x ∧ x < (many : Int)) → (keysG l).Nodup → (l.map fun g => g.1.getD 0 0).Nodup := by
          intro l
          induction l with
          | nil => intro _ _; exact List.nodup_nil
          | cons g l ih =>
            intro h hn
            obtain ⟨n1, n2⟩ := List.nodup_cons.mp (show (g.1 :: keysG l).Nodup from hn)
            refine List.nodup_cons.mpr ⟨fun hm => ?_, ih (fun z hz => h z (List.mem_cons_of_mem _ hz)) n2⟩
            obtain ⟨g', hg', e⟩ := List.mem_map.mp hm
            obtain ⟨x, ex, _⟩ := h g List.mem_cons_self
            obtain ⟨x', ex', _⟩ := h g' (List.mem_cons_of_mem _ hg')
            have e1 : g'.1.getD 0 0 = g.1.getD 0 0 := e
            rw [ex, ex'] at e1
            have exx : x' = x := e1
            subst exx
            exact n1 (List.mem_map.mpr ⟨g', hg', by rw [ex, ex']⟩)
        exact this ones h1
      have e : ns' = reachL many ms p := by
        refine rise_same (sorted_rise hp hs nd) (reachL_rise many ms p) fun k => ?_
        rw [hp.mem_iff, List.mem_map]
        unfold reachL
        rw [List.mem_filter, decide_eq_true_iff]
        constructor
        · rintro ⟨g, hg, rfl⟩
          obtain ⟨x, ex, x0, x1⟩ := ones g hg
          rw [ex]
          exact ⟨mem_ids.mpr ⟨x0, x1⟩, List.mem_map.mpr ⟨g, hg, ex⟩⟩
        · rintro ⟨_, h⟩
          obtain ⟨g, hg, eg⟩ := List.mem_map.mp h
          exact ⟨g, hg, by rw [eg]; rfl⟩
      rw [e]
      have s5 := s3.trans s4
      exact q L _ (s5.trans (same_new nL)) (s5.free nL) upd_same
/-! ### _is_closed -/
theorem scIc : FnScope ["reached", "group"] ["reached", "group"] (defScope sIsClosed) := ⟨rfl, rfl, rfl, by decide +kernel, rfl, by decide +kernel, by decide +kernel⟩
/-- a list of lists of ints at R: its item n is the row of n -/
def RowsAt (H : Hp) (R : Addr) (many : Nat) (row : Int → List Int) : Prop := ∃ as : List Addr, as.length = many ∧ H R = some (.lst (as.map V.ref)) ∧ ∀ n : Nat, n < many → ∃ L, as[n]? = some L ∧ H L = some (.lst ((row (n : Int)).map V.int))
theorem RowsAt.same {H H' : Hp} {R : Addr} {many : Nat} {row : Int → List Int} (s : ∀ b o, (∀ ps, o ≠ .tbl ps) → H b = some o → H' b = some o) (h : RowsAt H R many row) : RowsAt H' R many row := by
  obtain ⟨as, l, e, a⟩ := h
  refine ⟨as, l, s _ _ (fun _ z => nomatch z) e, fun n hn => ?_⟩
  obtain ⟨L, e1, e2⟩ := a n hn
  exact ⟨L, e1, s _ _ (fun _ z => nomatch z) e2⟩
def spIc (T : Addr) : Sp := fun vs H Q _ => ∃ (R Ga : Addr) (many : Nat) (row : Int → List Int) (gs : List Int), vs = [.ref R, .ref Ga] ∧ RowsAt H R many row ∧ many ≤ 6 ∧ H Ga = some (.lst (gs.map V.int)) ∧ (∀ x ∈ gs, 0 ≤ x ∧ x < (many : Int)) ∧ GxR.TabG H T ∧
  ∀ H', Gr T H H' → GxR.TabG H' T → Q (.bl (gs.all fun x => decide (row x = gs))) H'
theorem genS_closed {L f : Addr} {cdv : Value} {scope : Scope} (hs : scope.names = [((".0" : Str), .local), (("place" : Str), .local), (("group" : Str), .free), (("reached" : Str), .free)]) (hk : scope.kind = .function) (hc : scope.isCoroutine = false)
    (h1 : (envOfC "_is_closed" (defScope sIsClosed) L f cdv).cells.lookup ("reached" : Str) ≠ none) (h2 : (envOfC "_is_closed" (defScope sIsClosed) L f cdv).cells.lookup ("group" : Str) ≠ none) :
    GxR.GenS (envOfC "_is_closed" (defScope sIsClosed) L f cdv) scope "place" := by
  refine ⟨hk, hc, ?_, ?_, ?_, ?_⟩
  · rw [hs]
    decide +kernel
  · rw [hs]
    decide +kernel
  · rw [hs]
    decide +kernel
  · intro y hy hf
    rw [hs] at hy
    have e : y.1 = ("group" : Str) ∨ y.1 = ("reached" : Str) := by
      rcases List.mem_cons.mp hy with e | hy
      · rw [e] at hf
        cases hf
      rcases List.mem_cons.mp hy with e | hy
      · rw [e] at hf
        cases hf
      rcases List.mem_cons.mp hy with e | hy
      · rw [e]
        exact .inl rfl
      rcases List.mem_cons.mp hy with e | hy
      · rw [e]
        exact .inr rfl
      · cases hy
    rcases e with e | e
    · rw [e]
      cases q : (envOfC "_is_closed" (defScope sIsClosed) L f cdv).cells.lookup ("group" : Str) with
      | none => exact absurd q h2
      | some c => exact ⟨c, rfl⟩
    · rw [e]
      cases q : (envOfC "_is_closed" (defScope sIsClosed) L f cdv).cells.lookup ("reached" : Str) with
      | none => exact absurd q h1
      | some c => exact ⟨c, rfl⟩
theorem ok_isclosed {f cI tI : Addr} {fd : FuncData} (F : FunT K "_is_closed" "_is_closed" sIsClosed f fd cI) (TB : GxR.TabB base mg cI tI) (ma : mg "all" = none) : FnOk P w K mg base CX0 1 f fd ["reached", "group"] (spIc tI) := by
  obtain ⟨oc, od, kV, doc, pm, an, ct, osl, efd, lk, hcd⟩ := F.ex
  subst efd
  refine fn_of (N := ["reached", "group"]) lk hcd scIc (fun vs H Q E h => ?_) (fun A outer s H vs Q E hr h => ?_)
  · obtain ⟨R, Ga, many, row, gs, rfl, _⟩ := h
    rfl
  · obtain ⟨R, Ga, many, row, gs, rfl, ⟨as, la, hR, hrow⟩, m6, hG, hgs, hTab, q⟩ := h
    refine ⟨_, pss_one (ps_ret (pe_allQ (k := 0) (x := "place") (r := "reached") (g := "group") (ir := 0) (ig := 1) hr (by rfl) ma TB rfl (genS_closed (by rfl) rfl rfl ?c1 ?c2) (pv 1) rfl rfl (by decide +kernel) (by decide +kernel) rfl rfl (by decide +kernel) (by decide +kernel) (by decide) (by decide) (by decide) (by decide) (by decide) (fun _ => rfl) (by rfl))), ?_⟩
    case c1 =>
      intro z
      have q : ((envOfC "_is_closed" (defScope sIsClosed) s.heap.objs.size f (.ref cI)).cells.lookup ("reached" : Str)).isSome = true := PySem.W.cellsFrom_some _ _ _ (.inl (by decide +kernel))
      rw [z] at q
      cases q
    case c2 =>
      intro z
      have q : ((envOfC "_is_closed" (defScope sIsClosed) s.heap.objs.size f (.ref cI)).cells.lookup ("group" : Str)).isSome = true := PySem.W.cellsFrom_some _ _ _ (.inl (by decide +kernel))
      rw [z] at q
      cases q
    refine ⟨.ref Ga, rfl, Ga, gs, gs, row, rfl, SqL.of hG, hTab, ⟨R, Ga, as.map V.ref, rfl, rfl, SqL.of hR, SqL.of hG, fun n hn => ?_⟩, fun H2 ⟨t2, k2⟩ => q H2 (fun x o nx ex => by rw [k2 x nx]; exact ex) t2⟩
    obtain ⟨n0, n1⟩ := hgs n hn
    obtain ⟨L, e1, e2⟩ := hrow n.toNat (by omega)
    rw [show ((n.toNat : Nat) : Int) = n by omega] at e2
    exact ⟨n0, by omega, L, by rw [List.getElem?_map, e1]; rfl, SqL.of e2⟩
/-! ### closed -/
theorem scCl : FnScope ["chain", "moves", "reached", "place", "group"] ["chain"] (defScope sClosed) := ⟨rfl, rfl, rfl, by decide +kernel, rfl, by decide +kernel, by decide +kernel⟩
def spCl (C T : Addr) : Sp := fun vs H Q _ => ∃ (x : Addr) (many : Nat) (ms : List Mv), vs = [.ref x] ∧ ChainAt C H x many ms ∧ Good many ms ∧ GxR.TabG H T ∧ ∀ L H', Gr T H H' → GxR.TabG H' T → H L = none → ListsAt H' L (closedL many ms) → Q (.ref L) H'
theorem ok_closed {f fR fI fG fL fP fT cI tI : Addr} {fd fdR fdI fdG fdL fdP fdT : FuncData} (F : Fun K "closed" "closed" sClosed f fd) (DR : Df K mg "_reached" sReached ["moves", "begin"] fR fdR) (DI : Df K mg "_is_closed" sIsClosed ["reached", "group"] fI fdI) (FI : FunT K "_is_closed" "_is_closed" sIsClosed fI fdI cI) (TI : GxR.TabB base mg cI tI)
    (DG : Df K mg "groups_from" sGroupsFrom ["moves", "begin"] fG fdG) (DL : Df K mg "led_to" sLedTo ["whither", "group"] fL fdL) (T : ChM K C fP fT fdP fdT) (mr : mg "range" = none) (ml : mg "len" = none) (mE : mg "enumerate" = none) (mt : mg "tuple" = none) (ms' : mg "sorted" = none) (ma : mg "all" = none) (mL : mg "list" = none) :
    FnOk P w K mg base CX0 4 f fd ["chain"] (spCl C tI) := by
  have GR : FnOk P w K mg base CX0 3 fR fdR ["moves", "begin"] spRe := ok_reached DR.F DG DL ml mE mt ms'
  have GI : FnOk P w K mg base CX0 1 fI fdI ["reached", "group"] (spIc tI) := ok_isclosed FI TI ma
  have GT : FnOk P w K mg base CX0 1 fT fdT ["self"] (spTold C) := ok_told T.FT T.cl T.nV mL
  have GP : FnOk P w K mg base CX0 1 fP fdP ["self"] (spPlaces C) := ok_places T.FP T.cl T.nM
  refine F.ok scCl (fun vs H Q E h => ?_) (fun cdv A outer s H vs Q E hr h => ?_)
  · obtain ⟨x, many, ms, rfl, _⟩ := h
    rfl
  · obtain ⟨x, many, ms, rfl, hC, G, hTab, q⟩ := h
    have r1 : Room 1 _ := hr.mono (by decide)
    refine ⟨_, (pss_cons (ps_set (i := 1) scCl.nd rfl (.inr rfl) (pe_meth0 (pv 0) T.cl T.hT GT r1 T.bT .nil pass0))
      (pss_cons (ps_set (i := 2) scCl.nd rfl (.inr rfl) (pe_lc (own := [("place", 3)]) (g := gName 3) (tt := tYes) (te := (tCall spRe [] E0 (tCons (tVar 1) (tCons (tVar 3) tNil)))) rfl scCl.nd (pi_range1 (by rfl) mr (pa_cons (pe_meth0 (pv 0) T.cl T.hP GP r1 T.bP .nil pass0) pa_nil)) (blkOk_by (N := ["chain", "moves", "reached", "place", "group"]) (sc := defScope sClosed) (by decide +kernel)) (fun _ _ _ _ _ => by exact (pg_name (i := 3) scCl.nd rfl (.inl rfl))) (fun _ _ _ _ _ => pts_nil) (fun _ _ _ _ _ => by exact (pe_call GR hr (by rfl) DR.g DR.F.kp DR.b .nil pass0 (pa_cons (pv 1) (pa_cons (pv 3) pa_nil))))))
      (pss_one (ps_ret (pe_lc (own := [("place", 3), ("group", 4)]) (g := gTup K 2 (gCons (gName 3) (gCons (gName 4) gNil))) (tt := (tAnd (tTest (tOp rEq (tOp (rIxL K) (tVar 4) (tC (.int 0))) (tVar 3))) (tB (tCall (spIc tI) [] E0 (tCons (tVar 2) (tCons (tVar 4) tNil)))))) (te := (tVar 4)) rfl scCl.nd (pi_enum (by rfl) mE (pa_cons (pv 2) pa_nil)) (blkOk_by (N := ["chain", "moves", "reached", "place", "group"]) (sc := defScope sClosed) (by decide +kernel)) (fun _ _ _ _ _ => by exact ((pg_tup rfl (pgs_cons (pg_name (i := 3) scCl.nd rfl (.inl rfl)) (pgs_cons (pg_name (i := 4) scCl.nd rfl (.inl rfl)) pgs_nil))))) (fun _ _ _ _ _ => by exact (pts_one (PW.pt (pw_and (pt_cmpR op_eq (pe_ix ix_list (pv 4) pe_int (fun _ _ => rfl)) (pv 3) (nomark _)) (pw_and1 (pt_val (pe_call GI r1 (by rfl) DI.g DI.F.kp DI.b .nil pass0 (pa_cons (pv 2) (pa_cons (pv 4) pa_nil))))))))) (fun _ _ _ _ _ => by exact (pv 4))))))), ?_⟩
    have m1 := G.m1
    have m6 := G.m6
    have l8 := G.l8
    have GA : GoodAll many ms := G.mv
    obtain ⟨dx, a0, ws0, h1, h2, h3⟩ := id hC
    refine ⟨.ref x, rfl, x, dx, _, rfl, h1, ch_noT, x, many, ms, rfl, hC, fun m ws nm hM => ?_⟩
    have s1 := same_new (o := .lst ws) nm
    have hm : (upd H m (.lst ws)) m = some (.lst ws) := upd_same
    have hC1 := hC.same s1
    generalize upd H m (.lst ws) = H1 at s1 hm hM hC1 ⊢
    obtain ⟨dx, a0, ws0, h1, h2, h3⟩ := id hC1
    -- reached
    refine ⟨.ref x, rfl, x, dx, _, rfl, h1, ch_no, x, many, ms, rfl, hC1, _, rfl, by omega, by omega, fun R nR => ?_⟩
    refine lc_range (lo := 0) (n := ((many : Nat) : Int).toNat) (fun i H' => Same H1 H' ∧ ∃ as : List Addr, as.length = i ∧ H' R = some (.lst (as.map V.ref)) ∧ ∀ n : Nat, n < i → ∃ L, as[n]? = some L ∧ H' L = some (.lst ((reachL many ms (n : Int)).map V.int)))
      ⟨same_new nR, [], rfl, upd_same, fun n h => absurd h (Nat.not_lt_zero _)⟩ ?_ ?_
    · rintro i H2 hi ⟨s2, as, la, hR, hrow⟩
      refine ⟨rfl, .ref m, rfl, _, rfl, m, many, ws, ms, (0 + (i : Int)), rfl, s2 _ _ hm, hM.same (Same.tups s2), GA, l8, m6, by omega, by omega, fun L H3 s3 nL hL => ?_⟩
      have hR3 := s3 _ _ hR
      refine ⟨_, hR3, by rw [List.length_map, la]; exact small8 (by omega), fun b o e => by rw [upd_ne (ne_of_none e nR)]; exact s3 _ _ (s2 _ _ e), as ++ [L], by rw [List.length_append, la]; rfl, by rw [upd_same, List.map_append]; rfl, fun n hn => ?_⟩
      by_cases c : n < i
      · obtain ⟨L', e1, e2⟩ := hrow n c
        refine ⟨L', by rw [List.getElem?_append_left (by omega)]; exact e1, ?_⟩
        rw [upd_ne]
        · exact s3 _ _ e2
        · intro z
          rw [z, hR] at e2
          injection e2 with e2
          injection e2 with e2
          cases as with
          | nil =>
            simp at la
            omega
          | cons a r =>
            cases hh : reachL many ms (n : Int) with
            | nil => rw [hh] at e2; cases e2
            | cons y ys => rw [hh] at e2; cases e2
      · have en : n = i := by omega
        subst en
        refine ⟨L, by rw [List.getElem?_append_right (by omega), la, Nat.sub_self]; rfl, ?_⟩
        rw [upd_ne (ne_of_none hR nL).symm, show (n : Int) = 0 + (n : Int) by omega]
        exact hL
    · rintro H2 ⟨s2, as, la, hR, hrow⟩
      rw [Int.toNat_natCast] at la hrow
      have s12 := s1.trans s2
      have rowsR : RowsAt H2 R many (reachL many ms) := ⟨as, la, hR, hrow⟩
      have neT : ∀ {H' : Hp} {p : Addr}, GxR.TabG H' tI → H' p = none → p ≠ tI := fun t n z => by
        obtain ⟨ps, e, _⟩ := t
        rw [z, e] at n
        cases n
      have hTab2 := tab_same s12 hTab
      refine ⟨.ref R, rfl, R, _, rfl, SqL.of hR, fun D nD => ?_⟩
      have nDT := neT hTab2 nD
      refine lc_it walk_enum (fun i H' => Gr tI H2 H' ∧ GxR.TabG H' tI ∧ ∃ vs, H' D = some (.lst vs) ∧ Paired (LstOf H2) vs ((((ids many).take i).filter (clK many ms)).map (reachL many ms)))
        ⟨Gr.of_same (same_new nD), tab_same (same_new nD) hTab2, [], upd_same, .nil⟩ (fun i H' _ h => SqL.of (h.1.tab hTab2 (fun _ z => nomatch z) hR)) ?_ ?_
      · rintro i z H3 H4 hi ⟨g3, t3, vs, hD, hp⟩ ⟨Tp, u, v, rfl, nT, rfl, eu, ev⟩
        have eu' : u = .int (i : Int) := (Option.some.inj eu).symm
        subst eu'
        have him : i < many := by
          rw [List.length_map, la] at hi
          exact hi
        obtain ⟨L, eL, hL⟩ := hrow i him
        have evL : v = .ref L := by
          have ev' : (as.map V.ref)[i]? = some v := ev
          rw [List.getElem?_map, eL] at ev'
          exact (Option.some.inj ev').symm
        subst evL
        have g4 : Gr tI H2 (upd H3 Tp (.tup [.int (i : Int), .ref L])) := g3.new nT
        have t4 : GxR.TabG (upd H3 Tp (.tup [.int (i : Int), .ref L])) tI := tab_same (same_new nT) t3
        have hL4 : (upd H3 Tp (.tup [.int (i : Int), .ref L])) L = some (.lst ((reachL many ms (i : Int)).map V.int)) := g4.tab hTab2 (fun _ z => nomatch z) hL
        have rows4 := rowsR.same fun b o n e => g4.tab hTab2 n e
        have eid : (ids many)[i]? = some (i : Int) := by
          unfold ids
          rw [List.getElem?_map, List.getElem?_range him]
          rfl
        have rin := fun y (hy : y ∈ reachL many ms (i : Int)) => reachL_in hy
        have self := reachL_self GA m6 (p := (i : Int)) (by omega) (by omega)
        obtain ⟨y0, r0, er0⟩ : ∃ y0 r0, reachL many ms (i : Int) = y0 :: r0 := by
          cases hh : reachL many ms (i : Int) with
          | nil => rw [hh] at self; cases self
          | cons y r => exact ⟨y, r, rfl⟩
        refine ⟨Tp, [.int (i : Int), .ref L], rfl, SqT.of upd_same, rfl, .int (i : Int), [.ref L], rfl, .ref L, [], rfl, rfl, rfl, ?_⟩
        have hD4 : (upd H3 Tp (.tup [.int (i : Int), .ref L])) D = some (.lst vs) := same_new nT _ _ hD
        have tk := filter_snoc (F := clK many ms) eid
        refine ⟨.ref L, rfl, L, _, 0, .int y0, rfl, rfl, SqL.of hL4, atI_nat (j := 0) (by rw [er0]; rfl), .int (i : Int), rfl, rfl, ?_⟩
        have g0 : (reachL many ms (i : Int)).getD 0 0 = y0 := by rw [er0]; rfl
        have clI : clK many ms (i : Int) = (decide (y0 = (i : Int)) && (reachL many ms (i : Int)).all fun x => decide (reachL many ms x = reachL many ms (i : Int))) := by
          unfold clK
          rw [g0]
        have skip : ∀ {H5 : Hp}, Gr tI (upd H3 Tp (.tup [.int (i : Int), .ref L])) H5 → GxR.TabG H5 tI → clK many ms (i : Int) = false → Gr tI H2 H5 ∧ GxR.TabG H5 tI ∧ ∃ vs, H5 D = some (.lst vs) ∧ Paired (LstOf H2) vs ((((ids many).take (i + 1)).filter (clK many ms)).map (reachL many ms)) := by
          intro H5 g5 t5 hk
          rw [tk, hk]
          exact ⟨g4.trans g5, t5, vs, g5.tab t4 (fun _ z => nomatch z) hD4, by simpa using hp⟩
        by_cases c0 : y0 = (i : Int)
        · -- _is_closed(reached, group)
          refine ⟨decide (V.int y0 = V.int (i : Int)), rfl, ?_⟩
          rw [decide_eq_true (show V.int y0 = V.int (i : Int) by rw [c0])]
          refine iteT ?_
          refine ⟨.ref R, rfl, .ref L, rfl, R, L, many, reachL many ms, _, rfl, rows4, m6, hL4, rin, t4, fun H5 g5 t5 => ⟨_, rfl, ?_⟩⟩
          cases hk : (reachL many ms (i : Int)).all fun x => decide (reachL many ms x = reachL many ms (i : Int)) with
          | true =>
            refine iteT ?_
            have ck : clK many ms (i : Int) = true := by
              rw [clI, hk, decide_eq_true c0]
              rfl
            have k1 : H5 D = some (.lst vs) := g5.tab t4 (fun _ z => nomatch z) hD4
            have lenV : vs.length ≤ 6 := by
              have h1 := hp.length
              rw [h1, List.length_map]
              have h2 := List.length_filter_le (clK many ms) ((ids many).take i)
              rw [List.length_take] at h2
              omega
            refine ⟨.ref L, rfl, vs, k1, lt1k (by omega), (g4.trans g5).put nD, ?_, vs ++ [.ref L], upd_same, ?_⟩
            · obtain ⟨ps, e, t⟩ := t5
              exact ⟨ps, by rw [upd_ne (Ne.symm nDT)]; exact e, t⟩
            · rw [tk, ck, if_pos rfl, List.map_append]
              exact paired_end (F := LstOf H2) ⟨L, rfl, hL⟩ hp
          | false =>
            refine iteF ?_
            exact skip g5 t5 (by rw [clI, hk, Bool.and_false])
        · refine ⟨decide (V.int y0 = V.int (i : Int)), rfl, ?_⟩
          rw [decide_eq_false (fun z => c0 (V.int.inj z))]
          refine iteF (iteF ?_)
          exact skip (Gr.refl _ _) t4 (by rw [clI, decide_eq_false c0, Bool.false_and])
      · rintro H3 ⟨g3, t3, vs, hD, hp⟩
        have lid : (ids many).length = many := by
          unfold ids
          rw [List.length_map, List.length_range]
        rw [List.length_map, la, List.take_of_length_le (by rw [lid]; exact Nat.le_refl _)] at hp
        exact q D H3 ((Gr.of_same s12).trans g3) t3 (s12.free nD) ⟨vs, hD, L2.Paired.mapP hp fun v xs ⟨a, h1, h2⟩ => ⟨a, h1, g3.tab hTab2 (fun _ z => nomatch z) h2⟩⟩
end
/-! ### what the law reckons: reached places by turns, closed groups place by place -/
def moreK (ms : List Mv) (xs : List Int) : Nat → List Int
  | 0 => xs
  | k + 1 => moreK ms xs k ++ xs.map (goK (rowM ms k))
theorem mem_moreK {ms : List Mv} {xs : List Int} {q : Int} : ∀ {k}, q ∈ moreK ms xs k ↔ q ∈ xs ∨ ∃ n, n < k ∧ ∃ x ∈ xs, goK (rowM ms n) x = q
  | 0 => ⟨.inl, fun h => h.elim id fun ⟨n, hn, _⟩ => absurd hn (Nat.not_lt_zero _)⟩
  | k + 1 => by
    show q ∈ moreK ms xs k ++ _ ↔ _
    rw [List.mem_append, mem_moreK, List.mem_map]
    constructor
    · rintro ((h | ⟨n, hn, h⟩) | h)
      · exact .inl h
      · exact .inr ⟨n, by omega, h⟩
      · exact .inr ⟨k, by omega, h⟩
    · rintro (h | ⟨n, hn, h⟩)
      · exact .inl (.inl h)
      · by_cases e : n = k
        · subst e
          exact .inr h
        · exact .inl (.inr ⟨n, by omega, h⟩)
theorem moreK_len (ms : List Mv) (xs : List Int) : ∀ k, (moreK ms xs k).length = xs.length * (k + 1)
  | 0 => by show xs.length = _; omega
  | k + 1 => by
    show (moreK ms xs k ++ _).length = _
    rw [List.length_append, moreK_len, List.length_map, Nat.mul_succ xs.length (k + 1)]
def stepL (many : Nat) (ms : List Mv) (xs : List Int) : List Int := (ids many).filter fun q => decide (q ∈ moreK ms xs ms.length)
def reachN (many : Nat) (ms : List Mv) (p : Int) : Nat → List Int
  | 0 => [p]
  | t + 1 => stepL many ms (reachN many ms p t)
theorem stepL_good (many : Nat) (ms : List Mv) (xs : List Int) : goodG many (stepL many ms xs) := ⟨List.Pairwise.filter _ (ids_pair many), fun _ h => mem_ids.mp (List.mem_filter.mp h).1⟩
theorem reachN_good {many : Nat} {ms : List Mv} {p : Int} (p0 : 0 ≤ p) (p1 : p < (many : Int)) : ∀ t, goodG many (reachN many ms p t)
  | 0 => good_one p0 p1
  | t + 1 => stepL_good _ _ _
theorem mem_stepL {many : Nat} {ms : List Mv} (G : GoodAll many ms) {xs : List Int} (hx : goodG many xs) {q : Int} : q ∈ stepL many ms xs ↔ q ∈ xs ∨ ∃ n, n < ms.length ∧ ∃ x ∈ xs, goK (rowM ms n) x = q := by
  unfold stepL
  rw [List.mem_filter, decide_eq_true_iff, mem_moreK]
  constructor
  · exact fun h => h.2
  · intro h
    refine ⟨mem_ids.mpr ?_, h⟩
    rcases h with h | ⟨n, hn, x, h1, rfl⟩
    · exact hx.2 q h
    · exact goK_in' (rowM_good G hn) (hx.2 x h1).1 (hx.2 x h1).2
theorem rise_nodup {xs : List Int} (h : xs.Pairwise (· < ·)) : xs.Nodup := List.Pairwise.imp (fun {a b} (h : a < b) => (by omega : a ≠ b)) h
/-- a rising list within another one is it, or shorter -/
theorem rise_sub {xs ys : List Int} (hx : xs.Pairwise (· < ·)) (hy : ys.Pairwise (· < ·)) (h : ∀ k ∈ xs, k ∈ ys) : xs = ys ∨ xs.length < ys.length := by
  by_cases c : ∀ k ∈ ys, k ∈ xs
  · exact .inl (rise_same hx hy fun k => ⟨h k, c k⟩)
  · refine .inr ?_
    obtain ⟨y, hc⟩ := Classical.not_forall.mp c
    obtain ⟨hy1, hy2⟩ := Classical.not_imp.mp hc
    have := pigeon (l := y :: xs) (m := ys) (List.nodup_cons.mpr ⟨hy2, rise_nodup hx⟩) fun k hk => by
      rcases List.mem_cons.mp hk with e | hk
      · rw [e]; exact hy1
      · exact h k hk
    rw [List.length_cons] at this
    omega
theorem reachN_still {many : Nat} {ms : List Mv} (G : GoodAll many ms) {p : Int} (p0 : 0 ≤ p) (p1 : p < (many : Int)) : ∀ t, t + 1 ≤ (reachN many ms p t).length ∨ reachN many ms p (t + 1) = reachN many ms p t
  | 0 => .inl (Nat.le_refl _)
  | t + 1 => by
    rcases reachN_still G p0 p1 t with h | h
    · have g := reachN_good (ms := ms) p0 p1 t
      rcases rise_sub (xs := reachN many ms p t) (ys := reachN many ms p (t + 1)) g.1 (reachN_good p0 p1 (t + 1)).1 (fun k hk => (mem_stepL G g).mpr (.inl hk)) with e | lt
      · right
        show stepL many ms (reachN many ms p (t + 1)) = stepL many ms (reachN many ms p t)
        rw [← e]
      · left
        omega
    · right
      show stepL many ms (reachN many ms p (t + 1)) = stepL many ms (reachN many ms p t)
      rw [h]
theorem reachN_eq {many : Nat} {ms : List Mv} (G : GoodAll many ms) (m6 : many ≤ 6) {p : Int} (p0 : 0 ≤ p) (p1 : p < (many : Int)) : reachN many ms p many = reachL many ms p := by
  have st : reachN many ms p (many + 1) = reachN many ms p many := by
    rcases reachN_still (ms := ms) G p0 p1 many with h | h
    · have := (reachN_good (ms := ms) p0 p1 many).len
      omega
    · exact h
  have g := reachN_good (ms := ms) p0 p1 many
  have self : ∀ t, p ∈ reachN many ms p t := by
    intro t
    induction t with
    | zero => exact List.mem_singleton_self p
    | succ t ih => exact (mem_stepL G (reachN_good p0 p1 t)).mpr (.inl ih)
  have rch : ∀ t q, q ∈ reachN many ms p t → Rch ms p q := by
    intro t
    induction t with
    | zero =>
      intro q hq
      rw [List.mem_singleton.mp hq]
      exact Rch.refl ms p
    | succ t ih =>
      intro q hq
      rcases (mem_stepL G (reachN_good p0 p1 t)).mp hq with h | ⟨n, hn, x, hx, rfl⟩
      · exact ih q h
      · exact (ih x hx).step hn
  refine rise_same g.1 (reachL_rise many ms p) fun k => ?_
  rw [mem_reachL G m6 p0 p1]
  constructor
  · exact rch many k
  · intro h
    refine Rch.ind (F := fun q => q ∈ reachN many ms p many) (self many) (fun x n hx hn => ?_) h
    rw [← st]
    exact (mem_stepL G g).mpr (.inr ⟨n, hn, x, hx, rfl⟩)
/-! closed groups, as the law finds them -/
def okP (many : Nat) (ms : List Mv) (p : Int) : Bool := (reachL many ms p).all fun x => decide (reachL many ms x = reachL many ms p)
def lawCl (many : Nat) (ms : List Mv) : Nat → List (List Int)
  | 0 => []
  | k + 1 => if okP many ms (k : Int) = true ∧ reachL many ms (k : Int) ∉ lawCl many ms k then lawCl many ms k ++ [reachL many ms (k : Int)] else lawCl many ms k
theorem head_least {xs : List Int} (h : xs.Pairwise (· < ·)) {k : Int} (hk : k ∈ xs) : xs.getD 0 0 ∈ xs ∧ xs.getD 0 0 ≤ k := by
  cases xs with
  | nil => cases hk
  | cons a r =>
    show a ∈ a :: r ∧ a ≤ k
    refine ⟨List.mem_cons_self, ?_⟩
    rcases List.mem_cons.mp hk with e | hk
    · omega
    · have := (List.pairwise_cons.mp h).1 k hk
      omega
theorem clK_def (many : Nat) (ms : List Mv) (p : Int) : clK many ms p = true ↔ (reachL many ms p).getD 0 0 = p ∧ okP many ms p = true := by
  unfold clK
  rw [Bool.and_eq_true, decide_eq_true_iff]
  exact Iff.rfl
/-- a place from which all come back: the least of its group heads a closed one -/
theorem okP_head {many : Nat} {ms : List Mv} (G : GoodAll many ms) (m6 : many ≤ 6) {p : Int} (p0 : 0 ≤ p) (p1 : p < (many : Int)) (h : okP many ms p = true) : clK many ms ((reachL many ms p).getD 0 0) = true ∧ reachL many ms ((reachL many ms p).getD 0 0) = reachL many ms p := by
  obtain ⟨h1, h2⟩ := head_least (reachL_rise many ms p) (reachL_self G m6 p0 p1)
  have all := List.all_eq_true.mp h
  have e : reachL many ms ((reachL many ms p).getD 0 0) = reachL many ms p := of_decide_eq_true (all _ h1)
  refine ⟨(clK_def _ _ _).mpr ⟨by rw [e], ?_⟩, e⟩
  unfold okP
  rw [e]
  exact List.all_eq_true.mpr all
theorem lawCl_eq {many : Nat} {ms : List Mv} (G : GoodAll many ms) (m6 : many ≤ 6) : ∀ k, k ≤ many → lawCl many ms k = (((ids many).take k).filter (clK many ms)).map (reachL many ms)
  | 0, _ => by rw [List.take_zero]; rfl
  | k + 1, hk => by
    have ih := lawCl_eq G m6 k (by omega)
    have ek : (ids many)[k]? = some (k : Int) := by
      unfold ids
      rw [List.getElem?_map, List.getElem?_range (by omega)]
      rfl
    rw [filter_snoc ek, List.map_append, ← ih]
    show (if _ then _ else _) = _
    have mem : reachL many ms (k : Int) ∈ lawCl many ms k ↔ ∃ j : Nat, j < k ∧ clK many ms (j : Int) = true ∧ reachL many ms (j : Int) = reachL many ms (k : Int) := by
      rw [ih, List.mem_map]
      constructor
      · rintro ⟨j, hj, e⟩
        obtain ⟨h1, h2⟩ := List.mem_filter.mp hj
        obtain ⟨i, hi, ei⟩ := List.getElem_of_mem h1
        have hi' : i < k := by
          rw [List.length_take] at hi
          omega
        have ej : j = (i : Int) := by
          rw [← ei, List.getElem_take]
          unfold ids
          rw [List.getElem_map, List.getElem_range]
        subst ej
        exact ⟨i, hi', h2, e⟩
      · rintro ⟨j, hj, h1, h2⟩
        refine ⟨(j : Int), List.mem_filter.mpr ⟨List.mem_iff_getElem?.mpr ⟨j, ?_⟩, h1⟩, h2⟩
        rw [List.getElem?_take_of_lt hj]
        unfold ids
        rw [List.getElem?_map, List.getElem?_range (by omega)]
        rfl
    cases hc : clK many ms (k : Int) with
    | true =>
      obtain ⟨c1, c2⟩ := (clK_def _ _ _).mp hc
      rw [if_pos, if_pos rfl]
      · rfl
      · refine ⟨c2, fun m => ?_⟩
        obtain ⟨j, hj, h1, h2⟩ := mem.mp m
        obtain ⟨d1, _⟩ := (clK_def _ _ _).mp h1
        rw [h2, c1] at d1
        omega
    | false =>
      rw [if_neg, if_neg Bool.false_ne_true, List.map_nil, List.append_nil]
      rintro ⟨a1, a2⟩
      have k1 : (0 : Int) ≤ k := by omega
      have k2 : (k : Int) < (many : Int) := by omega
      obtain ⟨b1, b2⟩ := okP_head G m6 k1 k2 a1
      obtain ⟨h1, h2⟩ := head_least (reachL_rise many ms (k : Int)) (reachL_self G m6 k1 k2)
      have ne : (reachL many ms (k : Int)).getD 0 0 ≠ (k : Int) := fun z => by
        rw [(clK_def _ _ _).mpr ⟨z, a1⟩] at hc
        cases hc
      have h0 := (reachL_in h1).1
      refine a2 (mem.mpr ⟨((reachL many ms (k : Int)).getD 0 0).toNat, by omega, ?_, ?_⟩)
      · rw [show ((((reachL many ms (k : Int)).getD 0 0).toNat : Nat) : Int) = (reachL many ms (k : Int)).getD 0 0 by omega]
        exact b1
      · rw [show ((((reachL many ms (k : Int)).getD 0 0).toNat : Nat) : Int) = (reachL many ms (k : Int)).getD 0 0 by omega]
        exact b2
theorem lawCl_closed {many : Nat} {ms : List Mv} (G : GoodAll many ms) (m6 : many ≤ 6) : lawCl many ms many = closedL many ms := by
  rw [lawCl_eq G m6 many (Nat.le_refl _), List.take_of_length_le (by unfold ids; rw [List.length_map, List.length_range]; exact Nat.le_refl _)]
  rfl
/-- there is a closed group -/
theorem some_ok {many : Nat} {ms : List Mv} (G : GoodAll many ms) (m6 : many ≤ 6) (n : Nat) : ∀ (p : Int), 0 ≤ p → p < (many : Int) → (reachL many ms p).length ≤ n → ∃ q, 0 ≤ q ∧ q < (many : Int) ∧ okP many ms q = true := by
  induction n with
  | zero =>
    intro p p0 p1 h
    have := List.length_pos_of_mem (reachL_self G m6 p0 p1)
    omega
  | succ n ih =>
    intro p p0 p1 h
    cases hk : okP many ms p with
    | true => exact ⟨p, p0, p1, hk⟩
    | false =>
      obtain ⟨x, hx, hd⟩ := List.all_eq_false.mp hk
      have hne : reachL many ms x ≠ reachL many ms p := fun z => hd (decide_eq_true z)
      obtain ⟨x0, x1⟩ := reachL_in hx
      have hpx := (mem_reachL G m6 p0 p1).mp hx
      rcases rise_sub (reachL_rise many ms x) (reachL_rise many ms p) (fun k hk => (mem_reachL G m6 p0 p1).mpr (hpx.trans ((mem_reachL G m6 x0 x1).mp hk))) with e | lt
      · exact absurd e hne
      · exact ih x x0 x1 (by omega)
theorem closedL_ne {many : Nat} {ms : List Mv} (G : GoodAll many ms) (m1 : 1 ≤ many) (m6 : many ≤ 6) : closedL many ms ≠ [] := by
  obtain ⟨q, q0, q1, hq⟩ := some_ok G m6 _ 0 (by omega) (by omega) (Nat.le_refl _)
  obtain ⟨h1, h2⟩ := okP_head G m6 q0 q1 hq
  obtain ⟨hh, _⟩ := head_least (reachL_rise many ms q) (reachL_self G m6 q0 q1)
  intro e
  have : reachL many ms ((reachL many ms q).getD 0 0) ∈ closedL many ms := List.mem_map.mpr ⟨_, List.mem_filter.mpr ⟨(List.mem_filter.mp hh).1, h1⟩, rfl⟩
  rw [e] at this
  cases this
theorem closedL_len (many : Nat) (ms : List Mv) : (closedL many ms).length ≤ many := by
  unfold closedL
  rw [List.length_map]
  refine Nat.le_trans (List.length_filter_le _ _) ?_
  unfold ids
  rw [List.length_map, List.length_range]
  exact Nat.le_refl _
theorem closedL_row {many : Nat} {ms : List Mv} {g : List Int} (h : g ∈ closedL many ms) : g.length ≤ many := by
  obtain ⟨p, _, rfl⟩ := List.mem_map.mp h
  exact goodG.len ⟨reachL_rise many ms p, fun _ h => reachL_in h⟩
/-! ### so much of each: sums over rows of numbers, and what is counted by keys -/
section
/-- a sum over a list -/
def sumL {α : Type} (l : List α) (f : α → Int) : Int := (l.map f).sum
theorem sumL_nil {α : Type} (f : α → Int) : sumL [] f = 0 := rfl
theorem sumL_cons {α : Type} (a : α) (l : List α) (f : α → Int) : sumL (a :: l) f = f a + sumL l f := by unfold sumL; rw [List.map_cons, List.sum_cons]
theorem sumL_app {α : Type} (l k : List α) (f : α → Int) : sumL (l ++ k) f = sumL l f + sumL k f := by unfold sumL; rw [List.map_append, List.sum_append]
theorem sumL_congr {α : Type} {l : List α} {f g : α → Int} (h : ∀ a ∈ l, f a = g a) : sumL l f = sumL l g := by unfold sumL; rw [List.map_congr_left h]
theorem sumL_add {α : Type} (f g : α → Int) : ∀ l : List α, sumL l (fun a => f a + g a) = sumL l f + sumL l g
  | [] => rfl
  | a :: l => by rw [sumL_cons, sumL_cons, sumL_cons, sumL_add f g l]; omega
theorem sumL_mul {α : Type} (k : Int) (f : α → Int) : ∀ l : List α, sumL l (fun a => k * f a) = k * sumL l f
  | [] => (Int.mul_zero k).symm
  | a :: l => by rw [sumL_cons, sumL_cons, sumL_mul k f l, Int.mul_add]
theorem sumL_zero {α : Type} : ∀ l : List α, sumL l (fun _ => 0) = 0
  | [] => rfl
  | a :: l => by rw [sumL_cons, sumL_zero l]; rfl
theorem sumL_none {α : Type} {l : List α} {f : α → Int} (h : ∀ a ∈ l, f a = 0) : sumL l f = 0 := (sumL_congr h).trans (sumL_zero l)
theorem sumL_comm {α β : Type} (f : α → β → Int) (k : List β) : ∀ l : List α, sumL l (fun a => sumL k (f a)) = sumL k (fun b => sumL l fun a => f a b)
  | [] => (sumL_zero k).symm
  | a :: l => by
    rw [sumL_cons, sumL_comm f k l, ← sumL_add]
    exact sumL_congr fun b _ => (sumL_cons a l fun a => f a b).symm
theorem sumL_nn {α : Type} {l : List α} {f : α → Int} (h : ∀ a ∈ l, 0 ≤ f a) : 0 ≤ sumL l f := by
  induction l with
  | nil => exact Int.le_refl _
  | cons a l ih =>
    rw [sumL_cons]
    have := h a List.mem_cons_self
    have := ih fun b hb => h b (List.mem_cons_of_mem _ hb)
    omega
theorem sumL_le {α : Type} {l : List α} {f g : α → Int} (h : ∀ a ∈ l, f a ≤ g a) : sumL l f ≤ sumL l g := by
  induction l with
  | nil => exact Int.le_refl _
  | cons a l ih =>
    rw [sumL_cons, sumL_cons]
    have := h a List.mem_cons_self
    have := ih fun b hb => h b (List.mem_cons_of_mem _ hb)
    omega
theorem sumL_flat {α β : Type} (g : α → List β) (f : β → Int) : ∀ l : List α, sumL (l.flatMap g) f = sumL l fun a => sumL (g a) f
  | [] => rfl
  | a :: l => by rw [List.flatMap_cons, sumL_app, sumL_cons, sumL_flat g f l]
theorem sumL_map {α β : Type} (g : α → β) (f : β → Int) (l : List α) : sumL (l.map g) f = sumL l fun a => f (g a) := by unfold sumL; rw [List.map_map]; rfl
theorem sumL_mulr {α : Type} (k : Int) (f : α → Int) (l : List α) : sumL l (fun a => f a * k) = sumL l f * k := by
  rw [Int.mul_comm, ← sumL_mul]
  exact sumL_congr fun a _ => Int.mul_comm _ _
/-! #### rows of so many numbers -/
variable (ms : List Mv)
def wtN (a : Int) : Int := (ms.getD a.toNat (0, [])).1
def nums : List Int := (List.range ms.length).map fun (i : Nat) => (i : Int)
/-- one number more, at the end -/
def stepA (ψ : List Int → Int) (r : List Int) : Int := sumL (nums ms) fun a => wtN ms a * ψ (r ++ [a])
/-- over all rows of n numbers, each by its weight -/
def rowsS : Nat → (List Int → Int) → Int
  | 0, ψ => ψ []
  | n + 1, ψ => rowsS n (stepA ms ψ)
variable {ms}
theorem mem_nums {a : Int} : a ∈ nums ms ↔ 0 ≤ a ∧ a < (ms.length : Int) := mem_ids (many := ms.length)
theorem rowsS_congr : ∀ {n : Nat} {ψ φ : List Int → Int}, (∀ r, r.length = n → (∀ a ∈ r, 0 ≤ a ∧ a < (ms.length : Int)) → ψ r = φ r) → rowsS ms n ψ = rowsS ms n φ
  | 0, _, _, h => h [] rfl fun _ h => nomatch h
  | n + 1, ψ, φ, h => rowsS_congr (n := n) fun r hl hr => sumL_congr fun a ha => by
    rw [h (r ++ [a]) (by rw [List.length_append, hl]; rfl) fun b hb => ?_]
    rcases List.mem_append.mp hb with hb | hb
    · exact hr b hb
    · rw [List.mem_singleton.mp hb]; exact mem_nums.mp ha
theorem rowsS_add : ∀ (n : Nat) (ψ φ : List Int → Int), rowsS ms n (fun r => ψ r + φ r) = rowsS ms n ψ + rowsS ms n φ
  | 0, _, _ => rfl
  | n + 1, ψ, φ => by
    show rowsS ms n (stepA ms fun r => ψ r + φ r) = rowsS ms n (stepA ms ψ) + rowsS ms n (stepA ms φ)
    rw [← rowsS_add n]
    refine congrArg (rowsS ms n) (funext fun r => ?_)
    unfold stepA
    rw [← sumL_add]
    exact sumL_congr fun a _ => Int.mul_add _ _ _
theorem rowsS_mul (k : Int) : ∀ (n : Nat) (ψ : List Int → Int), rowsS ms n (fun r => k * ψ r) = k * rowsS ms n ψ
  | 0, _ => rfl
  | n + 1, ψ => by
    show rowsS ms n (stepA ms fun r => k * ψ r) = k * rowsS ms n (stepA ms ψ)
    rw [← rowsS_mul k n]
    refine congrArg (rowsS ms n) (funext fun r => ?_)
    unfold stepA
    rw [← sumL_mul]
    exact sumL_congr fun a _ => by grind
theorem rowsS_zero (n : Nat) : rowsS ms n (fun _ => 0) = 0 := by
  have := rowsS_mul (ms := ms) 0 n (fun _ => 0)
  simpa using this
theorem rowsS_sum {α : Type} (n : Nat) (f : α → List Int → Int) : ∀ l : List α, rowsS ms n (fun r => sumL l fun a => f a r) = sumL l fun a => rowsS ms n (f a)
  | [] => rowsS_zero n
  | a :: l => by
    rw [sumL_cons, ← rowsS_sum n f l, ← rowsS_add]
    refine congrArg (rowsS ms n) (funext fun r => sumL_cons _ _ _)
/-- the first number ahead -/
theorem rowsS_front : ∀ (n : Nat) (ψ : List Int → Int), rowsS ms (n + 1) ψ = sumL (nums ms) fun a => wtN ms a * rowsS ms n fun r => ψ (a :: r)
  | 0, _ => rfl
  | n + 1, ψ => by
    show rowsS ms (n + 1) (stepA ms ψ) = _
    rw [rowsS_front n (stepA ms ψ)]
    rfl
/-- turned round -/
theorem rowsS_rev : ∀ (n : Nat) (ψ : List Int → Int), rowsS ms n (fun r => ψ r.reverse) = rowsS ms n ψ
  | 0, _ => rfl
  | n + 1, ψ => by
    rw [rowsS_front n ψ]
    have e : stepA ms (fun r => ψ r.reverse) = fun r => (fun s => sumL (nums ms) fun a => wtN ms a * ψ (a :: s)) r.reverse := funext fun r => by
      unfold stepA
      refine sumL_congr fun a _ => ?_
      show wtN ms a * ψ (r ++ [a]).reverse = _
      rw [List.reverse_append]
      rfl
    show rowsS ms n (stepA ms fun r => ψ r.reverse) = _
    rw [e]
    refine (rowsS_rev n fun s => sumL (nums ms) fun a => wtN ms a * ψ (a :: s)).trans ?_
    rw [rowsS_sum]
    exact sumL_congr fun a _ => rowsS_mul _ _ _
theorem rowsS_nn (hw : ∀ m ∈ ms, 0 ≤ m.1) : ∀ (n : Nat) {ψ : List Int → Int}, (∀ r, 0 ≤ ψ r) → 0 ≤ rowsS ms n ψ
  | 0, _, h => h []
  | n + 1, ψ, h => rowsS_nn hw n fun r => sumL_nn fun a ha => Int.mul_nonneg (by
      unfold wtN
      have := mem_nums.mp ha
      rw [List.getD_eq_getElem?_getD, List.getElem?_eq_getElem (by omega)]
      exact hw _ (List.getElem_mem _)) (h _)
theorem rowsS_le (hw : ∀ m ∈ ms, 0 ≤ m.1) (n : Nat) {ψ φ : List Int → Int} (h : ∀ r, ψ r ≤ φ r) : rowsS ms n ψ ≤ rowsS ms n φ := by
  have h1 := rowsS_nn hw n (ψ := fun r => φ r + (-1) * ψ r) fun r => by have := h r; omega
  rw [rowsS_add, rowsS_mul] at h1
  omega
/-- all moves' numbers, all moves -/
theorem sum_nums (f : Mv → Int) : (sumL (nums ms) fun a => f (ms.getD a.toNat (0, []))) = sumL ms f := by
  have e : (nums ms).map (fun a => ms.getD a.toNat (0, [])) = ms := by
    unfold nums
    rw [List.map_map]
    apply List.ext_getElem?
    intro i
    rw [List.getElem?_map]
    by_cases h : i < ms.length
    · rw [List.getElem?_range h, List.getElem?_eq_getElem h]
      show some (ms.getD ((i : Nat) : Int).toNat (0, [])) = _
      rw [Int.toNat_natCast, List.getD_eq_getElem?_getD, List.getElem?_eq_getElem h]
      rfl
    · rw [List.getElem?_eq_none (by rw [List.length_range]; omega), List.getElem?_eq_none (by omega)]
      rfl
  have h := sumL_map (fun a : Int => ms.getD a.toNat (0, [])) f (nums ms)
  rw [e] at h
  exact h.symm
variable (ms) in
/-- all weights -/
def whole : Int := sumL ms fun m => m.1
theorem stepA_const (k : Int) (r : List Int) : stepA ms (fun _ => k) r = whole ms * k := by
  unfold stepA whole
  rw [sumL_mulr]
  congr 1
  exact sum_nums (fun m => m.1)
theorem rowsS_const : ∀ (n : Nat) (k : Int), rowsS ms n (fun _ => k) = whole ms ^ n * k
  | 0, k => by rw [Int.pow_zero, Int.one_mul]; rfl
  | n + 1, k => by
    show rowsS ms n (stepA ms fun _ => k) = _
    rw [show stepA ms (fun _ => k) = fun _ => whole ms * k from funext fun r => stepA_const k r, rowsS_const n, Int.pow_succ, Int.mul_assoc]
/-! #### what is counted by keys -/
abbrev Cnt := List (List Int × Int)
def addC : Cnt → List Int → Int → Cnt
  | [], g, v => [(g, v)]
  | p :: D, g, v => if p.1 = g then (p.1, p.2 + v) :: D else p :: addC D g v
def valC (D : Cnt) (g : List Int) : Int := ((D.find? fun p => decide (p.1 = g)).map (·.2)).getD 0
def exC (D : Cnt) (φ : List Int → Int) : Int := sumL D fun p => p.2 * φ p.1
theorem exC_add (φ : List Int → Int) (g : List Int) (v : Int) : ∀ D : Cnt, exC (addC D g v) φ = exC D φ + v * φ g
  | [] => by
    show exC [(g, v)] φ = _
    unfold exC
    rw [sumL_cons, sumL_nil]
    show v * φ g + 0 = 0 + v * φ g
    omega
  | p :: D => by
    have ih := exC_add φ g v D
    unfold exC at ih ⊢
    unfold addC
    by_cases h : p.1 = g
    · rw [if_pos h, sumL_cons, sumL_cons, ← h]
      grind
    · rw [if_neg h, sumL_cons, sumL_cons, ih]
      omega
theorem addC_keys {g : List Int} {v : Int} : ∀ {D : Cnt} {k : List Int}, k ∈ (addC D g v).map (·.1) ↔ k = g ∨ k ∈ D.map (·.1)
  | [], k => by
    show k ∈ [g] ↔ _
    simp
  | p :: D, k => by
    unfold addC
    by_cases h : p.1 = g
    · rw [if_pos h, List.map_cons, List.map_cons, List.mem_cons, ← h]
      constructor
      · exact .inr
      · rintro (e | e)
        · exact .inl e
        · exact e
    · rw [if_neg h, List.map_cons, List.map_cons, List.mem_cons, List.mem_cons, addC_keys (D := D)]
      constructor
      · rintro (e | e | e)
        · exact .inr (.inl e)
        · exact .inl e
        · exact .inr (.inr e)
      · rintro (e | e | e)
        · exact .inr (.inl e)
        · exact .inl e
        · exact .inr (.inr e)
theorem addC_nodup {g : List Int} {v : Int} : ∀ {D : Cnt}, (D.map (·.1)).Nodup → ((addC D g v).map (·.1)).Nodup
  | [], _ => by
    show [g].Nodup
    simp
  | p :: D, h => by
    rw [List.map_cons, List.nodup_cons] at h
    unfold addC
    by_cases e : p.1 = g
    · rw [if_pos e, List.map_cons, List.nodup_cons]
      exact h
    · rw [if_neg e, List.map_cons, List.nodup_cons]
      exact ⟨fun z => (addC_keys.mp z).elim e h.1, addC_nodup h.2⟩
theorem valC_ex {g : List Int} : ∀ {D : Cnt}, (D.map (·.1)).Nodup → valC D g = exC D fun k => if k = g then 1 else 0
  | [], _ => rfl
  | p :: D, h => by
    rw [List.map_cons, List.nodup_cons] at h
    have ih := valC_ex (g := g) h.2
    unfold valC exC at ih ⊢
    rw [sumL_cons, List.find?_cons]
    by_cases e : p.1 = g
    · rw [decide_eq_true e]
      show p.2 = p.2 * (if p.1 = g then 1 else 0) + _
      rw [if_pos e, sumL_none fun q hq => ?_]
      · omega
      · show q.2 * (if q.1 = g then 1 else 0) = 0
        rw [if_neg fun z => h.1 (by rw [e, ← z]; exact List.mem_map.mpr ⟨q, hq, rfl⟩), Int.mul_zero]
    · rw [decide_eq_false e]
      show _ = p.2 * (if p.1 = g then 1 else 0) + _
      rw [if_neg e, Int.mul_zero, Int.zero_add]
      exact ih
theorem sum_ex (D : Cnt) : (D.map (·.2)).sum = exC D fun _ => 1 := by
  unfold exC sumL
  congr 1
  exact List.map_congr_left fun p _ => (Int.mul_one _).symm
/-- a step on: each key's weight to where moves lead it -/
def stepC (ms : List Mv) (led : Mv → List Int → List Int) (D : Cnt) : Cnt := D.foldl (fun B p => ms.foldl (fun B m => addC B (led m p.1) (p.2 * m.1)) B) []
theorem foldl_inv {α β : Type} {P : List α → β → Prop} {f : β → α → β} (l : List α) {b : β} (h0 : P [] b) (hs : ∀ pre a b, P pre b → P (pre ++ [a]) (f b a)) : P l (l.foldl f b) := by
  have : ∀ (l pre : List α) (b : β), P pre b → P (pre ++ l) (l.foldl f b) := by
    intro l
    induction l with
    | nil => intro pre b h; rw [List.append_nil]; exact h
    | cons a l ih =>
      intro pre b h
      have := ih (pre ++ [a]) (f b a) (hs pre a b h)
      rw [List.append_assoc] at this
      exact this
  exact this l [] b h0
theorem exC_moves (led : Mv → List Int → List Int) (φ : List Int → Int) (p : List Int × Int) (B : Cnt) : exC (ms.foldl (fun B m => addC B (led m p.1) (p.2 * m.1)) B) φ = exC B φ + p.2 * sumL ms fun m => m.1 * φ (led m p.1) := by
  refine foldl_inv (P := fun pre b => exC b φ = exC B φ + p.2 * sumL pre fun m => m.1 * φ (led m p.1)) ms ?_ fun pre m b h => ?_
  · rw [sumL_nil]; omega
  · rw [exC_add, h, sumL_app, sumL_cons, sumL_nil]
    grind
theorem exC_step (led : Mv → List Int → List Int) (φ : List Int → Int) (D : Cnt) : exC (stepC ms led D) φ = exC D fun g => sumL ms fun m => m.1 * φ (led m g) := by
  unfold stepC
  have := foldl_inv (P := fun pre b => exC b φ = exC pre fun g => sumL ms fun m => m.1 * φ (led m g)) (f := fun B p => ms.foldl (fun B m => addC B (led m p.1) (p.2 * m.1)) B) D (b := []) rfl fun pre p b h => ?_
  · exact this
  · rw [exC_moves, h]
    unfold exC
    rw [sumL_app, sumL_cons, sumL_nil, Int.add_zero]
theorem stepC_nodup (led : Mv → List Int → List Int) (D : Cnt) : ((stepC ms led D).map (·.1)).Nodup := by
  unfold stepC
  refine foldl_inv (P := fun _ (b : Cnt) => (b.map (fun x => x.1)).Nodup) D ?_ fun pre p b h => ?_
  · exact List.nodup_nil
  · exact foldl_inv (P := fun _ (b : Cnt) => (b.map (fun x => x.1)).Nodup) ms h fun pre m b h => addC_nodup h
theorem stepC_keys {P : List Int → Prop} (led : Mv → List Int → List Int) {D : Cnt} (h : ∀ p ∈ D, ∀ m ∈ ms, P (led m p.1)) : ∀ p ∈ stepC ms led D, P p.1 := by
  have key : ∀ b : Cnt, (∀ k ∈ b.map (·.1), P k) → ∀ p ∈ b, P p.1 := fun b hb p hp => hb _ (List.mem_map.mpr ⟨p, hp, rfl⟩)
  have inn : ∀ (p : List Int × Int) (l : List Mv) (b : Cnt), (∀ m ∈ l, P (led m p.1)) → (∀ k ∈ b.map (·.1), P k) → ∀ k ∈ (l.foldl (fun B m => addC B (led m p.1) (p.2 * m.1)) b).map (·.1), P k := by
    intro p l
    induction l with
    | nil => intro b _ hb; exact hb
    | cons m l ih =>
      intro b hl hb
      refine ih _ (fun x hx => hl x (List.mem_cons_of_mem _ hx)) fun k hk => ?_
      rcases addC_keys.mp hk with e | e
      · rw [e]; exact hl m List.mem_cons_self
      · exact hb k e
  have out : ∀ (l : Cnt) (b : Cnt), (∀ p ∈ l, ∀ m ∈ ms, P (led m p.1)) → (∀ k ∈ b.map (·.1), P k) → ∀ k ∈ (l.foldl (fun B p => ms.foldl (fun B m => addC B (led m p.1) (p.2 * m.1)) B) b).map (·.1), P k := by
    intro l
    induction l with
    | nil => intro b _ hb; exact hb
    | cons p l ih =>
      intro b hl hb
      exact ih _ (fun x hx => hl x (List.mem_cons_of_mem _ hx)) (inn p ms b (hl p List.mem_cons_self) hb)
  exact key _ (out D [] h fun k hk => nomatch hk)
/-- so many steps on -/
def cntN (ms : List Mv) (led : Mv → List Int → List Int) (g0 : List Int) : Nat → Cnt
  | 0 => [(g0, 1)]
  | n + 1 => stepC ms led (cntN ms led g0 n)
def imgR (ms : List Mv) (led : Mv → List Int → List Int) (g0 : List Int) (r : List Int) : List Int := r.foldl (fun g a => led (ms.getD a.toNat (0, [])) g) g0
theorem cntN_ex (led : Mv → List Int → List Int) (g0 : List Int) : ∀ (n : Nat) (φ : List Int → Int), exC (cntN ms led g0 n) φ = rowsS ms n fun r => φ (imgR ms led g0 r)
  | 0, φ => by
    show exC [(g0, 1)] φ = φ g0
    unfold exC
    rw [sumL_cons, sumL_nil]
    show 1 * φ g0 + 0 = φ g0
    omega
  | n + 1, φ => by
    show exC (stepC ms led (cntN ms led g0 n)) φ = rowsS ms n (stepA ms fun r => φ (imgR ms led g0 r))
    rw [exC_step, cntN_ex led g0 n]
    refine congrArg (rowsS ms n) (funext fun r => ?_)
    unfold stepA
    rw [← sum_nums]
    refine sumL_congr fun a _ => ?_
    show _ = (ms.getD a.toNat (0, [])).1 * φ (imgR ms led g0 (r ++ [a]))
    unfold imgR
    rw [List.foldl_append]
    rfl
theorem cntN_nodup (led : Mv → List Int → List Int) (g0 : List Int) : ∀ n, ((cntN ms led g0 n).map (·.1)).Nodup
  | 0 => by show [g0].Nodup; simp
  | n + 1 => stepC_nodup led _
theorem cntN_val (led : Mv → List Int → List Int) (g0 : List Int) (n : Nat) (g : List Int) : valC (cntN ms led g0 n) g = rowsS ms n fun r => if imgR ms led g0 r = g then 1 else 0 := by
  rw [valC_ex (cntN_nodup led g0 n), cntN_ex]
theorem cntN_sum (led : Mv → List Int → List Int) (g0 : List Int) (n : Nat) : ((cntN ms led g0 n).map (·.2)).sum = whole ms ^ n := by
  rw [sum_ex, cntN_ex, rowsS_const, Int.mul_one]
end
section
variable {P : Program} {w : World} {K : PySem.W.Frag} {mg : Str → Option Value} {base : Heap} {C : Addr}
/-! ### fraction -/
theorem scFr : FnScope ["top", "bottom", "shared"] ["top", "bottom"] (defScope sFraction) := ⟨rfl, rfl, rfl, by decide +kernel, rfl, by decide +kernel, by decide +kernel⟩
/-- in lowest terms, the bottom above 0 -/
def fracZ (x y : Int) : Int × Int := if y < 0 then frac (-x) (-y) else frac x y
theorem fracZ_pos {x y : Int} (h : 0 < y) : fracZ x y = frac x y := if_neg (by omega)
def spFrZ : Sp := fun vs H Q _ => ∃ (x y : Int), vs = [.int x, .int y] ∧ y ≠ 0 ∧ y.natAbs < 2 ^ 8999 ∧ ∀ t, H t = none → Q (.ref t) (upd H t (.tup [.int (fracZ x y).1, .int (fracZ x y).2]))
theorem gcd_neg (x y : Int) : gcdI (-x) (-y) = gcdI x y := by
  unfold gcdI
  rw [Int.natAbs_neg, Int.natAbs_neg]
theorem fdiv_dvd {a b : Int} (h : b ∣ a) : a.fdiv b = a / b := by
  obtain ⟨c, rfl⟩ := h
  by_cases z : b = 0
  · rw [z]; simp
  · rw [Int.mul_fdiv_cancel_left _ z, Int.mul_ediv_cancel_left _ z]
theorem ok_fractionZ {f : Addr} {fd : FuncData} {k : Nat} (F : Fun K "fraction" "fraction" sFraction f fd) (mgcd : mg "gcd" = some (.builtin "math.gcd")) : FnOk P w K mg base CX0 (k + 1) f fd ["top", "bottom"] spFrZ := by
  refine F.ok scFr (fun vs H Q E h => ?_) (fun cdv A outer s H vs Q E hr h => ?_)
  · obtain ⟨x, y, rfl, _⟩ := h
    rfl
  · obtain ⟨x, y, rfl, h1, h2, q⟩ := h
    refine ⟨_, (pss_cons (ps_set (i := 2) scFr.nd rfl (.inl rfl) (pe_callBfun cr_gcd (by rfl) mgcd (pa_cons (pv 0) (pa_cons (pv 1) pa_nil))))
      (pss_cons (ps_if (pt_cmpR op_lt (pv 1) pe_int (nomark _)) (pss_one (ps_set (i := 2) scFr.nd rfl (.inl rfl) (pe_un un_neg (pv 2)))) pss_nil)
      (pss_one (ps_ret (pe_tup (pa_cons (pe_op op_fdivZ (pv 0) (pv 2)) (pa_cons (pe_op op_fdivZ (pv 1) (pv 2)) pa_nil))))))), ?_⟩
    have g0 : 0 < gcdI x y := by
      unfold gcdI
      have : 0 < Nat.gcd x.natAbs y.natAbs := Nat.gcd_pos_of_pos_right _ (by omega)
      omega
    have gl : (gcdI x y).natAbs < 2 ^ 8999 := by
      refine Nat.lt_of_le_of_lt ?_ h2
      unfold gcdI
      rw [Int.natAbs_natCast]
      exact Nat.le_of_dvd (by omega) (Nat.gcd_dvd_right _ _)
    have gn : (-gcdI x y).natAbs < 2 ^ 8999 := by rw [Int.natAbs_neg]; exact gl
    refine ⟨.int x, rfl, .int y, rfl, x, y, rfl, ?_⟩
    refine ⟨.int y, rfl, y, 0, rfl, rfl, _, rfl, ite2 (fun e => ?_) (fun e => ?_)⟩
    · have e2 : y < 0 := of_decide_eq_true e
      refine ⟨.int (gcdI x y), rfl, gcdI x y, rfl, ?_⟩
      refine ⟨.int x, rfl, .int (-gcdI x y), rfl, x, -gcdI x y, rfl, rfl, div_ok (by omega) gn (by decide) (by decide), .int y, rfl, .int (-gcdI x y), rfl, y, -gcdI x y, rfl, rfl, div_ok (by omega) gn (by decide) (by decide), (by show 2 ≤ sizeLine; decide), fun t nt => ?_⟩
      have e3 : x.fdiv (-gcdI x y) = (fracZ x y).1 := by
        unfold fracZ
        rw [if_pos e2, fdiv_dvd (Int.neg_dvd.mpr (gcdI_dl x y))]
        show _ = (-x) / gcdI (-x) (-y)
        rw [gcd_neg, Int.ediv_neg, Int.neg_ediv_of_dvd (gcdI_dl x y)]
      have e4 : y.fdiv (-gcdI x y) = (fracZ x y).2 := by
        unfold fracZ
        rw [if_pos e2, fdiv_dvd (Int.neg_dvd.mpr (gcdI_dr x y))]
        show _ = (-y) / gcdI (-x) (-y)
        rw [gcd_neg, Int.ediv_neg, Int.neg_ediv_of_dvd (gcdI_dr x y)]
      have := q t nt
      rw [← e3, ← e4] at this
      exact this
    · have e2 : ¬ y < 0 := fun z => e (decide_eq_true z)
      refine ⟨.int x, rfl, .int (gcdI x y), rfl, x, gcdI x y, rfl, rfl, div_ok (by omega) gl (by decide) (by decide), .int y, rfl, .int (gcdI x y), rfl, y, gcdI x y, rfl, rfl, div_ok (by omega) gl (by decide) (by decide), (by show 2 ≤ sizeLine; decide), fun t nt => ?_⟩
      have e3 : x.fdiv (gcdI x y) = (fracZ x y).1 := by
        unfold fracZ
        rw [if_neg e2, fdiv_dvd (gcdI_dl x y)]
        rfl
      have e4 : y.fdiv (gcdI x y) = (fracZ x y).2 := by
        unfold fracZ
        rw [if_neg e2, fdiv_dvd (gcdI_dr x y)]
        rfl
      have := q t nt
      rw [← e3, ← e4] at this
      exact this
/-! ### a dict of what is counted -/
def encC (D : Cnt) : List (List Key × V) := D.map fun p => (p.1.map Sum.inl, V.int p.2)
theorem encC_vals (D : Cnt) : (encC D).map (·.2) = (D.map (·.2)).map V.int := by
  unfold encC
  rw [List.map_map, List.map_map]
  rfl
theorem encC_len (D : Cnt) : (encC D).length = D.length := by unfold encC; rw [List.length_map]
theorem keyI_inj : ∀ {g k : List Int}, g.map (Sum.inl (β := Str)) = k.map Sum.inl → g = k
  | [], [], _ => rfl
  | [], _ :: _, h => nomatch h
  | _ :: _, [], h => nomatch h
  | a :: g, b :: k, h => by
    rw [List.map_cons, List.map_cons] at h
    injection h with h1 h2
    injection h1 with h1
    rw [h1, keyI_inj h2]
theorem encC_get (g : List Int) : ∀ D : Cnt, (valV (encC D) (g.map Sum.inl)).getD (.int 0) = .int (valC D g)
  | [] => rfl
  | p :: D => by
    have ih := encC_get g D
    by_cases h : p.1 = g
    · have e : (valV (encC (p :: D)) (g.map Sum.inl)) = some (.int p.2) := valV_pos (p := (p.1.map Sum.inl, V.int p.2)) (by rw [h])
      rw [e]
      unfold valC
      rw [List.find?_cons, decide_eq_true h]
      rfl
    · have e : (valV (encC (p :: D)) (g.map Sum.inl)) = valV (encC D) (g.map Sum.inl) := valV_neg (p := (p.1.map Sum.inl, V.int p.2)) fun z => h (keyI_inj z)
      rw [e, ih]
      unfold valC
      rw [List.find?_cons, decide_eq_false h]
theorem valC_cons_ne {p : List Int × Int} {D : Cnt} {g : List Int} (h : ¬ p.1 = g) : valC (p :: D) g = valC D g := by
  unfold valC
  rw [List.find?_cons, decide_eq_false h]
theorem map_same {D : Cnt} {g : List Int} {y : V} (h : g ∉ D.map (·.1)) : (encC D).map (fun kv => if kv.1 = g.map Sum.inl then (kv.1, y) else kv) = encC D := by
  unfold encC
  rw [List.map_map]
  refine List.map_congr_left fun p hp => ?_
  show (if p.1.map Sum.inl = g.map Sum.inl then _ else _) = _
  rw [if_neg fun z => h (by rw [← keyI_inj z]; exact List.mem_map.mpr ⟨p, hp, rfl⟩)]
theorem encC_put {g : List Int} {v : Int} : ∀ {D : Cnt}, (D.map (·.1)).Nodup → putK (encC D) (g.map Sum.inl) (.int (valC D g + v)) = encC (addC D g v)
  | [], _ => by
    show putK [] _ _ = encC [(g, v)]
    have : valC [] g + v = v := by show (0 : Int) + v = v; omega
    rw [this]
    rfl
  | p :: D, h => by
    rw [List.map_cons, List.nodup_cons] at h
    by_cases e : p.1 = g
    · have pe : p.1.map (Sum.inl (β := Str)) = g.map Sum.inl := by rw [e]
      unfold addC
      rw [if_pos e]
      unfold putK
      have a : ((encC (p :: D)).any fun kv => decide (kv.1 = g.map Sum.inl)) = true := by
        show (decide (p.1.map Sum.inl = g.map Sum.inl) || _) = true
        rw [decide_eq_true pe]
        rfl
      rw [if_pos a]
      show (if p.1.map Sum.inl = g.map Sum.inl then _ else _) :: (encC D).map _ = _
      rw [map_same (by rw [← e]; exact h.1), if_pos pe]
      have : valC (p :: D) g = p.2 := by
        unfold valC
        rw [List.find?_cons, decide_eq_true e]
        rfl
      rw [this]
      rfl
    · have ih := encC_put (g := g) (v := v) h.2
      have ne : ¬ p.1.map (Sum.inl (β := Str)) = g.map Sum.inl := fun z => e (keyI_inj z)
      rw [valC_cons_ne e]
      unfold addC
      rw [if_neg e]
      show _ = (p.1.map Sum.inl, V.int p.2) :: encC (addC D g v)
      rw [← ih]
      unfold putK
      have a : ((encC (p :: D)).any fun kv => decide (kv.1 = g.map Sum.inl)) = ((encC D).any fun kv => decide (kv.1 = g.map Sum.inl)) := by
        show (decide (p.1.map Sum.inl = g.map Sum.inl) || _) = _
        rw [decide_eq_false ne]
        rfl
      rw [a]
      by_cases b : ((encC D).any fun kv => decide (kv.1 = g.map Sum.inl)) = true
      · rw [if_pos b, if_pos b]
        show (if p.1.map Sum.inl = g.map Sum.inl then _ else _) :: _ = _
        rw [if_neg ne]
        rfl
      · rw [if_neg b, if_neg b]
        rfl
end
section
variable {P : Program} {w : World} {K : PySem.W.Frag} {mg : Str → Option Value} {base : Heap} {C : Addr}
/-! ### _behind_a_step -/
def ledM (many : Nat) (m : Mv) (g : List Int) : List Int := ledG many m.2 g
theorem scBs : FnScope ["moves", "weights", "behind", "group", "weight", "more", "whither", "led"] ["moves", "weights"] (defScope sBehindAStep) := ⟨rfl, rfl, rfl, by decide +kernel, rfl, by decide +kernel, by decide +kernel⟩
/-- keys that are groups, each once -/
def CntG (many : Nat) (D : Cnt) : Prop := (D.map (·.1)).Nodup ∧ ∀ p ∈ D, goodG many p.1
theorem CntG.len {many : Nat} {D : Cnt} (h : CntG many D) (m6 : many ≤ 6) : D.length ≤ 64 := by
  have hp := pigeon (m := subs (ids many)) h.1 fun g hg => by
    obtain ⟨p, hp, rfl⟩ := List.mem_map.mp hg
    obtain ⟨g1, g2⟩ := h.2 p hp
    exact mem_subs (ids_pair many) g1 fun k hk => mem_ids.mpr (g2 k hk)
  rw [subs_len, List.length_map] at hp
  have e : (ids many).length = many := by
    unfold ids
    rw [List.length_map, List.length_range]
  rw [e] at hp
  exact Nat.le_trans hp (Nat.pow_le_pow_right (n := 2) (by decide) m6)
theorem CntG.nil (many : Nat) : CntG many [] := ⟨List.nodup_nil, fun _ h => nomatch h⟩
theorem CntG.add {many : Nat} {D : Cnt} (h : CntG many D) {g : List Int} (hg : goodG many g) (v : Int) : CntG many (addC D g v) := by
  refine ⟨addC_nodup h.1, fun p hp => ?_⟩
  rcases addC_keys.mp (List.mem_map.mpr ⟨p, hp, rfl⟩) with e | e
  · rw [e]; exact hg
  · obtain ⟨q, hq, e⟩ := List.mem_map.mp e
    rw [← e]
    exact h.2 q hq
theorem foldl_snoc {α β : Type} {f : β → α → β} {b : β} {l : List α} {i : Nat} {a : α} (h : l[i]? = some a) : (l.take (i + 1)).foldl f b = f ((l.take i).foldl f b) a := by
  rw [take_snoc h, List.foldl_append]
  rfl
theorem encC_at {D : Cnt} {i : Nat} {k : List Key} {v : V} (h : (encC D)[i]? = some (k, v)) : ∃ p, D[i]? = some p ∧ k = p.1.map Sum.inl ∧ v = .int p.2 := by
  unfold encC at h
  rw [List.getElem?_map] at h
  obtain ⟨p, hp, e⟩ := Option.map_eq_some_iff.mp h
  cases e
  exact ⟨p, hp, rfl, rfl⟩
theorem walk_itemsT {d : Addr} {o : Obj} {kvs : List (List Key × V)} : L2.Walk (ItiT d o kvs) kvs.length (fun H => H d = some (.frz o (.dT kvs)))
    (fun i H x H' => ∃ (T q : Addr) (k : List Key) (v : V), kvs[i]? = some (k, v) ∧ x = .ref T ∧ H T = none ∧ H q = some (.tup (k.map kV)) ∧ H' = upd H T (.tup [.ref q, v])) :=
  ⟨fun _ _ hi q => ⟨q, hi⟩, fun _ q => ⟨q, Nat.le_refl _⟩, fun _ _ _ _ _ _ y => y⟩
theorem key_intsC (g : List Int) : (g.map (Sum.inl (β := Str))).map kV = g.map V.int := by
  rw [List.map_map]
  rfl
def spBs : Sp := fun vs H Q _ => ∃ (m d : Addr) (many : Nat) (ws : List V) (ms : List Mv) (D : Cnt), vs = [.ref m, .ref d] ∧ H m = some (.lst ws) ∧ MovesAt H ws ms ∧ Good many ms ∧ H d = some (.dT (encC D)) ∧ CntG many D ∧
  ∀ b H', Gr d H H' → H b = none → H' b = some (.dT (encC (stepC ms (ledM many) D))) → Q (.ref b) H'
theorem ok_bs {f fL : Addr} {fd fdL : FuncData} (F : Fun K "_behind_a_step" "_behind_a_step" sBehindAStep f fd) (DL : Df K mg "led_to" sLedTo ["whither", "group"] fL fdL) (mt : mg "tuple" = none) (ms' : mg "sorted" = none) : FnOk P w K mg base CX0 2 f fd ["moves", "weights"] spBs := by
  have GL : FnOk P w K mg base CX0 1 fL fdL ["whither", "group"] spLed := ok_led DL.F mt ms'
  refine F.ok scBs (fun vs H Q E h => ?_) (fun cdv A outer s H vs Q E hr h => ?_)
  · obtain ⟨m, d, many, ws, ms, D, rfl, _⟩ := h
    rfl
  · obtain ⟨m, d, many, ws, ms, D, rfl, hm, hM, G, hd, hc, q⟩ := h
    have r1 : Room 1 _ := hr
    have hu1 := hu_of hr
    refine ⟨_, (pss_cons (ps_set (i := 2) scBs.nd rfl (.inl rfl) pe_dnewT)
      (pss_cons (ps_for PassesOwn.never rfl (pi_itemsT (pe_frz (pv 1))) (pg_tup rfl (pgs_cons (pg_name (i := 3) scBs.nd rfl (.inl rfl)) (pgs_cons (pg_name (i := 4) scBs.nd rfl (.inl rfl)) pgs_nil))) (pss_one (ps_for PassesOwn.never rfl (pi_list (pv 0)) (pg_tup rfl (pgs_cons (pg_name (i := 5) scBs.nd rfl (.inl rfl)) (pgs_cons (pg_name (i := 6) scBs.nd rfl (.inl rfl)) pgs_nil))) (pss_cons (ps_set (i := 7) scBs.nd rfl (.inl rfl) (pe_call GL r1 (by rfl) DL.g DL.F.kp DL.b .nil pass0 (pa_cons (pv 6) (pa_cons (pv 3) pa_nil))))
      (pss_one (ps_dput (hu1) (pv 2) (pv 7) (pe_op op_add (pe_dget2 hu1 (pv 2) (pv 7) pe_int ⟨by rfl, by rfl, by rfl, by rfl⟩) (pe_op op_mul (pv 4) (pv 5))) rfl))))))
      (pss_one (ps_ret (pv 2))))), ?_⟩
    have m6 := G.m6
    have lD := hc.len m6
    refine fun B nB => ?_
    have s1 := same_new (o := .dT []) nB
    have hB1 : (upd H B (.dT [])) B = some (.dT (encC [])) := upd_same
    have hd1 := s1 _ _ hd
    have ndB : d ≠ B := ne_of_none hd nB
    have hm1 := s1 _ _ hm
    have hM1 : MovesAt (upd H B (.dT [])) ws ms := hM.same (Same.tups s1)
    show tSeq _ _ _ _ (upd H B (.dT []))
    generalize upd H B (.dT []) = H1 at s1 hB1 hd1 hm1 hM1 ⊢
    refine ⟨.ref d, rfl, d, _, rfl, hd1, True.intro, fun od => ⟨d, od, encC D, rfl, upd_same, ?_⟩⟩
    have kF : ∀ b o, b ≠ d → H1 b = some o → (upd H1 d (.frz od (.dT (encC D)))) b = some o := fun b o nb e => by rw [upd_ne nb]; exact e
    have hdF : (upd H1 d (.frz od (.dT (encC D)))) d = some (.frz od (.dT (encC D))) := upd_same
    have nmd : m ≠ d := fun z => by rw [z, hd] at hm; cases hm
    have hmF := kF _ _ nmd hm1
    have hMF : MovesAt (upd H1 d (.frz od (.dT (encC D)))) ws ms := hM1.same fun b xs e => kF _ _ (fun z => by rw [z, hd1] at e; cases e) e
    have hBF := kF _ _ ndB.symm hB1
    have gF : Gr d H (upd H1 d (.frz od (.dT (encC D)))) := fun b o nb e => kF _ _ nb (s1 _ _ e)
    generalize upd H1 d (.frz od (.dT (encC D))) = HF at kF hdF hmF hMF hBF gF ⊢
    have nmB : m ≠ B := fun z => by rw [z] at hm; rw [hm] at nB; cases nB
    let outer : Cnt → List Int × Int → Cnt := fun X p => ms.foldl (fun X m => addC X (ledM many m p.1) (p.2 * m.1)) X
    refine for_it walk_itemsT (fun i σ H' => ∃ y3 y4 y5 y6 y7, σ = [some (.ref m), some (.ref d), some (.ref B), y3, y4, y5, y6, y7] ∧ (∀ b o, b ≠ B → HF b = some o → H' b = some o) ∧ H' B = some (.dT (encC ((D.take i).foldl outer []))) ∧ CntG many ((D.take i).foldl outer []))
      ⟨none, none, none, none, none, rfl, fun _ _ _ e => e, by rw [List.take_zero]; exact hBF, by rw [List.take_zero]; exact CntG.nil many⟩ (fun i σ H' _ ⟨_, _, _, _, _, _, k, _⟩ => k _ _ ndB hdF) ?_ ?_
    · rintro i x σ H2 H2' hi ⟨y3, y4, y5, y6, y7, rfl, k2, hB2, hc2⟩ ⟨T, qa, k, v, ekv, rfl, nT, hqa, rfl⟩
      obtain ⟨p, hp, rfl, rfl⟩ := encC_at ekv
      have gp := hc.2 p (List.mem_of_getElem? hp)
      have hq : H2 qa = some (.tup (p.1.map V.int)) := by rw [hqa, key_intsC]
      have sT := same_new (o := .tup [.ref qa, .int p.2]) nT
      refine ⟨T, [.ref qa, .int p.2], rfl, SqT.of upd_same, rfl, .ref qa, [.int p.2], rfl, .int p.2, [], rfl, rfl, ?_⟩
      have k3 : ∀ b o, b ≠ B → HF b = some o → (upd H2 T (.tup [.ref qa, .int p.2])) b = some o := fun b o nb e => sT _ _ (k2 b o nb e)
      have hB3 := sT _ _ hB2
      have hq3 := sT _ _ hq
      generalize upd H2 T (.tup [.ref qa, .int p.2]) = H3 at k3 hB3 hq3 ⊢
      have nqB : qa ≠ B := fun z => by rw [z, hB3] at hq3; cases hq3
      refine ⟨.ref m, rfl, m, rfl, ⟨_, SqL.of (k3 _ _ nmB hmF)⟩, ?_⟩
      refine for_list (K := K) (a := m) (xs := ws) (fun j σ H' => ∃ y5 y6 y7, σ = [some (.ref m), some (.ref d), some (.ref B), some (.ref qa), some (.int p.2), y5, y6, y7] ∧ (∀ b o, b ≠ B → H3 b = some o → H' b = some o) ∧
          H' B = some (.dT (encC ((ms.take j).foldl (fun X m => addC X (ledM many m p.1) (p.2 * m.1)) ((D.take i).foldl outer [])))) ∧ CntG many ((ms.take j).foldl (fun X m => addC X (ledM many m p.1) (p.2 * m.1)) ((D.take i).foldl outer [])))
        ⟨y5, y6, y7, rfl, fun _ _ _ e => e, by rw [List.take_zero]; exact hB3, by rw [List.take_zero]; exact hc2⟩ (fun j σ H' _ ⟨_, _, _, _, k, _⟩ => SqL.of (k _ _ nmB (k3 _ _ nmB hmF))) ?_ ?_
      · rintro j v σ H4 hv ⟨y5, y6, y7, rfl, k4, hB4, hc4⟩
        obtain ⟨mv, emv, ta, tb, rfl, hta, htb⟩ := hMF.get' hv
        have gm := G.mv mv (List.mem_of_getElem? emv)
        have nta : ta ≠ B := fun z => by rw [z, hBF] at hta; cases hta
        have ntb : tb ≠ B := fun z => by rw [z, hBF] at htb; cases htb
        have hta4 := k4 _ _ nta (k3 _ _ nta hta)
        have htb4 := k4 _ _ ntb (k3 _ _ ntb htb)
        have hq4 := k4 _ _ nqB hq3
        refine ⟨ta, _, rfl, SqT.of hta4, rfl, _, _, rfl, _, _, rfl, rfl, ?_⟩
        refine ⟨.ref tb, rfl, .ref qa, rfl, tb, qa, many, mv.2, p.1, rfl, htb4, hq4, m6, gm.2.2, gp, fun L H5 s5 nL hL => ?_⟩
        have hB5 := s5 _ _ hB4
        have hk5 : H5 L = some (.tup ((((ledM many mv p.1).map (Sum.inl (β := Str)))).map kV)) := by rw [key_intsC]; exact hL
        refine ⟨.ref B, rfl, B, rfl, .inr ⟨_, .inl hB5⟩, .ref L, rfl, _, DGet.t hB5 hk5, ?_⟩
        rw [encC_get]
        have g99 := gm.2.1
        have g1 := gm.1
        refine ⟨.int p.2, rfl, .int mv.1, rfl, p.2, mv.1, rfl, rfl, .inr ⟨by omega, by omega⟩, _, _, rfl, rfl, ?_⟩
        have l64 := hc4.len m6
        refine ⟨.ref B, rfl, .ref L, rfl, B, _, rfl, DPut.t hB5 hk5 (lt1k (by rw [encC_len]; omega)), ?_⟩
        refine ⟨_, _, _, rfl, fun b o nb e => by rw [upd_ne nb]; exact s5 _ _ (k4 b o nb e), ?_, ?_⟩
        · rw [upd_same, foldl_snoc emv]
          exact congrArg (fun z => some (HO.dT z)) (encC_put hc4.1)
        · rw [foldl_snoc emv]
          exact hc4.add (ledG_good many mv.2 p.1) _
      · rintro σ H4 ⟨y5, y6, y7, rfl, k4, hB4, hc4⟩
        rw [hM.length, List.take_length] at hB4 hc4
        refine ⟨_, _, _, _, _, rfl, fun b o nb e => k4 b o nb (k3 b o nb e), ?_, ?_⟩
        · rw [foldl_snoc hp]
          exact hB4
        · rw [foldl_snoc hp]
          exact hc4
    · rintro σ H2 ⟨y3, y4, y5, y6, y7, rfl, k2, hB2, hc2⟩
      rw [encC_len, List.take_length] at hB2
      exact ⟨.ref B, rfl, q B H2 (fun b o nb e => k2 b o (ne_of_none e nB) (gF b o nb e)) nB hB2⟩
end
section
/-! ### fractions that are told -/
def FracAt (H : Hp) (v : V) (p : Int × Int) : Prop := ∃ t, v = .ref t ∧ H t = some (.tup [.int p.1, .int p.2])
theorem FracAt.same {H H' : Hp} {v : V} {p : Int × Int} (s : Same H H') (h : FracAt H v p) : FracAt H' v p := by
  obtain ⟨t, e, h⟩ := h
  exact ⟨t, e, s _ _ h⟩
theorem dp_pair {K : PySem.W.Frag} {H : Hp} {t : Addr} {p : Int × Int} (h : H t = some (.tup [.int p.1, .int p.2])) : Dp K H (.ref t) (.tuple [.int p.1, .int p.2]) := .tup (SqT.of h) (.cons (.int _) (.cons (.int _) .nil))
theorem shaped_pair (p : Int × Int) : SeqAt.shaped (.tuple [.int p.1, .int p.2]) = true := rfl
theorem eqv_pair (p r : Int × Int) : PyData.eqv (.tuple [.int p.1, .int p.2]) (.tuple [.int r.1, .int r.2]) = decide (p = r) := by
  have e : PyData.eqv (.tuple [.int p.1, .int p.2]) (.tuple [.int r.1, .int r.2]) = (p.1 == r.1 && (p.2 == r.2 && true)) := rfl
  rw [e, Bool.and_true]
  obtain ⟨a, b⟩ := p
  obtain ⟨c, d⟩ := r
  by_cases h1 : a = c <;> by_cases h2 : b = d <;> simp [h1, h2]
end
/-! ### _ends: the mathematics -/
def idRow (many : Nat) : List Int := (List.range many).map fun (i : Nat) => (i : Int)
def foldR (many : Nat) (rows : List (List Int)) : List Int := rows.foldl (fun L r => L.map (goK r)) (idRow many)
theorem foldR_snoc {many i : Nat} {rows : List (List Int)} {r : List Int} (h : rows[i]? = some r) : foldR many (rows.take (i + 1)) = (foldR many (rows.take i)).map (goK r) := by
  unfold foldR
  rw [take_snoc h, List.foldl_append]
  rfl
theorem goK_inR {many : Nat} {f : List Int} {p : Int} (h : GoodRow many f) (h0 : 0 ≤ p) (h1 : p < (many : Int)) : 0 ≤ goK f p ∧ goK f p < (many : Int) := by
  have hl : p.toNat < f.length := by rw [h.1]; omega
  unfold goK
  rw [List.getD_eq_getElem?_getD, List.getElem?_eq_getElem hl]
  exact h.2 _ (List.getElem_mem hl)
theorem map_goodR {many : Nat} {f L : List Int} (hf : GoodRow many f) (hL : GoodRow many L) : GoodRow many (L.map (goK f)) := by
  refine ⟨by rw [List.length_map, hL.1], fun x hx => ?_⟩
  obtain ⟨p, hp, rfl⟩ := List.mem_map.mp hx
  exact goK_inR hf (hL.2 p hp).1 (hL.2 p hp).2
theorem idRow_good (many : Nat) : GoodRow many (idRow many) := by
  refine ⟨by unfold idRow; rw [List.length_map, List.length_range], fun x hx => ?_⟩
  obtain ⟨i, hi, rfl⟩ := List.mem_map.mp hx
  have := List.mem_range.mp hi
  omega
theorem foldR_goodL {many : Nat} : ∀ {rows : List (List Int)} {L : List Int}, (∀ r ∈ rows, GoodRow many r) → GoodRow many L → GoodRow many (rows.foldl (fun L r => L.map (goK r)) L)
  | [], _, _, h => h
  | r :: rows, L, hn, hL => by
    rw [List.foldl_cons]
    exact foldR_goodL (fun z hz => hn z (List.mem_cons_of_mem _ hz)) (map_goodR (hn r List.mem_cons_self) hL)
theorem foldR_good {many : Nat} {rows : List (List Int)} (h : ∀ r ∈ rows, GoodRow many r) : GoodRow many (foldR many rows) := foldR_goodL h (idRow_good many)
theorem goK_idRow {many : Nat} {p : Int} (h0 : 0 ≤ p) (h1 : p < (many : Int)) : goK (idRow many) p = p := by
  unfold goK idRow
  rw [List.getD_eq_getElem?_getD, List.getElem?_map, List.getElem?_range (by omega)]
  show ((p.toNat : Nat) : Int) = p
  omega
theorem goK_mapR {many : Nat} {f g : List Int} {p : Int} (hg : GoodRow many g) (h0 : 0 ≤ p) (h1 : p < (many : Int)) : goK (g.map (goK f)) p = goK f (goK g p) := by
  have hl : p.toNat < g.length := by rw [hg.1]; omega
  unfold goK
  rw [List.getD_eq_getElem?_getD, List.getElem?_map, List.getD_eq_getElem?_getD (l := g), List.getElem?_eq_getElem hl]
  rfl
theorem fold_back {many : Nat} {rows : List (List Int)} (h : ∀ r ∈ rows, GoodRow many r) : ∀ (k : Nat), k ≤ rows.length → ∀ L : List Int, GoodRow many L →
    ((rows.take k).reverse).foldl (fun L r => L.map (goK r)) L = L.map (goK (endsK many rows k))
  | 0, _, L, hL => by
    show L = L.map (goK (endsK many rows 0))
    have : L.map (goK (endsK many rows 0)) = L.map id := List.map_congr_left fun p hp => goK_idRow (hL.2 p hp).1 (hL.2 p hp).2
    rw [this, List.map_id]
  | k + 1, hk, L, hL => by
    have hkl : k < rows.length := by omega
    have e := List.getElem?_eq_getElem hkl
    have gr := h rows[k] (List.getElem_mem hkl)
    rw [take_snoc e, List.reverse_append, List.reverse_cons, List.reverse_nil, List.nil_append, List.singleton_append, List.foldl_cons, fold_back h k (by omega) _ (map_goodR gr hL), List.map_map]
    refine List.map_congr_left fun p hp => ?_
    show goK (endsK many rows k) (goK rows[k] p) = goK ((rows.getD k []).map (goK (endsK many rows k))) p
    rw [List.getD_eq_getElem?_getD, e]
    exact (goK_mapR gr (hL.2 p hp).1 (hL.2 p hp).2).symm
theorem foldR_back {many : Nat} {rows : List (List Int)} (h : ∀ r ∈ rows, GoodRow many r) (k : Nat) (hk : k ≤ rows.length) : foldR many ((rows.take k).reverse) = endsK many rows k := by
  have gE := endsK_good h k hk
  unfold foldR
  rw [fold_back h k hk _ (idRow_good many)]
  unfold idRow
  rw [List.map_map]
  apply List.ext_getElem?
  intro i
  rw [List.getElem?_map]
  by_cases hi : i < many
  · rw [List.getElem?_range hi, List.getElem?_eq_getElem (by rw [gE.1]; exact hi)]
    show some (goK (endsK many rows k) (i : Int)) = _
    unfold goK
    rw [Int.toNat_natCast, List.getD_eq_getElem?_getD, List.getElem?_eq_getElem (by rw [gE.1]; exact hi)]
    rfl
  · rw [List.getElem?_eq_none_iff.mpr (by rw [List.length_range]; omega), List.getElem?_eq_none_iff.mpr (by rw [gE.1]; omega)]
    rfl
section
variable {P : Program} {w : World} {K : PySem.W.Frag} {mg : Str → Option Value} {base : Heap} {C : Addr}
def nPe : List Str := ["chain", "steps", "ends", "whither", "place"]
theorem scPe : FnScope ["chain", "steps", "ends", "whither", "place"] ["chain", "steps"] (defScope sEnds) := ⟨rfl, rfl, rfl, by decide +kernel, rfl, by decide +kernel, by decide +kernel⟩
def spPe (C : Addr) : Sp := fun vs H Q _ => ∃ (x l : Addr) (many : Nat) (ms : List Mv) (rows : List (List Int)), vs = [.ref x, .ref l] ∧ ChainAt C H x many ms ∧ many ≤ 6 ∧ StepsAt H l rows ∧ (∀ r ∈ rows, GoodRow many r) ∧
  ∀ e H', Same H H' → H e = none → H' e = some (.lst ((foldR many rows).map V.int)) → Q (.ref e) H'
theorem ok_pends {f fP fT : Addr} {fd fdP fdT : FuncData} {k : Nat} (F : Fun K "_ends" "_ends" sEnds f fd) (T : ChM K C fP fT fdP fdT) (mr : mg "range" = none) (mL : mg "list" = none) : FnOk P w K mg base CX0 (k + 2) f fd ["chain", "steps"] (spPe C) := by
  have GP : FnOk P w K mg base CX0 1 fP fdP ["self"] (spPlaces C) := ok_places T.FP T.cl T.nM
  refine F.ok scPe (fun vs H Q E h => ?_) (fun cdv A outer s H vs Q E hr h => ?_)
  · obtain ⟨x, l, many, ms, rows, rfl, _⟩ := h
    rfl
  · obtain ⟨x, l, many, ms, rows, rfl, hC, m6, hl, G, q⟩ := h
    have r1 : Room 1 _ := hr.mono (by omega)
    refine ⟨_, pss_cons (ps_set (i := 2) scPe.nd rfl (.inl rfl) (pe_listRg rfl (by rfl) mL (prg_1 (by rfl) mr (pe_meth0 (pv 0) T.cl T.hP GP r1 T.bP .nil pass0))))
      (pss_cons (ps_for PassesOwn.never rfl (pi_list (pv 1)) (pg_name (i := 3) scPe.nd rfl (.inr rfl))
        (pss_one (ps_setLc (i := 2) (own := [("place", 4)]) (g := gName 4) (tt := tYes) (te := tOp (rIxT K) (tVar 3) (tVar 4)) rfl scPe.nd rfl rfl (sw_true rfl rfl rfl (by decide +kernel)) (pi_list (pv 2)) (blkOk_by (N := nPe) (sc := defScope sEnds) (by decide +kernel))
          (fun _ _ _ _ _ => pg_name (i := 4) scPe.nd rfl (.inl rfl)) (fun _ _ _ _ _ => pts_nil)
          (fun _ _ _ _ _ => by exact (pe_ix ix_tup (pv 3) (pv 4) (fun _ _ => rfl))))))
      (pss_one (ps_ret (pv 2)))), ?_⟩
    obtain ⟨dx, a0, ws, h1, h2, h3⟩ := id hC
    obtain ⟨qs, hS, hp⟩ := hl
    have lenQ : qs.length = rows.length := hp.length
    refine ⟨.ref x, rfl, x, dx, _, rfl, h1, ch_no, x, many, ms, rfl, hC, _, rfl, RgOk.of_le (by omega) (by omega) (by omega) (by omega), fun e0 ne0 => ?_⟩
    rw [rg_ends]
    have s1 : Same H (upd H e0 (.lst ((idRow many).map V.int))) := same_new ne0
    refine ⟨.ref l, rfl, l, rfl, ⟨_, SqL.of (s1 _ _ hS)⟩, for_list (K := K) (a := l) (xs := qs.map V.ref) (fun i σ H' => ∃ e y3, σ = [some (.ref x), some (.ref l), some (.ref e), y3, none] ∧ Same H H' ∧ H e = none ∧ H' e = some (.lst ((foldR many (rows.take i)).map V.int)))
      ⟨e0, none, rfl, s1, ne0, by rw [List.take_zero]; exact upd_same⟩ (fun i σ H' _ ⟨_, _, _, s, _⟩ => SqL.of (s _ _ hS)) ?_ ?_⟩
    · rintro i v σ H1 hv ⟨e, y3, rfl, s2, ne, he⟩
      rw [List.getElem?_map] at hv
      obtain ⟨qa, eqa, rfl⟩ := Option.map_eq_some_iff.mp hv
      have hi : i < rows.length := by
        obtain ⟨q1, _⟩ := List.getElem?_eq_some_iff.mp eqa
        omega
      have er := List.getElem?_eq_getElem hi
      obtain ⟨qb, eqb, hqb⟩ := paired_get hp er
      rw [eqa] at eqb
      cases eqb
      have gR := G _ (List.getElem_mem hi)
      have gL : GoodRow many (foldR many (rows.take i)) := foldR_good fun z hz => G z (List.mem_of_mem_take hz)
      refine ⟨.ref e, rfl, e, rfl, ⟨_, SqL.of he⟩, fun D nD => ?_⟩
      refine lc_list (K := K) (a := e) (xs := (foldR many (rows.take i)).map V.int) (fun j H' => Same H1 H' ∧ H' D = some (.lst ((((foldR many (rows.take i)).map (goK rows[i])).take j).map V.int)))
        ⟨same_new nD, by rw [List.take_zero]; exact upd_same⟩ (fun j H' _ h => SqL.of (h.1 _ _ he)) ?_ ?_
      · rintro j u H2 hu ⟨s3, hD⟩
        rw [List.getElem?_map] at hu
        obtain ⟨p, hpp, rfl⟩ := Option.map_eq_some_iff.mp hu
        obtain ⟨p0, p1⟩ := gL.2 p (List.mem_of_getElem? hpp)
        have hj : j < many := by
          obtain ⟨q1, _⟩ := List.getElem?_eq_some_iff.mp hpp
          rw [gL.1] at q1
          exact q1
        have hpl : p.toNat < rows[i].length := by rw [gR.1]; omega
        have gp : (rows[i].map V.int)[p.toNat]? = some (.int (goK rows[i] p)) := by
          rw [List.getElem?_map, List.getElem?_eq_getElem hpl]
          unfold goK
          rw [List.getD_eq_getElem?_getD, List.getElem?_eq_getElem hpl]
          rfl
        refine ⟨rfl, .ref qa, rfl, .int p, rfl, qa, _, p, _, rfl, rfl, SqT.of (s3 _ _ (s2 _ _ hqb)), at_of (show p = ((p.toNat : Nat) : Int) by omega) gp, _, hD, ?_, fun b o eb => by rw [upd_ne (ne_of_none eb nD)]; exact s3 _ _ eb, ?_⟩
        · rw [List.length_map, List.length_take]
          exact small8 (Nat.le_trans (Nat.min_le_left _ _) (by omega))
        · rw [upd_same, take_snoc (x := goK rows[i] p) (by rw [List.getElem?_map, hpp]; rfl), List.map_append]
          rfl
      · rintro H2 ⟨s3, hD⟩
        rw [List.length_map, List.take_of_length_le (by rw [List.length_map]; exact Nat.le_refl _), ← foldR_snoc er] at hD
        exact ⟨D, some (.ref qa), rfl, s2.trans s3, s2.free nD, hD⟩
    · rintro σ H1 ⟨e, y3, rfl, s2, ne, he⟩
      rw [List.length_map, lenQ, List.take_length] at he
      exact ⟨.ref e, rfl, q e H1 s2 ne he⟩
end
section
variable {P : Program} {w : World} {K : PySem.W.Frag} {mg : Str → Option Value} {base : Heap} {C : Addr}
/-! ### _row_to_one -/
/-- what is found at i of a dict of groups and rows -/
theorem kv_at {H : Hp} : ∀ {kvs : List (List Key × V)} {l : List GR} {i : Nat} {k : List Key} {v : V}, Paired (KvAt H) kvs l → kvs[i]? = some (k, v) → ∃ g : GR, l[i]? = some g ∧ k = g.1.map Sum.inl ∧ ∃ a, v = .ref a ∧ H a = some (.lst (g.2.map V.int))
  | _, _, _, _, _, .nil, e => by simp at e
  | _, _, 0, _, _, .cons h _, e => by
    cases e
    exact ⟨_, rfl, h⟩
  | _, _, i + 1, _, _, .cons _ r, e => kv_at (i := i) r e
/-- the least of the shortest rows by which a group is one place -/
@[irreducible] def rowTo (many : Nat) (ms : List Mv) (g : List Int) : Option (List Int) := ((gf many ms g).find? fun p => decide (p.1.length = 1)).map (·.2)
def ListOr2 (H : Hp) (v : V) (r : Option (List Int)) : Prop := match r with
  | none => v = .non
  | some o => ∃ a, v = .ref a ∧ H a = some (.lst (o.map V.int))
theorem scRt : FnScope ["moves", "group", "led", "row"] ["moves", "group"] (defScope sRowToOne) := ⟨rfl, rfl, rfl, by decide +kernel, rfl, by decide +kernel, by decide +kernel⟩
def spRt : Sp := fun vs H Q _ => ∃ (m ba : Addr) (many : Nat) (ws : List V) (ms : List Mv) (b : List Int), vs = [.ref m, .ref ba] ∧ H m = some (.lst ws) ∧ MovesAt H ws ms ∧ GoodAll many ms ∧ ms.length ≤ 8 ∧ many ≤ 6 ∧ H ba = some (.tup (b.map V.int)) ∧ goodG many b ∧
  ∀ v H', Same H H' → ListOr2 H' v (rowTo many ms b) → Q v H'
theorem find_at {l : List GR} {f : GR → Bool} {i : Nat} {g : GR} (e : l[i]? = some g) (h : f g = true) (bef : ∀ j p, j < i → l[j]? = some p → f p = false) : l.find? f = some g := by
  induction l generalizing i with
  | nil => simp at e
  | cons x r ih =>
    cases i with
    | zero =>
      cases e
      rw [List.find?_cons, h]
    | succ i =>
      rw [List.find?_cons, bef 0 x (Nat.succ_pos _) rfl]
      exact ih e fun j p hj ej => bef (j + 1) p (Nat.succ_lt_succ hj) ej
theorem len_one (n : Nat) : decide (V.int ((n : Nat) : Int) = V.int 1) = decide (n = 1) := by
  refine decide_eq_decide.mpr ⟨fun h => ?_, fun h => by subst h; rfl⟩
  injection h with h
  omega
def spRtF : Sp := fun vs H Q _ => ∃ (m ba : Addr) (many : Nat) (ws : List V) (ms : List Mv) (b : List Int), vs = [.ref m, .ref ba] ∧ H m = some (.lst ws) ∧ MovesAt H ws ms ∧ GoodAll many ms ∧ ms.length ≤ 8 ∧ many ≤ 6 ∧ H ba = some (.tup (b.map V.int)) ∧ goodG many b ∧
  ∀ v H', Same H H' → ListOr2 H' v (rowTo many ms b) → (∀ a, v = .ref a → H a = none) → Q v H'
theorem ok_rtF {f fG : Addr} {fd fdG : FuncData} (F : Fun K "_row_to_one" "_row_to_one" sRowToOne f fd) (DG : Df K mg "groups_from" sGroupsFrom ["moves", "begin"] fG fdG) (GG : FnOk P w K mg base CX0 2 fG fdG ["moves", "begin"] spGfF) (ml : mg "len" = none) : FnOk P w K mg base CX0 3 f fd ["moves", "group"] spRtF := by
  refine F.ok scRt (fun vs H Q E h => ?_) (fun cdv A outer s H vs Q E hr h => ?_)
  · obtain ⟨m, ba, many, ws, ms, b, rfl, _⟩ := h
    rfl
  · obtain ⟨m, ba, many, ws, ms, b, rfl, hm, hM, G, l8, m6, hb, gb, q⟩ := h
    refine ⟨_, (pss_cons (ps_for PassesOwn.never rfl (pi_itemsT (pe_frz (pe_call GG hr (by rfl) DG.g DG.F.kp DG.b .nil pass0 (pa_cons (pv 0) (pa_cons (pv 1) pa_nil))))) (pg_tup rfl (pgs_cons (pg_name (i := 2) scRt.nd rfl (.inl rfl)) (pgs_cons (pg_name (i := 3) scRt.nd rfl (.inl rfl)) pgs_nil))) (pss_one (ps_if (pt_cmpR op_eq (pe_callB call_len_seq (by rfl) ml PySem.boot_len (pa_cons (pv 2) pa_nil)) pe_int (nomark _)) (pss_one (ps_ret (pv 3))) pss_nil)))
      (pss_one (ps_ret pe_non))), ?_⟩
    refine ⟨.ref m, rfl, .ref ba, rfl, m, ba, many, ws, ms, b, rfl, hm, hM, G, l8, m6, hb, gb, fun D H1 kvs s1 nD hD pk fk => ?_⟩
    refine ⟨D, .dT kvs, rfl, hD, True.intro, fun od => ⟨D, od, kvs, rfl, upd_same, ?_⟩⟩
    have s2 : Same H (upd H1 D (.frz od (.dT kvs))) := Same.put s1 nD
    have rowAt : ∀ {a : Addr} {r : List Int}, H1 a = some (.lst (r.map V.int)) → (upd H1 D (.frz od (.dT kvs))) a = some (.lst (r.map V.int)) := fun {a r} e => by
      rw [upd_ne (fun z => by rw [z, hD] at e; cases e)]
      exact e
    have lenK : kvs.length = (gf many ms b).length := pk.length
    have hDf : (upd H1 D (.frz od (.dT kvs))) D = some (.frz od (.dT kvs)) := upd_same
    generalize hHF : upd H1 D (.frz od (.dT kvs)) = HF at s2 rowAt hDf ⊢
    refine for_it walk_itemsT (fun i σ H' => ∃ y2 y3, σ = [some (.ref m), some (.ref ba), y2, y3] ∧ Same HF H' ∧ ∀ j p, j < i → (gf many ms b)[j]? = some p → decide (p.1.length = 1) = false) ⟨none, none, rfl, Same.refl _, fun j p hj => absurd hj (Nat.not_lt_zero _)⟩ (fun i σ H' _ ⟨_, _, _, s3, _⟩ => s3 _ _ hDf) ?_ ?_
    · rintro i x σ H2 H2' hi ⟨y2, y3, rfl, s3, bef⟩ ⟨T, qa, k, v, ekv, rfl, nT, hqa, rfl⟩
      obtain ⟨g, eg, ek, a, rfl, ha⟩ := kv_at pk ekv
      have hq : H2 qa = some (.tup (g.1.map V.int)) := by rw [hqa, ek, key_ints]
      have sT := same_new (o := .tup [.ref qa, .ref a]) nT
      refine ⟨T, [.ref qa, .ref a], rfl, SqT.of upd_same, rfl, .ref qa, [.ref a], rfl, .ref a, [], rfl, rfl, ?_⟩
      refine ⟨.ref qa, rfl, qa, _, rfl, .inr (SqT.of (sT _ _ hq)), ?_⟩
      rw [List.length_map]
      refine ⟨rfl, decide (g.1.length = 1), ?_, ?_⟩
      · rw [len_one]
      by_cases c : g.1.length = 1
      · rw [decide_eq_true c]
        refine iteT ⟨.ref a, rfl, q _ _ (s2.trans (s3.trans sT)) ?_ fun z e => by cases e; exact fk _ (List.mem_of_getElem? ekv) _ rfl⟩
        have e : rowTo many ms b = some g.2 := by
          unfold rowTo
          rw [find_at eg (decide_eq_true c) bef]
          rfl
        rw [e]
        exact ⟨a, rfl, sT _ _ (s3 _ _ (rowAt ha))⟩
      · rw [decide_eq_false c]
        refine iteF ⟨_, _, rfl, s3.trans sT, fun j p hj e => ?_⟩
        by_cases cj : j < i
        · exact bef j p cj e
        · have ej : j = i := by omega
          rw [ej, eg] at e
          cases e
          exact decide_eq_false c
    · rintro σ H2 ⟨y2, y3, rfl, s3, bef⟩
      refine q _ _ (s2.trans s3) ?_ (fun z e => nomatch e)
      have e : rowTo many ms b = none := by
        unfold rowTo
        rw [List.find?_eq_none.mpr fun p hp => ?_]
        · rfl
        · obtain ⟨j, hj, ep⟩ := List.getElem_of_mem hp
          rw [bef j p (by omega) (by rw [← ep]; exact List.getElem?_eq_getElem hj)]
          exact Bool.false_ne_true
      rw [e]
      rfl
/-! ### _first_apart -/
def natPairs (n : Nat) : List (List Nat) := (List.range n).flatMap fun i => (List.range' (i + 1) (n - (i + 1))).map fun j => [i, j]
theorem combs_eq : ∀ n, n ≤ 6 → Cm.combsN n = natPairs n := by
  intro n hn
  match n, hn with
  | 0, _ => decide +kernel
  | 1, _ => decide +kernel
  | 2, _ => decide +kernel
  | 3, _ => decide +kernel
  | 4, _ => decide +kernel
  | 5, _ => decide +kernel
  | 6, _ => decide +kernel
theorem mem_natPairs {n : Nat} {g : List Nat} : g ∈ natPairs n ↔ ∃ i j, i < j ∧ j < n ∧ g = [i, j] := by
  unfold natPairs
  rw [List.mem_flatMap]
  constructor
  · rintro ⟨i, hi, h⟩
    obtain ⟨j, hj, rfl⟩ := List.mem_map.mp h
    have a := List.mem_range.mp hi
    have b := List.mem_range'_1.mp hj
    exact ⟨i, j, by omega, by omega, rfl⟩
  · rintro ⟨i, j, a, b, rfl⟩
    exact ⟨i, List.mem_range.mpr (by omega), List.mem_map.mpr ⟨j, List.mem_range'_1.mpr (by omega), rfl⟩⟩
/-- all pairs, rising -/
def pairsL (many : Nat) : List (List Int) := (natPairs many).map fun g => g.map fun (i : Nat) => (i : Int)
theorem mem_pairsL {many : Nat} {g : List Int} : g ∈ pairsL many ↔ ∃ x y : Int, 0 ≤ x ∧ x < y ∧ y < (many : Int) ∧ g = [x, y] := by
  unfold pairsL
  rw [List.mem_map]
  constructor
  · rintro ⟨n, hn, rfl⟩
    obtain ⟨i, j, a, b, rfl⟩ := mem_natPairs.mp hn
    exact ⟨(i : Int), (j : Int), by omega, by omega, by omega, rfl⟩
  · rintro ⟨x, y, a, b, c, rfl⟩
    refine ⟨[x.toNat, y.toNat], mem_natPairs.mpr ⟨x.toNat, y.toNat, by omega, by omega, rfl⟩, ?_⟩
    show [((x.toNat : Nat) : Int), ((y.toNat : Nat) : Int)] = [x, y]
    rw [Int.toNat_of_nonneg a, Int.toNat_of_nonneg (by omega)]
theorem pair_good {many : Nat} {x y : Int} (a : 0 ≤ x) (b : x < y) (c : y < (many : Int)) : goodG many [x, y] :=
  ⟨List.pairwise_cons.mpr ⟨fun z hz => by rw [List.mem_singleton.mp hz]; exact b, List.pairwise_singleton _ _⟩, fun z hz => by
    rcases List.mem_cons.mp hz with e | hz
    · rw [e]; omega
    · rw [List.mem_singleton.mp hz]; omega⟩
def firstApart (many : Nat) (ms : List Mv) : Option (List Int) := (pairsL many).find? fun g => (rowTo many ms g).isNone
def TupOr (H : Hp) (v : V) (r : Option (List Int)) : Prop := match r with
  | none => v = .non
  | some o => ∃ a, v = .ref a ∧ H a = some (.tup (o.map V.int))
theorem walk_comb {n : Nat} : L2.Walk (ItC n) (Cm.combsN n).length (fun _ => True) (fun i H v H' => ∃ T ns, v = .ref T ∧ H T = none ∧ H' = upd H T (.tup (ns.map fun (j : Nat) => V.int j)) ∧ (Cm.combsN n)[i]? = some ns) :=
  ⟨fun _ _ hi _ => hi, fun _ _ => Nat.le_refl _, fun _ _ _ _ _ _ y => y⟩
theorem scFa : FnScope ["chain", "moves", "pair"] ["chain"] (defScope sFirstApart) := ⟨rfl, rfl, rfl, by decide +kernel, rfl, by decide +kernel, by decide +kernel⟩
def spFa (C : Addr) : Sp := fun vs H Q _ => ∃ (x : Addr) (many : Nat) (ms : List Mv), vs = [.ref x] ∧ ChainAt C H x many ms ∧ Good many ms ∧ ∀ v H', Same H H' → TupOr H' v (firstApart many ms) → Q v H'
theorem find_atL {α : Type} {l : List α} {f : α → Bool} {i : Nat} {g : α} (e : l[i]? = some g) (h : f g = true) (bef : ∀ j p, j < i → l[j]? = some p → f p = false) : l.find? f = some g := by
  induction l generalizing i with
  | nil => simp at e
  | cons x r ih =>
    cases i with
    | zero =>
      cases e
      rw [List.find?_cons, h]
    | succ i =>
      rw [List.find?_cons, bef 0 x (Nat.succ_pos _) rfl]
      exact ih e fun j p hj ej => bef (j + 1) p (Nat.succ_lt_succ hj) ej
theorem ok_fa {f fR fP fT : Addr} {fd fdR fdP fdT : FuncData} (F : Fun K "_first_apart" "_first_apart" sFirstApart f fd) (DRt : Df K mg "_row_to_one" sRowToOne ["moves", "group"] fR fdR) (GRt : FnOk P w K mg base CX0 3 fR fdR ["moves", "group"] spRtF) (T : ChM K C fP fT fdP fdT) (mL : mg "list" = none) (mr : mg "range" = none) (mC : mg "combinations" = some (.type "itertools.combinations")) :
    FnOk P w K mg base CX0 4 f fd ["chain"] (spFa C) := by
  have GP : FnOk P w K mg base CX0 1 fP fdP ["self"] (spPlaces C) := ok_places T.FP T.cl T.nM
  have GT : FnOk P w K mg base CX0 1 fT fdT ["self"] (spTold C) := ok_told T.FT T.cl T.nV mL
  refine F.ok scFa (fun vs H Q E h => ?_) (fun cdv A outer s H vs Q E hr h => ?_)
  · obtain ⟨x, many, ms, rfl, _⟩ := h
    rfl
  · obtain ⟨x, many, ms, rfl, hC, G, q⟩ := h
    have r1 : Room 1 _ := hr.mono (by decide)
    refine ⟨_, (pss_cons (ps_set (i := 1) scFa.nd rfl (.inl rfl) (pe_meth0 (pv 0) T.cl T.hT GT r1 T.bT .nil pass0))
      (pss_cons (ps_for PassesOwn.never rfl (pi_comb rfl (by rfl) mC (prg_1 (by rfl) mr (pe_meth0 (pv 0) T.cl T.hP GP r1 T.bP .nil pass0))) (pg_name (i := 2) scFa.nd rfl (.inl rfl)) (pss_one (ps_if (pt_cmpR op_isN (pe_call GRt hr (by rfl) DRt.g DRt.F.kp DRt.b .nil pass0 (pa_cons (pv 1) (pa_cons (pv 2) pa_nil))) pe_non (nomark _)) (pss_one (ps_ret (pv 2))) pss_nil)))
      (pss_one (ps_ret pe_non)))), ?_⟩
    have m6 := G.m6
    have l8 := G.l8
    have l1 := G.l1
    obtain ⟨dx, a0, ws0, h1, h2, h3⟩ := id hC
    refine ⟨.ref x, rfl, x, dx, _, rfl, h1, ch_noT, x, many, ms, rfl, hC, fun m ws nm hM => ?_⟩
    have s1 := same_new (o := .lst ws) nm
    have hm1 : (upd H m (.lst ws)) m = some (.lst ws) := upd_same
    have hM1 : MovesAt (upd H m (.lst ws)) ws ms := hM
    have hC1 := hC.same s1
    generalize upd H m (.lst ws) = H1 at s1 hm1 hM1 hC1 ⊢
    obtain ⟨dx1, a1, ws1, h1, h2, h3⟩ := id hC1
    refine ⟨.ref x, rfl, x, dx1, _, rfl, h1, ch_no, x, many, ms, rfl, hC1, _, rfl, many, rfl, rfl, m6, ?_⟩
    have at_pair : ∀ {i : Nat} {ns : List Nat}, (Cm.combsN many)[i]? = some ns → (pairsL many)[i]? = some (ns.map fun (j : Nat) => (j : Int)) := fun {i ns} e => by
      unfold pairsL
      rw [← combs_eq many m6, List.getElem?_map, e]
      rfl
    refine for_it walk_comb (fun i σ H' => ∃ y2, σ = [some (.ref x), some (.ref m), y2] ∧ Same H1 H' ∧ ∀ j g, j < i → (pairsL many)[j]? = some g → (rowTo many ms g).isNone = false) ⟨none, rfl, Same.refl _, fun j p hj => absurd hj (Nat.not_lt_zero _)⟩ (fun _ _ _ _ _ => True.intro) ?_ ?_
    · rintro i v σ H2 H2' hi ⟨y2, rfl, s2, bef⟩ ⟨T', ns, rfl, nT, rfl, e⟩
      have ep := at_pair e
      obtain ⟨a, b, a0', ab, bm, eg⟩ := mem_pairsL.mp (List.mem_of_getElem? ep)
      have gg : goodG many (ns.map fun (j : Nat) => (j : Int)) := by rw [eg]; exact pair_good a0' ab bm
      have sT := same_new (o := .tup (ns.map fun (j : Nat) => V.int j)) nT
      have s12 := s2.trans sT
      have hT : (upd H2 T' (.tup (ns.map fun (j : Nat) => V.int j))) T' = some (.tup ((ns.map fun (j : Nat) => (j : Int)).map V.int)) := by
        rw [upd_same, List.map_map]
        rfl
      refine ⟨.ref m, rfl, .ref T', rfl, m, T', many, ws, ms, _, rfl, s12 _ _ hm1, hM1.same (Same.tups s12), G.mv, l8, m6, hT, gg, fun v H3 s3 hv _ => ?_⟩
      unfold ListOr2 at hv
      cases hr' : rowTo many ms (ns.map fun (j : Nat) => (j : Int)) with
      | none =>
        rw [hr'] at hv
        subst hv
        refine ⟨rfl, true, by simp, iteT ⟨.ref T', rfl, q _ _ (s1.trans (s12.trans s3)) ?_⟩⟩
        have e2 : firstApart many ms = some (ns.map fun (j : Nat) => (j : Int)) := find_atL ep (by rw [hr']; rfl) bef
        rw [e2]
        exact ⟨T', rfl, s3 _ _ hT⟩
      | some r =>
        rw [hr'] at hv
        obtain ⟨v', rfl, hv'⟩ := hv
        refine ⟨rfl, false, by simp, iteF ⟨_, rfl, s12.trans s3, fun j g hj ej => ?_⟩⟩
        by_cases c : j < i
        · exact bef j g c ej
        · have eji : j = i := by omega
          rw [eji, ep] at ej
          cases ej
          rw [hr']
          rfl
    · rintro σ H2 ⟨y2, rfl, s2, bef⟩
      refine q _ _ (s1.trans s2) ?_
      have lp : (pairsL many).length = (Cm.combsN many).length := by
        unfold pairsL
        rw [List.length_map, combs_eq many m6]
      have e : firstApart many ms = none := List.find?_eq_none.mpr fun g hg => by
        obtain ⟨j, hj, ej⟩ := List.getElem_of_mem hg
        rw [bef j g (by omega) (by rw [← ej]; exact List.getElem?_eq_getElem hj)]
        exact Bool.false_ne_true
      rw [e]
      rfl
end
/-! ### which places meet: the mathematics -/
/-- a row leads the group to one place -/
def Meets (many : Nat) (ms : List Mv) (g : List Int) : Prop := ∃ r, Valid ms r ∧ (runG many ms g r).length = 1
theorem runG_cons (many : Nat) (ms : List Mv) (g : List Int) (n : Int) (r : List Int) : runG many ms g (n :: r) = runG many ms (ledG many (rowM ms n.toNat) g) r := rfl
theorem runG_app (many : Nat) (ms : List Mv) (g r s : List Int) : runG many ms g (r ++ s) = runG many ms (runG many ms g r) s := List.foldl_append
theorem find_one {l : List GR} : (((l.find? fun p => decide (p.1.length = 1)).map (·.2)).isSome = true) ↔ ∃ p ∈ l, p.1.length = 1 := by
  rw [Option.isSome_map, List.find?_isSome]
  constructor
  · rintro ⟨p, hp, c⟩
    exact ⟨p, hp, of_decide_eq_true c⟩
  · rintro ⟨p, hp, c⟩
    exact ⟨p, hp, decide_eq_true c⟩
theorem rowTo_meets {many : Nat} {ms : List Mv} {g : List Int} (hb : goodG many g) (m6 : many ≤ 6) : (rowTo many ms g).isSome = true ↔ Meets many ms g := by
  have fo := find_one (l := gf many ms g)
  have rows := gf_row (many := many) (ms := ms) (b := g)
  have runs := fun r h => gf_run (many := many) (ms := ms) (b := g) hb m6 (r := r) h
  unfold rowTo
  generalize gf many ms g = l at fo rows runs ⊢
  rw [fo]
  constructor
  · rintro ⟨p, hp, c⟩
    obtain ⟨h1, h2⟩ := rows p hp
    exact ⟨p.2, h2, by rw [h1]; exact c⟩
  · rintro ⟨r, hv, hl⟩
    obtain ⟨p, hp, e⟩ := List.mem_map.mp (runs r hv)
    exact ⟨p, hp, by rw [e]; exact hl⟩
theorem rowTo_none {many : Nat} {ms : List Mv} {g : List Int} (hb : goodG many g) (m6 : many ≤ 6) : (rowTo many ms g).isNone = true ↔ ¬ Meets many ms g := by
  rw [← rowTo_meets hb m6]
  cases rowTo many ms g <;> simp
theorem runG_good {many : Nat} {ms : List Mv} {g : List Int} (hb : goodG many g) : ∀ r, goodG many (runG many ms g r) := fun r => by
  induction r using snocInd with
  | h0 => exact hb
  | h l x _ =>
    rw [runG_snoc]
    exact ledG_good _ _ _
theorem mem_runG {many : Nat} {ms : List Mv} (G : GoodAll many ms) : ∀ {r g : List Int} {z : Int}, goodG many g → Valid ms r → (z ∈ runG many ms g r ↔ ∃ x ∈ g, walkP ms x r = z)
  | [], g, z, _, _ => ⟨fun h => ⟨z, h, rfl⟩, fun ⟨x, hx, e⟩ => by
      have e' : x = z := e
      rw [← e']
      exact hx⟩
  | n :: r, g, z, hg, hv => by
    have hn := hv n List.mem_cons_self
    have gr : GoodRow many (rowM ms n.toNat) := rowM_good G (by omega)
    rw [runG_cons, mem_runG G (ledG_good _ _ _) fun k hk => hv k (List.mem_cons_of_mem _ hk)]
    constructor
    · rintro ⟨y, hy, e⟩
      obtain ⟨x, hx, rfl⟩ := (mem_ledG gr hg.2).mp hy
      exact ⟨x, hx, e⟩
    · rintro ⟨x, hx, e⟩
      exact ⟨goK (rowM ms n.toNat) x, (mem_ledG gr hg.2).mpr ⟨x, hx, rfl⟩, e⟩
theorem runG_len {many : Nat} {ms : List Mv} (G : GoodAll many ms) {r g h : List Int} (hg : goodG many g) (hv : Valid ms r) (sub : ∀ x ∈ g, walkP ms x r ∈ h.map fun y => walkP ms y r) : (runG many ms g r).length ≤ h.length := by
  have nd : (runG many ms g r).Nodup := List.Pairwise.imp (fun {a b} (h : a < b) => (by omega : a ≠ b)) (runG_good hg r).1
  have := pigeon (l := runG many ms g r) (m := h.map fun y => walkP ms y r) nd fun z hz => by
    obtain ⟨x, hx, rfl⟩ := (mem_runG G hg hv).mp hz
    exact sub x hx
  rw [List.length_map] at this
  exact this
theorem runG_ne {many : Nat} {ms : List Mv} (G : GoodAll many ms) {r g : List Int} (hg : goodG many g) (hv : Valid ms r) (ne : g ≠ []) : runG many ms g r ≠ [] := by
  obtain ⟨x, t, rfl⟩ := List.exists_cons_of_ne_nil ne
  intro z
  have := (mem_runG G hg hv).mpr ⟨x, List.mem_cons_self, rfl⟩
  rw [z] at this
  cases this
/-- where each two places meet, all do -/
theorem sync {many : Nat} {ms : List Mv} (G : GoodAll many ms) (all : ∀ x y : Int, 0 ≤ x → x < y → y < (many : Int) → Meets many ms [x, y]) : ∀ (k : Nat) (g : List Int), goodG many g → g ≠ [] → g.length ≤ k → Meets many ms g
  | 0, g, _, ne, h => absurd (List.eq_nil_of_length_eq_zero (by omega)) ne
  | k + 1, g, hg, ne, h => by
    match g, hg, ne, h with
    | [x], _, _, _ => exact ⟨[], (fun _ h => nomatch h), rfl⟩
    | x :: y :: t, hg, _, h =>
      have xy : x < y := (List.pairwise_cons.mp hg.1).1 y List.mem_cons_self
      have hx := hg.2 x List.mem_cons_self
      have hy := hg.2 y (List.mem_cons_of_mem _ List.mem_cons_self)
      obtain ⟨r, hv, hl⟩ := all x y hx.1 xy hy.2
      have gp : goodG many [x, y] := pair_good hx.1 xy hy.2
      obtain ⟨z, ez⟩ : ∃ z, runG many ms [x, y] r = [z] := List.length_eq_one_iff.mp hl
      have wx : walkP ms x r = z := by
        have := (mem_runG G gp hv).mpr ⟨x, List.mem_cons_self, rfl⟩
        rw [ez] at this
        exact List.mem_singleton.mp this
      have wy : walkP ms y r = z := by
        have := (mem_runG G gp hv).mpr ⟨y, List.mem_cons_of_mem _ List.mem_cons_self, rfl⟩
        rw [ez] at this
        exact List.mem_singleton.mp this
      have le : (runG many ms (x :: y :: t) r).length ≤ (x :: t).length := runG_len G hg hv fun u hu => by
        rcases List.mem_cons.mp hu with e | hu
        · rw [e]; exact List.mem_map.mpr ⟨x, List.mem_cons_self, rfl⟩
        · rcases List.mem_cons.mp hu with e | hu
          · rw [e, wy, ← wx]; exact List.mem_map.mpr ⟨x, List.mem_cons_self, rfl⟩
          · exact List.mem_map.mpr ⟨u, List.mem_cons_of_mem _ hu, rfl⟩
      obtain ⟨s, hs, e⟩ := sync G all k (runG many ms (x :: y :: t) r) (runG_good hg r) (runG_ne G hg hv (List.cons_ne_nil _ _)) (by
        rw [List.length_cons] at le h
        rw [List.length_cons] at h
        omega)
      exact ⟨r ++ s, hv.app hs, by rw [runG_app]; exact e⟩
theorem apart_none {many : Nat} {ms : List Mv} (G : GoodAll many ms) (m6 : many ≤ 6) (m1 : 1 ≤ many) (h : firstApart many ms = none) : (rowTo many ms (ids many)).isSome = true := by
  refine (rowTo_meets (ids_good many) m6).mpr (sync G (fun x y x0 xy ym => ?_) _ (ids many) (ids_good many) (fun z => ?_) (Nat.le_refl _))
  · have := List.find?_eq_none.mp h [x, y] (mem_pairsL.mpr ⟨x, y, x0, xy, ym, rfl⟩)
    exact Classical.byContradiction fun c => this ((rowTo_none (pair_good x0 xy ym) m6).mpr c)
  · have : (0 : Int) ∈ ids many := mem_ids.mpr ⟨by omega, by omega⟩
    rw [z] at this
    cases this
/-- if two are apart so are all -/
theorem Meets.sub {many : Nat} {ms : List Mv} (G : GoodAll many ms) {g h : List Int} (hg : goodG many g) (hh : goodG many h) (ne : h ≠ []) (sub : ∀ x ∈ h, x ∈ g) (m : Meets many ms g) : Meets many ms h := by
  obtain ⟨r, hv, hl⟩ := m
  refine ⟨r, hv, ?_⟩
  obtain ⟨z, ez⟩ := List.length_eq_one_iff.mp hl
  have le : (runG many ms h r).length ≤ [z].length := by
    have nd : (runG many ms h r).Nodup := List.Pairwise.imp (fun {a b} (h : a < b) => (by omega : a ≠ b)) (runG_good hh r).1
    refine pigeon nd fun u hu => ?_
    obtain ⟨x, hx, rfl⟩ := (mem_runG G hh hv).mp hu
    rw [← ez]
    exact (mem_runG G hg hv).mpr ⟨x, sub x hx, rfl⟩
  have : (runG many ms h r).length ≠ 0 := fun z => runG_ne G hh hv ne (List.eq_nil_of_length_eq_zero z)
  have e : [z].length = 1 := rfl
  omega
/-- what two that never meet come to: two -/
theorem apart_two {many : Nat} {ms : List Mv} (G : GoodAll many ms) {x y : Int} (hg : goodG many [x, y]) (no : ¬ Meets many ms [x, y]) : ∀ p ∈ gf many ms [x, y], p.1.length = 2 ∧ goodG many p.1 := by
  intro p hp
  obtain ⟨e, hv⟩ := gf_row p hp
  have le : (runG many ms [x, y] p.2).length ≤ [x, y].length := runG_len G hg hv fun u hu => List.mem_map.mpr ⟨u, hu, rfl⟩
  have ne := runG_ne G hg hv (List.cons_ne_nil x [y])
  have n0 : (runG many ms [x, y] p.2).length ≠ 0 := fun z => ne (List.eq_nil_of_length_eq_zero z)
  have n1 : (runG many ms [x, y] p.2).length ≠ 1 := fun z => no ⟨p.2, hv, z⟩
  have l2 : [x, y].length = 2 := rfl
  rw [← e]
  exact ⟨by omega, runG_good hg p.2⟩
section
variable {P : Program} {w : World} {K : PySem.W.Frag} {mg : Str → Option Value} {base : Heap} {C : Addr}
/-! ### everywhere -/
theorem scEv : FnScope ["chain"] ["chain"] (defScope sEverywhere) := ⟨rfl, rfl, rfl, by decide +kernel, rfl, by decide +kernel, by decide +kernel⟩
def spEv (C : Addr) : Sp := fun vs H Q _ => ∃ (x : Addr) (many : Nat) (ms : List Mv), vs = [.ref x] ∧ ChainAt C H x many ms ∧ Good many ms ∧ ∀ a H', Same H H' → H' a = some (.tup ((ids many).map V.int)) → Q (.ref a) H'
theorem ok_ev {f fP fT : Addr} {fd fdP fdT : FuncData} (F : Fun K "everywhere" "everywhere" sEverywhere f fd) (T : ChM K C fP fT fdP fdT) (mt : mg "tuple" = none) (mr : mg "range" = none) : FnOk P w K mg base CX0 2 f fd ["chain"] (spEv C) := by
  have GP : FnOk P w K mg base CX0 1 fP fdP ["self"] (spPlaces C) := ok_places T.FP T.cl T.nM
  refine F.ok scEv (fun vs H Q E h => ?_) (fun cdv A outer s H vs Q E hr h => ?_)
  · obtain ⟨x, many, ms, rfl, _⟩ := h
    rfl
  · obtain ⟨x, many, ms, rfl, hC, G, q⟩ := h
    refine ⟨_, (pss_one (ps_ret (pe_tupRg rfl (by rfl) mt (prg_1 (by rfl) mr (pe_meth0 (pv 0) T.cl T.hP GP hr T.bP .nil pass0))))), ?_⟩
    have m6 := G.m6
    obtain ⟨dx, a0, ws, h1, h2, h3⟩ := id hC
    refine ⟨.ref x, rfl, x, dx, _, rfl, h1, ch_no, x, many, ms, rfl, hC, _, rfl, RgOk.of_le (by omega) (by omega) (by omega) (by omega), fun a na => ?_⟩
    rw [rg_ends]
    exact q a _ (same_new na) upd_same
/-! ### meeting -/
/-- the pairs to which a pair comes, rising -/
def behindL (many : Nat) (ms : List Mv) (g : List Int) (L : List (List Int)) : Prop := L.Perm (keysG (gf many ms g)) ∧ L.Pairwise (fun q r => TS.code 64 q ≤ TS.code 64 r)
/-- tuples in a list -/
def TupsAt (H : Hp) (a : Addr) (xss : List (List Int)) : Prop := ∃ vs, H a = some (.lst vs) ∧ Paired (fun v g => ∃ t, v = V.ref t ∧ H t = some (.tup (g.map V.int))) vs xss
def MtAt (H : Hp) (v : V) (many : Nat) (ms : List Mv) : Prop := match rowTo many ms (ids many) with
  | some r => ∃ t a, v = .ref t ∧ H t = some (.tup [.str "row", .ref a]) ∧ H a = some (.lst (r.map V.int))
  | none => ∃ t a g L, v = .ref t ∧ H t = some (.tup [.str "apart", .ref a]) ∧ firstApart many ms = some g ∧ behindL many ms g L ∧ TupsAt H a L
theorem two_of {l : List Int} (h : l.length = 2) : ∃ u v, l = [u, v] := by
  match l, h with
  | [u, v], _ => exact ⟨u, v, rfl⟩
theorem scMt : FnScope ["chain", "moves", "row"] ["chain"] (defScope sMeeting) := ⟨rfl, rfl, rfl, by decide +kernel, rfl, by decide +kernel, by decide +kernel⟩
/-- the list that it tells is new -/
def MtNew (H H' : Hp) (v : V) : Prop := ∀ t x a, v = .ref t → H' t = some (.tup [x, .ref a]) → H a = none
theorem mtNew {H H' : Hp} {t a : Addr} {x : V} (e : H' t = some (.tup [x, .ref a])) (n : H a = none) : MtNew H H' (.ref t) := fun t' x' a' e1 e2 => by
  cases e1
  rw [e] at e2
  injection e2 with e2
  injection e2 with e2
  injection e2 with _ e2
  injection e2 with e2 _
  injection e2 with e2
  rw [← e2]
  exact n
def spMt (C : Addr) : Sp := fun vs H Q _ => ∃ (x : Addr) (many : Nat) (ms : List Mv), vs = [.ref x] ∧ ChainAt C H x many ms ∧ Good many ms ∧ ∀ v H', Same H H' → MtAt H' v many ms → MtNew H H' v → Q v H'
theorem ok_mt {f fR fG fE fA fP fT : Addr} {fd fdR fdG fdE fdA fdP fdT : FuncData} (F : Fun K "meeting" "meeting" sMeeting f fd) (DRt : Df K mg "_row_to_one" sRowToOne ["moves", "group"] fR fdR) (GRt : FnOk P w K mg base CX0 3 fR fdR ["moves", "group"] spRtF)
    (DG : Df K mg "groups_from" sGroupsFrom ["moves", "begin"] fG fdG) (GG : FnOk P w K mg base CX0 2 fG fdG ["moves", "begin"] spGf) (DEv : Df K mg "everywhere" sEverywhere ["chain"] fE fdE) (GEv : FnOk P w K mg base CX0 2 fE fdE ["chain"] (spEv C))
    (DFa : Df K mg "_first_apart" sFirstApart ["chain"] fA fdA) (GFa : FnOk P w K mg base CX0 4 fA fdA ["chain"] (spFa C)) (T : ChM K C fP fT fdP fdT) (mL : mg "list" = none) (ms' : mg "sorted" = none) : FnOk P w K mg base CX0 5 f fd ["chain"] (spMt C) := by
  have GT : FnOk P w K mg base CX0 1 fT fdT ["self"] (spTold C) := ok_told T.FT T.cl T.nV mL
  refine F.ok scMt (fun vs H Q E h => ?_) (fun cdv A outer s H vs Q E hr h => ?_)
  · obtain ⟨x, many, ms, rfl, _⟩ := h
    rfl
  · obtain ⟨x, many, ms, rfl, hC, G, q⟩ := h
    have r1 : Room 1 _ := hr.mono (by decide)
    have r2 : Room 2 _ := hr.mono (by decide)
    have r3 : Room 3 _ := hr.mono (by decide)
    refine ⟨_, (pss_cons (ps_set (i := 1) scMt.nd rfl (.inl rfl) (pe_meth0 (pv 0) T.cl T.hT GT r1 T.bT .nil pass0))
      (pss_cons (ps_set (i := 2) scMt.nd rfl (.inl rfl) (pe_call GRt r3 (by rfl) DRt.g DRt.F.kp DRt.b .nil pass0 (pa_cons (pv 1) (pa_cons (pe_call GEv r2 (by rfl) DEv.g DEv.F.kp DEv.b .nil pass0 (pa_cons (pv 0) pa_nil)) pa_nil))))
      (pss_cons (ps_if (pt_cmpR op_notN (pv 2) pe_non (nomark _)) (pss_one (ps_ret (pe_tup (pa_cons pe_str (pa_cons (pv 2) pa_nil))))) pss_nil)
      (pss_one (ps_ret (pe_tup (pa_cons pe_str (pa_cons (pe_callB (cr_sortedD (dd := 2) (B := 64) rfl (by decide)) (by rfl) ms' (by decide +kernel) (pa_cons (pe_call GG r2 (by rfl) DG.g DG.F.kp DG.b .nil pass0 (pa_cons (pv 1) (pa_cons (pe_call GFa hr (by rfl) DFa.g DFa.F.kp DFa.b .nil pass0 (pa_cons (pv 0) pa_nil)) pa_nil))) pa_nil)) pa_nil)))))))), ?_⟩
    have m6 := G.m6
    have m1 := G.m1
    have l8 := G.l8
    have two : (2 : Nat) ≤ sizeLine := by decide
    obtain ⟨dx, a0, ws0, h1, h2, h3⟩ := id hC
    refine ⟨.ref x, rfl, x, dx, _, rfl, h1, ch_noT, x, many, ms, rfl, hC, fun m ws nm hM1 => ?_⟩
    have s1 := same_new (o := .lst ws) nm
    have hm1 : (upd H m (.lst ws)) m = some (.lst ws) := upd_same
    have hC1 := hC.same s1
    generalize upd H m (.lst ws) = H1 at s1 hm1 hM1 hC1 ⊢
    refine ⟨.ref m, rfl, .ref x, rfl, x, many, ms, rfl, hC1, G, fun e H2 s2 he => ?_⟩
    refine ⟨m, e, many, ws, ms, ids many, rfl, s2 _ _ hm1, hM1.same (Same.tups s2), G.mv, l8, m6, he, ids_good many, fun v H3 s3 hv nv => ?_⟩
    have s13 := (s1.trans s2).trans s3
    have s23 := s2.trans s3
    unfold ListOr2 at hv
    cases hr' : rowTo many ms (ids many) with
    | some r =>
      rw [hr'] at hv
      obtain ⟨a, rfl, ha⟩ := hv
      refine ⟨.ref a, rfl, rfl, true, by simp, iteT ⟨.ref a, rfl, two, fun t nt => ?_⟩⟩
      have s4 := same_new (o := .tup [V.str "row", .ref a]) nt
      have n12 := (s1.trans s2).free (nv _ rfl)
      refine q _ _ (s13.trans s4) ?_ (mtNew upd_same n12)
      unfold MtAt
      rw [hr']
      exact ⟨t, a, rfl, upd_same, s4 _ _ ha⟩
    | none =>
      rw [hr'] at hv
      subst hv
      refine ⟨.non, rfl, rfl, false, by simp, iteF ?_⟩
      refine ⟨.ref m, rfl, .ref x, rfl, x, many, ms, rfl, hC1.same s23, G, fun v2 H4 s4 hv2 => ?_⟩
      unfold TupOr at hv2
      cases hf : firstApart many ms with
      | none =>
        have := apart_none G.mv m6 m1 hf
        rw [hr'] at this
        cases this
      | some g =>
        rw [hf] at hv2
        obtain ⟨ga, rfl, hga⟩ := hv2
        obtain ⟨gx, gy, x0, xy, ym, rfl⟩ := mem_pairsL.mp (List.mem_of_find?_eq_some hf)
        have gg := pair_good x0 xy ym
        have no : ¬ Meets many ms [gx, gy] := (rowTo_none gg m6).mp (List.find?_some (p := fun g => (rowTo many ms g).isNone) hf)
        have s24 := s23.trans s4
        refine ⟨m, ga, many, ws, ms, [gx, gy], rfl, s24 _ _ hm1, hM1.same (Same.tups s24), G.mv, l8, m6, hga, gg, fun D H5 s5 nD ⟨kvs, hD, pk⟩ => ?_⟩
        have two' := apart_two G.mv gg no
        have len := gf_len (ms := ms) gg m6
        have hkeys : kvs.map (·.1) = (keysG (gf many ms [gx, gy])).map (fun g => g.map (Sum.inl (β := Str))) := by
          generalize gf many ms [gx, gy] = l at pk
          clear two' len hD
          induction pk with
          | nil => rfl
          | cons h _ ih =>
            rw [List.map_cons, ih, h.1]
            rfl
        have hlen : (keysG (gf many ms [gx, gy])).length < 64 := by
          refine Nat.lt_of_le_of_lt (pigeon (m := pairsL many) (bfsN_nodup many ms [gx, gy] 64) fun g hg => ?_) ?_
          · obtain ⟨pp, hp, rfl⟩ := List.mem_map.mp hg
            obtain ⟨a, b⟩ := two' pp hp
            obtain ⟨u, v, e⟩ : ∃ u v, pp.1 = [u, v] := two_of a
            rw [e] at b ⊢
            exact mem_pairsL.mpr ⟨u, v, (b.2 u List.mem_cons_self).1, (List.pairwise_cons.mp b.1).1 v List.mem_cons_self, (b.2 v (List.mem_cons_of_mem _ List.mem_cons_self)).2, rfl⟩
          · have := combOk_len (Cm.combOk_small many m6)
            unfold pairsL
            rw [List.length_map, ← combs_eq many m6]
            omega
        refine ⟨D, kvs, keysG (gf many ms [gx, gy]), rfl, hD, hkeys, hlen, fun g hg => ?_, fun L' p hsq pm pw np => ?_⟩
        · obtain ⟨pp, hp, rfl⟩ := List.mem_map.mp hg
          obtain ⟨a, b⟩ := two' pp hp
          refine ⟨a, ?_⟩
          exact fun z hz => by have := b.2 z hz; omega
        have s6 := same_new (o := .lst (L'.map fun q => V.ref q.1)) np
        refine ⟨two, fun t nt => ?_⟩
        have s7 := same_new (o := .tup [V.str "apart", .ref p]) nt
        have hp7 := s7 _ _ (show (upd H5 p (.lst (L'.map fun q => V.ref q.1))) p = some _ from upd_same)
        refine q _ _ (((s13.trans s4).trans s5).trans (s6.trans s7)) ?_ (mtNew upd_same (((s13.trans s4).trans s5).free np))
        unfold MtAt
        rw [hr']
        refine ⟨t, p, [gx, gy], L'.map (·.2), rfl, upd_same, hf, ⟨pm, List.pairwise_map.mpr pw⟩, _, hp7, ?_⟩
        have s67 := s6.trans s7
        have : ∀ M : List (Addr × List Int), (∀ q ∈ M, H5 q.1 = some (.tup (q.2.map V.int))) → Paired (fun v (g : List Int) => ∃ t2, v = V.ref t2 ∧ (upd (upd H5 p (.lst (L'.map fun q => V.ref q.1))) t (.tup [V.str "apart", .ref p])) t2 = some (.tup (g.map V.int))) (M.map fun q => V.ref q.1) (M.map (·.2)) := by
          intro M
          induction M with
          | nil => intro _; exact .nil
          | cons q M ih =>
            intro h
            refine .cons ⟨q.1, rfl, s67 _ _ (h q List.mem_cons_self)⟩ (ih fun z hz => h z (List.mem_cons_of_mem _ hz))
        exact this L' hsq
end
section
variable {P : Program} {w : World} {K : PySem.W.Frag} {mg : Str → Option Value} {base : Heap} {C : Addr}
/-! ### shares -/
theorem whole_pos {many : Nat} {ms : List Mv} (G : Good many ms) : 1 ≤ whole ms := by
  have l1 := G.l1
  obtain ⟨m, r, rfl⟩ := List.exists_cons_of_length_pos (Nat.lt_of_lt_of_le (by decide) l1)
  unfold whole
  rw [sumL_cons]
  have h1 := (G.mv m List.mem_cons_self).1
  have h2 := sumL_nn (l := r) (f := fun m => m.1) fun a ha => by have := (G.mv a (List.mem_cons_of_mem _ ha)).1; omega
  omega
theorem sumL_most {α : Type} {l : List α} {f : α → Int} {b : Int} (h : ∀ a ∈ l, f a ≤ b) : sumL l f ≤ l.length * b := by
  induction l with
  | nil => rw [sumL_nil, List.length_nil]; omega
  | cons a l ih =>
    rw [sumL_cons, List.length_cons]
    have := h a List.mem_cons_self
    have := ih fun x hx => h x (List.mem_cons_of_mem _ hx)
    rw [Int.natCast_add, Int.add_mul]
    omega
theorem whole_le {many : Nat} {ms : List Mv} (G : Good many ms) : whole ms ≤ 792 := by
  have l8 := G.l8
  have := sumL_most (l := ms) (f := fun m => m.1) (b := 99) fun m hm => (G.mv m hm).2.1
  unfold whole
  omega
theorem pow_big {W : Int} (h1 : 1 ≤ W) (h2 : W ≤ 792) {n : Nat} (hn : n ≤ 20) : 0 < W ^ n ∧ (W ^ n).natAbs < 2 ^ 210 := by
  have p : 0 < W ^ n := Int.pow_pos (by omega)
  refine ⟨p, ?_⟩
  rw [Int.natAbs_pow]
  have h3 : W.natAbs ≤ 2 ^ 10 := by
    rw [show (2 : Nat) ^ 10 = 1024 from rfl]
    omega
  refine Nat.lt_of_le_of_lt (Nat.pow_le_pow_left h3 n) ?_
  rw [← Nat.pow_mul]
  exact Nat.pow_lt_pow_right (by decide) (by omega)
theorem GoodMv.w0 {many : Nat} {ms : List Mv} (G : Good many ms) : ∀ m ∈ ms, 0 ≤ m.1 := fun m hm => by
  have := (G.mv m hm).1
  omega
theorem foldL_good {many : Nat} {ms : List Mv} : ∀ (r : List Int) {g : List Int}, goodG many g → goodG many (imgR ms (ledM many) g r)
  | [], _, h => h
  | a :: r, g, _ => foldL_good r (ledG_good many _ g)
theorem cntN_good {many : Nat} (ms : List Mv) : ∀ n, CntG many (cntN ms (ledM many) (ids many) n)
  | 0 => ⟨by show [ids many].Nodup; simp, fun p hp => by rw [List.mem_singleton.mp hp]; exact ids_good many⟩
  | n + 1 => ⟨stepC_nodup _ _, stepC_keys (P := goodG many) _ fun p hp m hm => ledG_good many m.2 p.1⟩
/-- so much of the rows of n numbers draws p -/
def shrN (many : Nat) (ms : List Mv) (n : Nat) (p : Int) : Int := valC (cntN ms (ledM many) (ids many) n) [p]
def restN (many : Nat) (ms : List Mv) (n : Nat) : Int := whole ms ^ n - sumL (ids many) (shrN many ms n)
def SharesAt (H : Hp) (t : Addr) (many : Nat) (ms : List Mv) (n : Nat) : Prop := ∃ l r us, H t = some (.tup [.ref l, r]) ∧ H l = some (.lst us) ∧ Paired (fun u p => FracAt H u (frac (shrN many ms n p) (whole ms ^ n))) us (ids many) ∧ FracAt H r (frac (restN many ms n) (whole ms ^ n))
theorem scSh : FnScope ["chain", "far", "weights", "_", "total", "ones", "place", "one"] ["chain", "far"] (defScope sShares) := ⟨rfl, rfl, rfl, by decide +kernel, rfl, by decide +kernel, by decide +kernel⟩
def spSh (C : Addr) : Sp := fun vs H Q _ => ∃ (x : Addr) (many : Nat) (ms : List Mv) (n : Nat), vs = [.ref x, .int (n : Int)] ∧ ChainAt C H x many ms ∧ Good many ms ∧ n ≤ 20 ∧ ∀ t l r H', Same H H' → SharesAt H' t many ms n → H' t = some (.tup [.ref l, r]) → H l = none → Q (.ref t) H'
theorem ok_shares {f fE fB fL fF fP fT : Addr} {fd fdE fdB fdL fdF fdP fdT : FuncData} {tF : Tok} (F : Fun K "shares" "shares" sShares f fd) (T : ChM K C fP fT fdP fdT) (DEv : Df K mg "everywhere" sEverywhere ["chain"] fE fdE) (GEv : FnOk P w K mg base CX0 2 fE fdE ["chain"] (spEv C))
    (DBs : Df K mg "_behind_a_step" sBehindAStep ["moves", "weights"] fB fdB) (DL : Df K mg "led_to" sLedTo ["whither", "group"] fL fdL) (DFr : Df K mg "fraction" sFraction ["top", "bottom"] fF fdF) (mgcd : mg "gcd" = some (.builtin "math.gcd")) (gF : mg "MOST_FAR" = some (.int 20 tF))
    (mt : mg "tuple" = none) (ms' : mg "sorted" = none) (mr : mg "range" = none) (mSu : mg "sum" = none) (mL : mg "list" = none) : FnOk P w K mg base CX0 3 f fd ["chain", "far"] (spSh C) := by
  have GBs : FnOk P w K mg base CX0 2 fB fdB ["moves", "weights"] spBs := ok_bs DBs.F DL mt ms'
  have GFr : FnOk P w K mg base CX0 1 fF fdF ["top", "bottom"] spFrZ := ok_fractionZ DFr.F mgcd
  have GP : FnOk P w K mg base CX0 1 fP fdP ["self"] (spPlaces C) := ok_places T.FP T.cl T.nM
  have GT : FnOk P w K mg base CX0 1 fT fdT ["self"] (spTold C) := ok_told T.FT T.cl T.nV mL
  refine F.ok scSh (fun vs H Q E h => ?_) (fun cdv A outer s H vs Q E hr h => ?_)
  · obtain ⟨x, many, ms, n, rfl, _⟩ := h
    rfl
  · obtain ⟨x, many, ms, n, rfl, hC, G, hn, q⟩ := h
    have r1 : Room 1 _ := hr.mono (by decide)
    have r2 : Room 2 _ := hr.mono (by decide)
    have hu1 := hu_of hr
    refine ⟨_, (pss_cons (ps_if (pt_cmpR op_notIn_rng (pv 1) (pe_callTy cr_range1 (by rfl) mr (by decide +kernel) (pa_cons (pe_op op_add (pe_glob (v := .int 20) (by rfl) gF ⟨_, rfl⟩) pe_int) pa_nil)) (by with_unfolding_all rfl)) pss_never pss_nil)
      (pss_cons (ps_set (i := 2) scSh.nd rfl (.inr rfl) (pe_disp1T hu1 (pps_cons (pe_call GEv r2 (by rfl) DEv.g DEv.F.kp DEv.b .nil pass0 (pa_cons (pv 0) pa_nil)) pe_int pps_nil)))
      (pss_cons (ps_for PassesOwn.never rfl (pi_range1 (by rfl) mr (pa_cons (pv 1) pa_nil)) (pg_name (i := 3) scSh.nd rfl (.inl rfl)) (pss_one (ps_set (i := 2) scSh.nd rfl (.inr rfl) (pe_call GBs r2 (by rfl) DBs.g DBs.F.kp DBs.b .nil pass0 (pa_cons (pe_meth0 (pv 0) T.cl T.hT GT r1 T.bT .nil pass0) (pa_cons (pv 2) pa_nil))))))
      (pss_cons (ps_set (i := 4) scSh.nd rfl (.inr rfl) (pe_sumVals rfl (by rfl) mSu (pv 2)))
      (pss_cons (ps_setLc (i := 5) (own := [("place", 6)]) (g := gName 6) (tt := tYes) (te := (tDGet2 (tVar 2) (tTup (tCons (tVar 6) tNil)) (tC (.int 0)))) rfl scSh.nd rfl rfl (sw_true rfl rfl rfl (by decide +kernel)) (pi_range1 (by rfl) mr (pa_cons (pe_meth0 (pv 0) T.cl T.hP GP r1 T.bP .nil pass0) pa_nil)) (blkOk_by (N := ["chain", "far", "weights", "_", "total", "ones", "place", "one"]) (sc := defScope sShares) (by decide +kernel)) (fun _ _ _ _ _ => by exact (pg_name (i := 6) scSh.nd rfl (.inl rfl))) (fun _ _ _ _ _ => pts_nil) (fun _ _ _ _ _ => by exact (pe_dget2 hu1 (pv 2) (pe_tup (pa_cons (pv 6) pa_nil)) pe_int ⟨by rfl, by rfl, by rfl, by rfl⟩)))
      (pss_one (ps_ret (pe_tup (pa_cons (pe_lc (own := [("one", 7)]) (g := gName 7) (tt := tYes) (te := (tCall spFrZ [] E0 (tCons (tVar 7) (tCons (tVar 4) tNil)))) rfl scSh.nd (pi_list (pv 5)) (blkOk_by (N := ["chain", "far", "weights", "_", "total", "ones", "place", "one"]) (sc := defScope sShares) (by decide +kernel)) (fun _ _ _ _ _ => by exact (pg_name (i := 7) scSh.nd rfl (.inl rfl))) (fun _ _ _ _ _ => pts_nil) (fun _ _ _ _ _ => by exact (pe_call GFr r1 (by rfl) DFr.g DFr.F.kp DFr.b .nil pass0 (pa_cons (pv 7) (pa_cons (pv 4) pa_nil))))) (pa_cons (pe_call GFr r1 (by rfl) DFr.g DFr.F.kp DFr.b .nil pass0 (pa_cons (pe_op op_sub (pv 4) (pe_callB (cr_sum rfl) (by rfl) mSu (by decide +kernel) (pa_cons (pv 5) pa_nil))) (pa_cons (pv 4) pa_nil))) pa_nil)))))))))), ?_⟩
    have m6 := G.m6
    have m1 := G.m1
    have Wp := pow_big (whole_pos G) (whole_le G) hn
    refine ⟨.int (n : Int), rfl, _, _, rfl, rfl, _, rfl, fun rp nrp => ?_⟩
    have s0 := same_new (o := .rng 0 (20 + 1)) nrp
    refine ⟨(n : Int), rp, 0, 21, rfl, rfl, upd_same, ?_⟩
    refine ⟨false, by rw [decide_eq_true (show (0 : Int) ≤ (n : Int) ∧ (n : Int) < 21 by omega)]; rfl, iteF ?_⟩
    have hC0 := hC.same s0
    show tSeq _ _ _ _ (upd H rp (.rng 0 21))
    replace s0 : Same H (upd H rp (.rng 0 21)) := s0
    replace hC0 : ChainAt C (upd H rp (.rng 0 21)) x many ms := hC0
    generalize upd H rp (.rng 0 21) = H0 at s0 hC0 ⊢
    -- weights = {everywhere(chain): 1}
    refine fun d0 nd0 => ?_
    have s1 := same_new (o := .dT []) nd0
    refine ⟨.ref x, rfl, x, many, ms, rfl, hC0.same s1, G, fun ev H1 s2 hev => ?_⟩
    have hd1 := s2 _ _ (upd_same (H := H0) (a := d0) (o := HO.dT []))
    refine ⟨hd1, ev, (ids many).map Sum.inl, .int 1, rfl, by rw [key_intsC]; exact hev, ?_⟩
    have s3 : Same H (upd H1 d0 (.dT [((ids many).map Sum.inl, V.int 1)])) := fun b o e => by
      have e0 := s0 _ _ e
      rw [upd_ne (ne_of_none e0 nd0)]
      exact s2 _ _ (s1 _ _ e0)
    have hd2 : (upd H1 d0 (.dT [((ids many).map Sum.inl, V.int 1)])) d0 = some (.dT (encC (cntN ms (ledM many) (ids many) 0))) := upd_same
    have nH0 : H d0 = none := s0.free nd0
    show tSeq _ _ _ _ (upd H1 d0 (.dT [((ids many).map Sum.inl, V.int 1)]))
    generalize upd H1 d0 (.dT [((ids many).map Sum.inl, V.int 1)]) = H2 at s3 hd2 ⊢
    refine ⟨_, rfl, _, rfl, by omega, by omega, ?_⟩
    refine for_range (lo := 0) (n := ((n : Int)).toNat) (fun i σ H' => ∃ d y3, σ = [some (.ref x), some (.int (n : Int)), some (.ref d), y3, none, none, none, none] ∧ Same H H' ∧ H d = none ∧ H' d = some (.dT (encC (cntN ms (ledM many) (ids many) i))))
      ⟨d0, none, rfl, s3, nH0, hd2⟩ ?_ ?_
    · rintro i σ H3 hi ⟨d, y3, rfl, s4, nHd, hd3⟩
      obtain ⟨dx, a0, ws0, h1, h2, h3⟩ := id (hC.same s4)
      refine ⟨.ref x, rfl, x, dx, _, rfl, h1, ch_noT, x, many, ms, rfl, hC.same s4, fun l wl nl hMl => ?_⟩
      have s5 := same_new (o := .lst wl) nl
      have hl : (upd H3 l (.lst wl)) l = some (.lst wl) := upd_same
      refine ⟨.ref d, rfl, l, d, many, wl, ms, _, rfl, hl, hMl, G, s5 _ _ hd3, cntN_good ms i, fun b H4 g4 nb hb => ?_⟩
      refine ⟨b, _, rfl, fun c o e => g4 c o (fun z => by rw [z, nHd] at e; cases e) (s5 _ _ (s4 _ _ e)), ?_, hb⟩
      exact s4.free (s5.free nb)
    · rintro σ H3 ⟨d, y3, rfl, s4, nHd, hd3⟩
      rw [show ((n : Int)).toNat = n by omega] at hd3
      refine ⟨.ref d, rfl, d, _, _, rfl, hd3, encC_vals _, ?_⟩
      rw [cntN_sum]
      -- ones
      obtain ⟨dx, a0, ws0, h1, h2, h3⟩ := id (hC.same s4)
      refine ⟨.ref x, rfl, x, dx, _, rfl, h1, ch_no, x, many, ms, rfl, hC.same s4, _, rfl, by omega, by omega, fun L nL => ?_⟩
      have idl : (ids many).length = many := by unfold ids; rw [List.length_map, List.length_range]
      have ida : ∀ {i : Nat}, i < many → (ids many)[i]? = some (i : Int) := fun {i} h => by unfold ids; rw [List.getElem?_map, List.getElem?_range h]; rfl
      refine lc_range (lo := 0) (n := ((many : Int)).toNat) (fun i H' => Same H3 H' ∧ H' L = some (.lst ((((ids many).take i).map (shrN many ms n)).map V.int))) ⟨same_new nL, by rw [upd_same]; rfl⟩ ?_ ?_
      · rintro i H4 hi ⟨s5, hL⟩
        have hi' : i < many := by omega
        have hd4 := s5 _ _ hd3
        refine ⟨rfl, .ref d, rfl, d, rfl, .inr ⟨_, .inl hd4⟩, .int (0 + (i : Int)), rfl, (by show 1 ≤ sizeLine; decide), fun tp ntp => ?_⟩
        have s6 := same_new (o := .tup [.int (0 + (i : Int))]) ntp
        have htp : (upd H4 tp (.tup [.int (0 + (i : Int))])) tp = some (.tup ((([(i : Int)] : List Int).map (Sum.inl (β := Str))).map kV)) := by rw [upd_same, Int.zero_add]; rfl
        refine ⟨_, DGet.t (s6 _ _ hd4) htp, ?_⟩
        rw [encC_get]
        refine ⟨_, s6 _ _ hL, ?_, fun b o e => ?_, ?_⟩
        · rw [List.length_map, List.length_map, List.length_take]
          exact small8 (by omega)
        · rw [upd_ne (ne_of_none e nL)]
          exact s6 _ _ (s5 _ _ e)
        · rw [upd_same, take_snoc (ida hi'), List.map_append, List.map_append]
          rfl
      · rintro H4 ⟨s5, hL⟩
        rw [show ((many : Int)).toNat = many by omega, List.take_of_length_le (by rw [idl]; exact Nat.le_refl _)] at hL
        have nHL : H L = none := s4.free nL
        -- the fractions
        refine ⟨.ref L, rfl, L, rfl, ⟨_, SqL.of hL⟩, fun D nD => ?_⟩
        refine lc_list (K := K) (a := L) (xs := ((ids many).map (shrN many ms n)).map V.int) (fun i H' => Same H4 H' ∧ ∃ us, H' D = some (.lst us) ∧ Paired (fun u p => FracAt H' u (frac (shrN many ms n p) (whole ms ^ n)) ∧ u ≠ .ref D) us ((ids many).take i))
          ⟨same_new nD, [], upd_same, by rw [List.take_zero]; exact .nil⟩ (fun i H' _ h => SqL.of (h.1 _ _ hL)) ?_ ?_
        · rintro i v H5 hv ⟨s6, us, hD, pu⟩
          rw [List.getElem?_map, List.getElem?_map] at hv
          obtain ⟨z, hz, rfl⟩ := Option.map_eq_some_iff.mp hv
          obtain ⟨p, hp, rfl⟩ := Option.map_eq_some_iff.mp hz
          have hi' : i < many := by rw [← idl]; exact (List.getElem?_eq_some_iff.mp hp).1
          refine ⟨rfl, _, rfl, _, rfl, shrN many ms n p, whole ms ^ n, rfl, by omega, Nat.lt_trans Wp.2 (Nat.pow_lt_pow_right (by decide) (by decide)), fun t nt => ?_⟩
          rw [fracZ_pos Wp.1]
          have s7 := same_new (o := .tup [.int (frac (shrN many ms n p) (whole ms ^ n)).1, .int (frac (shrN many ms n p) (whole ms ^ n)).2]) nt
          have ntD : t ≠ D := fun z => by rw [z, hD] at nt; cases nt
          have kp : ∀ b o, b ≠ D → H5 b = some o → (upd (upd H5 t (.tup [.int (frac (shrN many ms n p) (whole ms ^ n)).1, .int (frac (shrN many ms n p) (whole ms ^ n)).2])) D (.lst (us ++ [.ref t]))) b = some o := fun b o nb e => by
            rw [upd_ne nb]
            exact s7 _ _ e
          refine ⟨us, s7 _ _ hD, ?_, fun b o e => kp b o (ne_of_none e nD) (s6 _ _ e), us ++ [.ref t], upd_same, ?_⟩
          · have := pu.length
            rw [List.length_take] at this
            exact small8 (by omega)
          · rw [take_snoc hp]
            refine paired_end ⟨⟨t, rfl, by rw [upd_ne ntD]; exact upd_same⟩, fun z => by injection z with z; exact ntD z⟩ (L2.Paired.mapP pu fun u p h => ?_)
            obtain ⟨⟨t2, e1, e2⟩, nu⟩ := h
            exact ⟨⟨t2, e1, kp _ _ (fun z => nu (by rw [e1, z])) e2⟩, nu⟩
        · rintro H5 ⟨s6, us, hD, pu⟩
          rw [List.length_map, List.length_map, List.take_length] at pu
          refine ⟨_, rfl, .ref L, rfl, L, _, rfl, SqL.of (s6 _ _ hL), _, _, rfl, rfl, _, rfl, ?_⟩
          refine ⟨_, _, rfl, by omega, Nat.lt_trans Wp.2 (Nat.pow_lt_pow_right (by decide) (by decide)), fun t nt => ?_⟩
          rw [fracZ_pos Wp.1]
          have s7 := same_new (o := .tup [.int (frac (restN many ms n) (whole ms ^ n)).1, .int (frac (restN many ms n) (whole ms ^ n)).2]) nt
          have ht : (upd H5 t (.tup [.int (frac (restN many ms n) (whole ms ^ n)).1, .int (frac (restN many ms n) (whole ms ^ n)).2])) t = some (.tup [.int (frac (restN many ms n) (whole ms ^ n)).1, .int (frac (restN many ms n) (whole ms ^ n)).2]) := upd_same
          refine ⟨(by show 2 ≤ sizeLine; decide), fun T2 nT2 => ?_⟩
          have s8 := same_new (o := .tup [.ref D, .ref t]) nT2
          refine q T2 D (.ref t) _ ((((s4.trans s5).trans s6).trans s7).trans s8) (show SharesAt _ T2 many ms n from ⟨D, .ref t, us, upd_same, s8 _ _ (s7 _ _ hD), L2.Paired.mapP pu fun u p h => ?_, t, rfl, s8 _ _ ht⟩) upd_same ((s4.trans s5).free nD)
          exact (h.1.same s7).same s8
end
def rowV (many : Nat) (g : Nat → Int) : List V := (List.range many).map fun e => V.int (g e)
theorem rowV_get {many e : Nat} {g : Nat → Int} (h : e < many) : (rowV many g)[e]? = some (.int (g e)) := by
  unfold rowV
  rw [List.getElem?_map, List.getElem?_range h]
  rfl
theorem rowV_len (many : Nat) (g : Nat → Int) : (rowV many g).length = many := by
  unfold rowV
  rw [List.length_map, List.length_range]
theorem rowV_set {many e : Nat} {g : Nat → Int} {z : Int} (h : e < many) : (rowV many g).set e (.int z) = rowV many (fun x => if x = e then z else g x) := by
  apply List.ext_getElem?
  intro i
  rw [List.getElem?_set]
  by_cases hi : i < many
  · rw [rowV_get hi, rowV_get hi, rowV_len]
    by_cases he : e = i
    · subst he
      rw [if_pos rfl, if_pos h, if_pos rfl]
    · rw [if_neg he, if_neg (Ne.symm he)]
  · have h1 : (rowV many g)[i]? = none := List.getElem?_eq_none_iff.mpr (by rw [rowV_len]; omega)
    have h2 : (rowV many (fun x => if x = e then z else g x))[i]? = none := List.getElem?_eq_none_iff.mpr (by rw [rowV_len]; omega)
    rw [h1, h2, if_neg (by omega)]
section
variable {P : Program} {w : World} {K : PySem.W.Frag} {mg : Str → Option Value} {base : Heap} {C : Addr}
/-- xs[i], by values -/
theorem pget_list {X : Cx} : PGet X (rIxL X.K) := by
  intro pins s σ H o i ov iv Q I ro ri h
  obtain ⟨p, xs, k, z, eo, ei, hq, he, q⟩ := h
  subst eo ei
  have e0 : ov = Value.ref p := ro
  subst e0
  obtain ⟨t, rfl⟩ := ri
  obtain ⟨its, r, pl, hz⟩ := I.list hq
  obtain ⟨j, h1, h2, h3, h4, h5⟩ := atI_get he
  obtain ⟨u, eu, ru⟩ := r.get h2
  have hl := r.length
  have hn := line63
  by_cases h0 : 0 ≤ k
  · have hj : k.toNat = j := by
      rw [seqIndex_of h0 h5] at h1
      exact Option.some.inj h1
    exact wpAny_getItem_list pl.isList h0 (by omega) (by rw [hj]; simpa using eu) ⟨z, H, I, ru, q⟩
  · have hj : (k + (its.toArray.size : Int)).toNat = j := by
      rw [seqIndex_neg (by omega) h4] at h1
      rw [List.size_toArray, ← hl]
      exact Option.some.inj h1
    exact wpAny_getItem_list_neg pl.isList (by omega) (by rw [List.size_toArray] <;> omega) (by omega) (by rw [hj]; simpa using eu) ⟨z, H, I, ru, q⟩
/-! ### _weights -/
/-- the weights of the moves that lead b to e -/
def cnt (ms : List Mv) (b e : Nat) : Int := (ms.map fun m => if m.2[b]? = some ((e : Nat) : Int) then m.1 else 0).sum
def tot (ms : List Mv) : Int := (ms.map (·.1)).sum
/-- rows of numbers: the lists at as, told by f; all new since H0 -/
structure WtsAt (H0 H : Hp) (R : Addr) (as : List Addr) (many : Nat) (f : Nat → Nat → Int) : Prop where
  at_ : H R = some (.lst (as.map V.ref))
  len : as.length = many
  row : ∀ b a, as[b]? = some a → H a = some (.lst (rowV many (f b)))
  nd : as.Nodup
  new : ∀ a ∈ as, H0 a = none
  newR : H0 R = none
  neR : R ∉ as
theorem WtsAt.same {H0 H H' : Hp} {R : Addr} {as : List Addr} {many : Nat} {f : Nat → Nat → Int} (h : WtsAt H0 H R as many f) (s : Same H H') : WtsAt H0 H' R as many f :=
  ⟨s _ _ h.at_, h.len, fun b a e => s _ _ (h.row b a e), h.nd, h.new, h.newR, h.neR⟩
/-- one number of one row is changed -/
theorem WtsAt.put {H0 H : Hp} {R : Addr} {as : List Addr} {many : Nat} {f : Nat → Nat → Int} {b e : Nat} {a : Addr} {z : Int} (h : WtsAt H0 H R as many f) (hb : as[b]? = some a) (he : e < many) :
    WtsAt H0 (upd H a (.lst ((rowV many (f b)).set e (.int z)))) R as many (fun x y => if x = b ∧ y = e then z else f x y) := by
  have ma := List.mem_of_getElem? hb
  have nRa : R ≠ a := fun q => h.neR (q ▸ ma)
  refine ⟨by rw [upd_ne nRa]; exact h.at_, h.len, fun x c hx => ?_, h.nd, h.new, h.newR, h.neR⟩
  by_cases hx2 : x = b
  · subst hx2
    rw [hb] at hx
    cases hx
    rw [upd_same, rowV_set he]
    congr 3
    funext y
    by_cases hy : y = e
    · rw [if_pos hy, if_pos ⟨rfl, hy⟩]
    · rw [if_neg hy, if_neg (fun q => hy q.2)]
  · have nc : c ≠ a := fun q => hx2 (nd_ix h.nd hx (q ▸ hb))
    rw [upd_ne nc, h.row x c hx]
    congr 3
    funext y
    rw [if_neg (fun q => hx2 q.1)]
theorem WtsAt.keep {H0 H : Hp} {R : Addr} {as : List Addr} {many : Nat} {f : Nat → Nat → Int} {a : Addr} {o : HO} (h : WtsAt H0 H R as many f) (s : Same H0 H) (ma : a ∈ as) : Same H0 (upd H a o) := fun b u e => by
  rw [upd_ne (ne_of_none e (h.new a ma))]
  exact s b u e
theorem flat_rep {α : Type} : ∀ (n : Nat) (x : α), (List.replicate n [x]).flatten = List.replicate n x
  | 0, _ => rfl
  | n + 1, x => by rw [List.replicate_succ, List.flatten_cons, flat_rep n x, List.replicate_succ]; rfl
def spWeights (C : Addr) : Sp := fun vs H Q _ => ∃ (x : Addr) (many : Nat) (ms : List Mv), vs = [.ref x] ∧ ChainAt C H x many ms ∧ Good many ms ∧ ∀ R as H', Same H H' → WtsAt H H' R as many (cnt ms) → Q (.ref R) H'
def nW : List Str := ["chain", "rows", "weight", "whither", "begin", "end", "_"]
theorem scW : FnScope ["chain", "rows", "weight", "whither", "begin", "end", "_"] ["chain"] (defScope sWeights) := ⟨rfl, rfl, rfl, by decide +kernel, rfl, by decide +kernel, by decide +kernel⟩
theorem cnt_snoc (ms : List Mv) (i : Nat) (m : Mv) (h : ms[i]? = some m) (b e : Nat) : cnt (ms.take (i + 1)) b e = cnt (ms.take i) b e + (if m.2[b]? = some ((e : Nat) : Int) then m.1 else 0) := by
  unfold cnt
  rw [List.take_add_one, h, List.map_append, List.sum_append]
  simp
/-- what a chain's methods are -/
theorem ok_weights {f fP fT : Addr} {fd fdP fdT : FuncData} (F : Fun K "_weights" "_weights" sWeights f fd) (T : ChM K C fP fT fdP fdT) (mr : mg "range" = none) (me : mg "enumerate" = none) (mL : mg "list" = none) : FnOk P w K mg base CX0 2 f fd ["chain"] (spWeights C) := by
  have GP : FnOk P w K mg base CX0 1 fP fdP ["self"] (spPlaces C) := ok_places T.FP T.cl T.nM
  have GT : FnOk P w K mg base CX0 1 fT fdT ["self"] (spTold C) := ok_told T.FT T.cl T.nV mL
  refine F.ok scW (fun vs H Q E h => ?_) (fun cdv A outer s H vs Q E hr h => ?_)
  · obtain ⟨x, many, ms, rfl, _⟩ := h
    rfl
  · obtain ⟨x, many, ms, rfl, hC, G, q⟩ := h
    refine ⟨_, pss_cons (ps_setLc (i := 1) (own := [("_", 6)]) (g := gName 6) (tt := tYes) rfl scW.nd rfl rfl (sw_true rfl rfl rfl (by decide +kernel)) (pi_range1 (by rfl) mr (pa_cons (pe_meth0 (pv 0) T.cl T.hP GP hr T.bP .nil pass0) pa_nil)) (blkOk_by (N := nW) (sc := defScope sWeights) (by decide +kernel))
          (fun _ _ _ _ _ => pg_name (i := 6) scW.nd rfl (.inl rfl)) (fun _ _ _ _ _ => pts_nil) (fun _ _ _ _ _ => pe_op op_rep (pe_lst (pa_cons pe_int pa_nil)) (pe_meth0 (pv 0) T.cl T.hP GP hr T.bP .nil pass0)))
      (pss_cons (ps_for PassesOwn.never rfl (pi_list (pe_meth0 (pv 0) T.cl T.hT GT hr T.bT .nil pass0)) (pg_tup rfl (pgs_cons (pg_name (i := 2) scW.nd rfl (.inl rfl)) (pgs_cons (pg_name (i := 3) scW.nd rfl (.inl rfl)) pgs_nil)))
        (pss_one (ps_for PassesOwn.never rfl (pi_enumT (by rfl) me (pa_cons (pv 3) pa_nil)) (pg_tup rfl (pgs_cons (pg_name (i := 4) scW.nd rfl (.inl rfl)) (pgs_cons (pg_name (i := 5) scW.nd rfl (.inl rfl)) pgs_nil)))
          (pss_one (ps_augS (pe_ix ix_list (pv 1) (pv 4) (fun _ _ => rfl)) (pv 5) pget_list (pv 2) ip_add set_list)))))
      (pss_one (ps_ret (pv 1)))), ?_⟩
    obtain ⟨dx, a0, ws, h1, h2, h3⟩ := id hC
    have m1 := G.m1
    have m6 := G.m6
    have en : ((many : Nat) : Int).toNat = many := by omega
    -- rows = [[0] * chain.places() for _ in range(chain.places())]
    refine ⟨.ref x, rfl, x, dx, _, rfl, h1, ch_no, x, many, ms, rfl, hC, _, rfl, by omega, by omega, fun R nR => ?_⟩
    refine lc_range (lo := 0) (n := ((many : Nat) : Int).toNat) (fun j H' => Same H H' ∧ ∃ as : List Addr, as.length = j ∧ H' R = some (.lst (as.map V.ref)) ∧ (∀ a ∈ as, H' a = some (.lst (rowV many fun _ => 0))) ∧ as.Nodup ∧ (∀ a ∈ as, H a = none) ∧ R ∉ as)
      ⟨same_new nR, [], rfl, upd_same, (fun _ z => nomatch z), List.nodup_nil, (fun _ z => nomatch z), (fun z => nomatch z)⟩ ?_ ?_
    · rintro j H1 hj ⟨s1, as, el, hR, hrow, nd, new, nRa⟩
      rw [en] at hj
      refine ⟨rfl, Nat.le_add_left 1 0 |> fun _ => (by show 1 ≤ sizeLine; decide), fun z nz => ?_⟩
      have s2 : Same H1 (upd H1 z (.lst [.int 0])) := same_new nz
      have hC2 := (hC.same s1).same s2
      obtain ⟨dx2, a2, ws2, g1, g2, g3⟩ := id hC2
      refine ⟨.ref x, rfl, x, dx2, _, rfl, g1, ch_no, x, many, ms, rfl, hC2, ?_⟩
      refine ⟨z, (many : Int), [.int 0], rfl, rfl, upd_same, by omega, by omega, ?_, fun y ny => ?_⟩
      · rw [en]
        exact Nat.le_of_lt (small8 (by show 1 * many ≤ 8; omega))
      · have s3 : Same (upd H1 z (.lst [.int 0])) (upd (upd H1 z (.lst [.int 0])) y (.lst (List.replicate ((many : Nat) : Int).toNat [V.int 0]).flatten)) := same_new ny
        have erow : (List.replicate ((many : Nat) : Int).toNat [V.int 0]).flatten = rowV many fun _ => 0 := by
          rw [en]
          unfold rowV
          apply List.ext_getElem?
          intro i
          have e1 := flat_rep many (V.int 0)
          rw [e1, List.getElem?_replicate, List.getElem?_map]
          by_cases hi : i < many
          · rw [if_pos hi, List.getElem?_range hi]
            rfl
          · rw [if_neg hi, List.getElem?_eq_none_iff.mpr (by rw [List.length_range]; omega)]
            rfl
        have ny1 : H1 y = none := s2.free ny
        have hRn : (upd (upd H1 z (.lst [.int 0])) y (.lst (List.replicate ((many : Nat) : Int).toNat [V.int 0]).flatten)) R = some (.lst (as.map V.ref)) := s3 _ _ (s2 _ _ hR)
        refine ⟨_, hRn, by rw [List.length_map, el]; exact small8 (by omega), ?_⟩
        have nyR : y ≠ R := (ne_of_none hR ny1).symm
        have keep : ∀ b u, b ≠ R → H1 b = some u → (upd (upd (upd H1 z (.lst [.int 0])) y (.lst (List.replicate ((many : Nat) : Int).toNat [V.int 0]).flatten)) R (.lst (as.map V.ref ++ [.ref y]))) b = some u := fun b u nb e => by
          rw [upd_ne nb]
          exact s3 _ _ (s2 _ _ e)
        refine ⟨fun b u e => ?_, as ++ [y], by rw [List.length_append, el]; rfl, by rw [upd_same, List.map_append]; rfl, fun a ha => ?_, ?_, fun a ha => ?_, ?_⟩
        · by_cases hb : b = R
          · rw [hb] at e
            rw [nR] at e
            cases e
          · exact keep b u hb (s1 _ _ e)
        · rcases List.mem_append.mp ha with ha | ha
          · exact keep a _ (fun q => nRa (q ▸ ha)) (hrow a ha)
          · have ea : a = y := by simpa using ha
            rw [ea, upd_ne nyR, upd_same, erow]
        · refine List.nodup_append.mpr ⟨nd, by simp, fun a ha b hb => ?_⟩
          have eb : b = y := by simpa using hb
          rw [eb]
          exact ne_of_none (hrow a ha) ny1
        · rcases List.mem_append.mp ha with ha | ha
          · exact new a ha
          · have ea : a = y := by simpa using ha
            rw [ea]
            exact s1.free ny1
        · intro ha
          rcases List.mem_append.mp ha with ha | ha
          · exact nRa ha
          · have ea : R = y := by simpa using ha
            exact nyR ea.symm
    · rintro H1 ⟨s1, as, el, hR, hrow, nd, new, nRa⟩
      rw [en] at el
      have RA0 : WtsAt H H1 R as many (cnt []) := ⟨hR, el, fun b a e => hrow a (List.mem_of_getElem? e), nd, new, nR, nRa⟩
      have hC1 := hC.same s1
      obtain ⟨dx1, a1, ws1, g1, g2, g3⟩ := id hC1
      refine ⟨.ref x, rfl, x, dx1, _, rfl, g1, ch_noT, x, many, ms, rfl, hC1, fun l wl nl hM => ?_⟩
      have s2 : Same H1 (upd H1 l (.lst wl)) := same_new nl
      have lenW := hM.length
      have nlH : H l = none := s1.free nl
      refine ⟨l, rfl, ⟨_, SqL.of upd_same⟩, for_list (K := K) (a := l) (xs := wl)
        (fun i σ H' => ∃ y2 y3 y4 y5, σ = [some (.ref x), some (.ref R), y2, y3, y4, y5, none] ∧ Same H H' ∧ H' l = some (.lst wl) ∧ MovesAt H' wl ms ∧ WtsAt H H' R as many (cnt (ms.take i)) ∧ l ∉ as)
        ⟨none, none, none, none, rfl, s1.trans s2, upd_same, hM, RA0.same s2, fun q => ?_⟩ (fun i σ H' _ ⟨_, _, _, _, _, _, hl, _⟩ => SqL.of hl) ?_ ?_⟩
      · have := hrow l q
        rw [nl] at this
        cases this
      · rintro i v σ H2 hv ⟨y2, y3, y4, y5, rfl, sH, hl, hM2, RA, nla⟩
        obtain ⟨m, em, ⟨ta, tb, rfl, hta, htb⟩⟩ := hM2.get' hv
        have hgood := G.mv m (List.mem_of_getElem? em)
        obtain ⟨_, _, hlen, hin⟩ := hgood
        refine ⟨ta, _, rfl, SqT.of hta, rfl, .int m.1, [.ref tb], rfl, .ref tb, [], rfl, rfl, ?_⟩
        refine ⟨.ref tb, rfl, tb, _, rfl, SqT.of htb, for_it (walk_enumT (K := K) (a := tb) (xs := m.2.map V.int))
          (fun j σ H' => ∃ y4 y5, σ = [some (.ref x), some (.ref R), some (.int m.1), some (.ref tb), y4, y5, none] ∧ Same H H' ∧ H' l = some (.lst wl) ∧ MovesAt H' wl ms ∧ H' tb = some (.tup (m.2.map V.int)) ∧
            WtsAt H H' R as many (fun b e => cnt (ms.take i) b e + (if b < j ∧ m.2[b]? = some ((e : Nat) : Int) then m.1 else 0)))
          ⟨y4, y5, rfl, sH, hl, hM2, htb, ?_⟩ (fun j σ H' _ ⟨_, _, _, _, _, _, h, _⟩ => SqT.of h) ?_ ?_⟩
        · have ef : (fun b e => cnt (ms.take i) b e + (if b < 0 ∧ m.2[b]? = some ((e : Nat) : Int) then m.1 else 0)) = cnt (ms.take i) := by
            funext b e
            rw [if_neg (fun q => absurd q.1 (Nat.not_lt_zero _)), Int.add_zero]
          rw [ef]
          exact RA
        · rintro j z σ H3 H4 hj ⟨y4, y5, rfl, sH3, hl3, hM3, htb3, RA3⟩ ⟨Tp, u, u2, rfl, nT, rfl, eu, ev⟩
          have eu' : V.int ((j : Nat) : Int) = u := Option.some.inj eu
          subst eu'
          rw [List.length_map, hlen] at hj
          have hj2 : j < m.2.length := by omega
          have ev : (m.2.map V.int)[j]? = some u2 := ev
          rw [List.getElem?_map, List.getElem?_eq_getElem hj2] at ev
          have eu2 : V.int m.2[j] = u2 := Option.some.inj ev
          subst eu2
          obtain ⟨e0, e1⟩ := hin m.2[j] (List.getElem_mem hj2)
          obtain ⟨e, ee⟩ : ∃ e : Nat, m.2[j] = (e : Int) := ⟨m.2[j].toNat, by omega⟩
          have he : e < many := by omega
          have s4 : Same H3 (upd H3 Tp (.tup [.int ((j : Nat) : Int), .int m.2[j]])) := same_new nT
          have RA4 := RA3.same s4
          obtain ⟨a, ha⟩ : ∃ a, as[j]? = some a := ⟨as[j]'(by omega), List.getElem?_eq_getElem (by omega)⟩
          have hrw := RA4.row j a ha
          have ma := List.mem_of_getElem? ha
          refine ⟨Tp, _, rfl, SqT.of upd_same, rfl, .int ((j : Nat) : Int), [.int m.2[j]], rfl, .int m.2[j], [], rfl, rfl, ?_⟩
          have gj : (as.map V.ref)[j]? = some (.ref a) := by rw [List.getElem?_map, ha]; rfl
          refine ⟨.ref R, rfl, .int ((j : Nat) : Int), rfl, R, _, ((j : Nat) : Int), _, rfl, rfl, SqL.of RA4.at_, atI_nat gj, .int m.2[j], rfl, ?_⟩
          have gz : (rowV many (fun e => cnt (ms.take i) j e + (if j < j ∧ m.2[j]? = some ((e : Nat) : Int) then m.1 else 0)))[e]? = some (.int (cnt (ms.take i) j e)) := by
            rw [rowV_get he, if_neg (fun q => absurd q.1 (Nat.lt_irrefl _)), Int.add_zero]
          refine ⟨a, _, m.2[j], _, rfl, rfl, SqL.of hrw, at_of ee gz, .int m.1, rfl, _, _, rfl, rfl, a, _, m.2[j], e, rfl, rfl, hrw, ?_, ?_⟩
          · rw [ee, rowV_len]
            unfold ixN
            rw [if_pos (by omega), if_pos (by omega)]
            rfl
          · have RA5 := RA4.put (z := cnt (ms.take i) j e + m.1) ha he
            have neq : ∀ {b : Addr} {u : HO}, H b = some u → b ≠ a := fun e => ne_of_none e (RA4.new a ma)
            have nl2 : l ≠ a := fun q => nla (q ▸ ma)
            refine ⟨some (.int ((j : Nat) : Int)), some (.int m.2[j]), rfl, RA4.keep (sH3.trans s4) ma, ?_, ?_, ?_, ?_⟩
            · rw [upd_ne nl2]
              exact s4 _ _ hl3
            · refine MovesAt.same (fun b xs q => ?_) (hM3.same (Same.tups s4))
              rw [upd_ne]
              · exact q
              · intro q2
                rw [q2, hrw] at q
                cases q
            · rw [upd_ne]
              · exact s4 _ _ htb3
              · intro q2
                have := s4 _ _ htb3
                rw [q2, hrw] at this
                cases this
            · have ef : (fun x y => if x = j ∧ y = e then cnt (ms.take i) j e + m.1 else cnt (ms.take i) x y + (if x < j ∧ m.2[x]? = some ((y : Nat) : Int) then m.1 else 0)) = fun b e => cnt (ms.take i) b e + (if b < j + 1 ∧ m.2[b]? = some ((e : Nat) : Int) then m.1 else 0) := by
                funext b y
                by_cases hb : b = j
                · subst hb
                  have g : m.2[b]? = some m.2[b] := List.getElem?_eq_getElem hj2
                  by_cases hy : y = e
                  · subst hy
                    rw [if_pos ⟨rfl, rfl⟩, if_pos ⟨Nat.lt_succ_self _, by rw [g, ee]⟩]
                  · rw [if_neg (fun q => hy q.2), if_neg (fun q => Nat.lt_irrefl _ q.1), if_neg (fun q => hy ?_)]
                    have q2 := q.2
                    rw [g, ee] at q2
                    have := Option.some.inj q2
                    omega
                · rw [if_neg (fun q => hb q.1)]
                  have hh : (b < j ∧ m.2[b]? = some ((y : Nat) : Int)) ↔ (b < j + 1 ∧ m.2[b]? = some ((y : Nat) : Int)) := ⟨fun q => ⟨Nat.lt_succ_of_lt q.1, q.2⟩, fun q => ⟨by omega, q.2⟩⟩
                  by_cases hc : b < j ∧ m.2[b]? = some ((y : Nat) : Int)
                  · rw [if_pos hc, if_pos (hh.mp hc)]
                  · rw [if_neg hc, if_neg (fun q => hc (hh.mpr q))]
              rw [← ef]
              exact RA5
        · rintro σ H3 ⟨y4, y5, rfl, sH3, hl3, hM3, htb3, RA3⟩
          refine ⟨some (.int m.1), some (.ref tb), y4, y5, rfl, sH3, hl3, hM3, ?_, nla⟩
          have ef : (fun b e => cnt (ms.take i) b e + (if b < (m.2.map V.int).length ∧ m.2[b]? = some ((e : Nat) : Int) then m.1 else 0)) = cnt (ms.take (i + 1)) := by
            funext b e
            rw [cnt_snoc ms i m em, List.length_map]
            by_cases hc : m.2[b]? = some ((e : Nat) : Int)
            · obtain ⟨hlt, _⟩ := List.getElem?_eq_some_iff.mp hc
              rw [if_pos ⟨hlt, hc⟩, if_pos hc]
            · rw [if_neg (fun q => hc q.2), if_neg hc]
          rw [← ef]
          exact RA3
      · rintro σ H2 ⟨y2, y3, y4, y5, rfl, sH, hl, hM2, RA, nla⟩
        rw [lenW, List.take_length] at RA
        exact ⟨.ref R, rfl, q R as H2 sH RA⟩
end
section
variable {P : Program} {w : World} {K : PySem.W.Frag} {mg : Str → Option Value} {base : Heap} {C : Addr}
/-! ### equations: rows of numbers in a list -/
def Big1 (x : Int) : Prop := x.natAbs < 2 ^ 1000
structure MatAt (H : Hp) (R : Addr) (as : List Addr) (n : Nat) (M : Nat → Nat → Int) : Prop where
  at_ : H R = some (.lst (as.map V.ref))
  len : as.length = n
  row : ∀ i a, as[i]? = some a → H a = some (.lst (rowV (n + 1) (M i))) ∧ a ≠ R
theorem MatAt.same {H H' : Hp} {R : Addr} {as : List Addr} {n : Nat} {M : Nat → Nat → Int} (s : Same H H') (h : MatAt H R as n M) : MatAt H' R as n M := ⟨s _ _ h.at_, h.len, fun i a e => ⟨s _ _ (h.row i a e).1, (h.row i a e).2⟩⟩
theorem MatAt.get {H : Hp} {R : Addr} {as : List Addr} {n : Nat} {M : Nat → Nat → Int} (h : MatAt H R as n M) {i : Nat} (hi : i < n) : ∃ a, as[i]? = some a ∧ (as.map V.ref)[i]? = some (.ref a) ∧ H a = some (.lst (rowV (n + 1) (M i))) ∧ a ≠ R := by
  have hl : i < as.length := by rw [h.len]; exact hi
  refine ⟨as[i], List.getElem?_eq_getElem hl, by rw [List.getElem?_map, List.getElem?_eq_getElem hl]; rfl, ?_⟩
  exact h.row i as[i] (List.getElem?_eq_getElem hl)
/-! ### _bring_up -/
theorem scBu : FnScope ["rows", "at", "found", "lead"] ["rows", "at"] (defScope sBringUp) := ⟨rfl, rfl, rfl, by decide +kernel, rfl, by decide +kernel, by decide +kernel⟩
def swapA (as : List Addr) (k f : Nat) : List Addr := (as.set f (as.getD k 0)).set k (as.getD f 0)
theorem swapA_len (as : List Addr) (k f : Nat) : (swapA as k f).length = as.length := by unfold swapA; rw [List.length_set, List.length_set]
theorem swapA_get {as : List Addr} {k f i : Nat} (hk : k < as.length) (hf : f < as.length) (hi : i < as.length) : (swapA as k f)[i]? = as[if i = k then f else if i = f then k else i]? := by
  unfold swapA
  rw [List.getElem?_set]
  by_cases a : k = i
  · rw [if_pos a, if_pos a.symm, if_pos (by rw [List.length_set]; exact hk), List.getD_eq_getElem?_getD, List.getElem?_eq_getElem hf]
    rfl
  · rw [if_neg a, if_neg (Ne.symm a), List.getElem?_set]
    by_cases b : f = i
    · rw [if_pos b, if_pos b.symm, if_pos hf, List.getD_eq_getElem?_getD, List.getElem?_eq_getElem hk]
      rfl
    · rw [if_neg b, if_neg (Ne.symm b)]
def spBu : Sp := fun vs H Q _ => ∃ (R : Addr) (as : List Addr) (n k : Nat) (M : Nat → Nat → Int), vs = [.ref R, .int (k : Int)] ∧ MatAt H R as n M ∧ k < n ∧ n ≤ 1000 ∧ (∃ f, k ≤ f ∧ f < n ∧ M f k ≠ 0) ∧
  ∀ f H', k ≤ f → f < n → M f k ≠ 0 → Gr R H H' → H' R = some (.lst ((swapA as k f).map V.ref)) → Q .non H'
theorem ixN_in {n : Nat} {x : Int} (h0 : 0 ≤ x) (h : x < (n : Int)) : ixN n x = some x.toNat := by
  unfold ixN
  rw [if_pos h0, if_pos h]
theorem ok_bring {k0 : Nat} {f : Addr} {fd : FuncData} (F : Fun K "_bring_up" "_bring_up" sBringUp f fd) : FnOk P w K mg base CX0 (k0 + 1) f fd ["rows", "at"] spBu := by
  refine F.ok scBu (fun vs H Q E h => ?_) (fun cdv A outer s H vs Q E hr h => ?_)
  · obtain ⟨R, as, n, k, M, rfl, _⟩ := h
    rfl
  · obtain ⟨R, as, n, k, M, rfl, hM, hk, n1k, ⟨f0, f1, f2, f3⟩, q⟩ := h
    refine ⟨_, (pss_cons (ps_set (i := 2) scBu.nd rfl (.inl rfl) (pv 1))
      (pss_cons (ps_while PassesOwn.never (pt_cmpR op_eq (pe_ix ix_list (pe_ix ix_list (pv 0) (pv 2) (fun _ _ => rfl)) (pv 1) (fun _ _ => rfl)) pe_int (nomark _)) (pss_one (ps_aug (i := 2) scBu.nd rfl (.inl rfl) pe_int ip_add)))
      (pss_cons (ps_set (i := 3) scBu.nd rfl (.inl rfl) (pe_ix ix_list (pv 0) (pv 2) (fun _ _ => rfl)))
      (pss_cons (ps_asg (pe_ix ix_list (pv 0) (pv 1) (fun _ _ => rfl)) (pg_sub (pv 0) (pv 2) set_list))
      (pss_one (ps_asg (pv 3) (pg_sub (pv 0) (pv 1) set_list))))))), ?_⟩
    refine ⟨_, rfl, ?_⟩
    refine while_by (fun σ H' => ∃ (g : Nat) (y : Option V), σ = [some (.ref R), some (.int (k : Int)), some (.int (g : Int)), y] ∧ H' = H ∧ k ≤ g ∧ g ≤ f0 ∧ ∀ i, k ≤ i → i < g → M i k = 0)
      (fun σ _ => match σ with | [_, _, some (.int g), _] => n - g.toNat | _ => 0) ⟨k, none, rfl, rfl, Nat.le_refl _, f1, fun i h1 h2 => absurd h2 (by omega)⟩ ?_ ?_
    · rintro σ H' ⟨g, y, rfl, rfl, kg, gf, hz⟩
      obtain ⟨a, ea, ea2, ha, _⟩ := hM.get (i := g) (by omega)
      refine ⟨.ref R, rfl, .int (g : Int), rfl, R, _, (g : Int), _, rfl, rfl, SqL.of hM.at_, at_of (j := g) rfl ea2, .int (k : Int), rfl, a, _, (k : Int), _, rfl, rfl, SqL.of ha, at_of (j := k) rfl (rowV_get (by omega)), rfl, _, rfl, ite2 (fun c => ?_) (fun c => ?_)⟩
      · have z : M g k = 0 := by
          have := of_decide_eq_true c
          injection this
        have ne : g ≠ f0 := fun e => f3 (by rw [← e]; exact z)
        refine ⟨.int (g : Int), rfl, (g : Int), 1, rfl, rfl, ⟨g + 1, y, ?_, rfl, by omega, by omega, fun i h1 h2 => ?_⟩, ?_⟩
        · show [some (V.ref R), some (V.int (k : Int)), some (V.int ((g : Int) + 1)), y] = _
          rw [show ((g + 1 : Nat) : Int) = (g : Int) + 1 by omega]
        · by_cases e : i = g
          · rw [e]; exact z
          · exact hz i h1 (by omega)
        · show n - ((g : Int) + 1).toNat < n - ((g : Int)).toNat
          omega
      · have z : M g k ≠ 0 := fun e => c (decide_eq_true (by rw [e]))
        have hg : g < n := by omega
        obtain ⟨b, eb, eb2, hb, _⟩ := hM.get hk
        have hls : (as.map V.ref).length = n := by rw [List.length_map, hM.len]
        refine ⟨.ref R, rfl, .int (g : Int), rfl, R, _, (g : Int), _, rfl, rfl, SqL.of hM.at_, at_of (j := g) rfl ea2, ?_⟩
        refine ⟨.ref R, rfl, .int (k : Int), rfl, R, _, (k : Int), _, rfl, rfl, SqL.of hM.at_, at_of (j := k) rfl eb2, .ref R, rfl, .int (g : Int), rfl, R, _, (g : Int), g, rfl, rfl, hM.at_, ?_, ?_⟩
        · rw [hls]
          exact ixN_in (by omega) (by omega)
        refine ⟨.ref a, rfl, .ref R, rfl, .int (k : Int), rfl, R, _, (k : Int), k, rfl, rfl, upd_same, ?_, ?_⟩
        · rw [List.length_set, hls]
          exact ixN_in (by omega) (by omega)
        rw [upd_upd]
        refine q g _ kg hg z (fun c o nc e => by rw [upd_ne nc]; exact e) ?_
        rw [upd_same]
        unfold swapA
        rw [List.map_set, List.map_set, List.getD_eq_getElem?_getD, List.getD_eq_getElem?_getD, ea, eb]
        rfl
    · rintro σ H' Q1 Q2 hq h
      obtain ⟨v1, e1, v2, e2, p, xs, i, z, h1, h2, h3, h4, v3, e3, p', xs', i', z', g1, g2, g3, g4, fl, b, eb, hb⟩ := h
      exact ⟨v1, e1, v2, e2, p, xs, i, z, h1, h2, h3, h4, v3, e3, p', xs', i', z', g1, g2, g3, g4, fl, b, eb, hq _ _ hb⟩
/-! ### _without -/
theorem scWo : FnScope ["row", "lead", "at", "before", "mine", "other"] ["row", "lead", "at", "before"] (defScope sWithout) := ⟨rfl, rfl, rfl, by decide +kernel, rfl, by decide +kernel, by decide +kernel⟩
def spWo : Sp := fun vs H Q _ => ∃ (ra la : Addr) (n k : Nat) (d : Int) (g h : Nat → Int), vs = [.ref ra, .ref la, .int (k : Int), .int d] ∧ H ra = some (.lst (rowV (n + 1) g)) ∧ H la = some (.lst (rowV (n + 1) h)) ∧ k ≤ n ∧ n ≤ 1000 ∧ d ≠ 0 ∧ Big1 d ∧ (∀ j, j ≤ n → Big1 (g j) ∧ Big1 (h j)) ∧
  ∀ a H', Same H H' → H' a = some (.lst (rowV (n + 1) fun j => (h k * g j - g k * h j).fdiv d)) → H a = none → Q (.ref a) H'
theorem big_mul {x y : Int} (hx : Big1 x) (hy : Big1 y) : CMulW x y := wide_mul hx hy (by decide) (by decide) (by decide)
theorem rowV_take (n i : Nat) (g : Nat → Int) : (rowV n g).take i = (List.range (min i n)).map fun e => V.int (g e) := by
  unfold rowV
  rw [← List.map_take, List.take_range]
theorem ok_without {k0 : Nat} {f : Addr} {fd : FuncData} (F : Fun K "_without" "_without" sWithout f fd) (mZ : mg "zip" = none) : FnOk P w K mg base CX0 (k0 + 1) f fd ["row", "lead", "at", "before"] spWo := by
  refine F.ok scWo (fun vs H Q E h => ?_) (fun cdv A outer s H vs Q E hr h => ?_)
  · obtain ⟨ra, la, n, k, d, g, h, rfl, _⟩ := h
    rfl
  · obtain ⟨ra, la, n, k, d, g, h, rfl, hra, hla, hk, n1k, d0, db, hb, q⟩ := h
    refine ⟨_, (pss_one (ps_ret (pe_lc (own := [("mine", 4), ("other", 5)]) (g := gTup K 2 (gCons (gName 4) (gCons (gName 5) gNil))) (tt := tYes) (te := (tOp (rI CDivZ fun i j => .int (i.fdiv j)) (tOp (rI0 fun i j => .int (i - j)) (tOp (rI CMulW fun i j => .int (i * j)) (tOp (rIxL K) (tVar 1) (tVar 2)) (tVar 4)) (tOp (rI CMulW fun i j => .int (i * j)) (tOp (rIxL K) (tVar 0) (tVar 2)) (tVar 5))) (tVar 3))) rfl scWo.nd (pi_zip (by rfl) mZ (pa_cons (pv 0) (pa_cons (pv 1) pa_nil))) (blkOk_by (N := ["row", "lead", "at", "before", "mine", "other"]) (sc := defScope sWithout) (by decide +kernel)) (fun _ _ _ _ _ => by exact ((pg_tup rfl (pgs_cons (pg_name (i := 4) scWo.nd rfl (.inl rfl)) (pgs_cons (pg_name (i := 5) scWo.nd rfl (.inl rfl)) pgs_nil))))) (fun _ _ _ _ _ => pts_nil) (fun _ _ _ _ _ => by exact (pe_op op_fdivZ (pe_op op_sub (pe_op op_mulW (pe_ix ix_list (pv 1) (pv 2) (fun _ _ => rfl)) (pv 4)) (pe_op op_mulW (pe_ix ix_list (pv 0) (pv 2) (fun _ _ => rfl)) (pv 5))) (pv 3)))))), ?_⟩
    have lg := rowV_len (n + 1) g
    have lh := rowV_len (n + 1) h
    refine ⟨.ref ra, rfl, .ref la, rfl, ra, la, _, _, rfl, SqL.of hra, SqL.of hla, fun D nD => ?_⟩
    have sD := same_new (o := .lst []) nD
    refine lc_it (walk_zip (K := K) (a := ra) (b := la) (xs := rowV (n + 1) g) (ys := rowV (n + 1) h) (n := n + 1) (by rw [lg, lh, Nat.min_self])) (fun i H' => Same H H' ∧ H' D = some (.lst ((List.range i).map fun j => V.int ((h k * g j - g k * h j).fdiv d))))
      ⟨sD, upd_same⟩ (fun i H' _ p => ⟨SqL.of (p.1 _ _ hra), SqL.of (p.1 _ _ hla)⟩) ?_ ?_
    · rintro i x H1 H2 hi ⟨s1, hD⟩ ⟨T, u, v, rfl, nT, rfl, eu, ev⟩
      have eu' : (rowV (n + 1) g)[i]? = some u := eu
      have ev' : (rowV (n + 1) h)[i]? = some v := ev
      rw [rowV_get hi] at eu'
      rw [rowV_get hi] at ev'
      cases eu'
      cases ev'
      have s2 := same_new (o := .tup [.int (g i), .int (h i)]) nT
      have hra2 := s2 _ _ (s1 _ _ hra)
      have hla2 := s2 _ _ (s1 _ _ hla)
      obtain ⟨b1, b2⟩ := hb i (by omega)
      obtain ⟨b3, b4⟩ := hb k hk
      refine ⟨T, [.int (g i), .int (h i)], rfl, SqT.of upd_same, rfl, .int (g i), [.int (h i)], rfl, .int (h i), [], rfl, rfl, rfl, ?_⟩
      refine ⟨.ref la, rfl, .int (k : Int), rfl, la, _, (k : Int), _, rfl, rfl, SqL.of hla2, at_of (j := k) rfl (rowV_get (by omega)), .int (g i), rfl, h k, g i, rfl, rfl, big_mul b4 b1, ?_⟩
      refine ⟨.ref ra, rfl, .int (k : Int), rfl, ra, _, (k : Int), _, rfl, rfl, SqL.of hra2, at_of (j := k) rfl (rowV_get (by omega)), .int (h i), rfl, g k, h i, rfl, rfl, big_mul b3 b2, _, _, rfl, rfl, .int d, rfl, _, _, rfl, rfl, div_ok d0 db (by decide) (by decide), ?_⟩
      refine ⟨_, s2 _ _ hD, ?_, fun b o e => by rw [upd_ne (ne_of_none e nD)]; exact s2 _ _ (s1 _ _ e), ?_⟩
      · rw [List.length_map, List.length_range]
        exact Nat.lt_of_le_of_lt (show i ≤ 1000 by omega) (by decide)
      · rw [upd_same, List.range_succ, List.map_append]
        rfl
    · rintro H1 ⟨s1, hD⟩
      exact q D H1 s1 hD nD
/-! ### solved -/
theorem scSv : FnScope ["equations", "rows", "before", "at", "lead", "here", "row"] ["equations"] (defScope sSolved) := ⟨rfl, rfl, rfl, by decide +kernel, rfl, by decide +kernel, by decide +kernel⟩
def InjA (n : Nat) (A : Nat → Nat → Int) : Prop := ∀ z : Nat → Int, (∀ r, r < n → sumN n (fun m => A r m * z m) = 0) → ∀ m, m < n → z m = 0
def spSv : Sp := fun vs H Q _ => ∃ (R : Addr) (as : List Addr) (n : Nat) (A : Nat → Nat → Int), vs = [.ref R] ∧ MatAt H R as n A ∧ n ≤ 64 ∧ InjA n A ∧ (∀ j, j ≤ n → l1 (List.range n) (colA A j) ≤ 2000) ∧
  ∀ S us (d : Int) (X : Nat → Int) H', Same H H' → H S = none → H' S = some (.lst us) → d ≠ 0 → d.natAbs ≤ 2000 ^ n → (∀ m, m < n → (X m).natAbs ≤ 2000 ^ n) → (∀ r, r < n → sumN n (fun m => A r m * X m) = d * A r n) → us.length = n → (∀ m u, us[m]? = some u → FracAt H' u (fracZ (X m) d)) → Q (.ref S) H'
theorem big_pow {n : Nat} {x : Int} (h : x.natAbs ≤ 2000 ^ n) (hn : n ≤ 64) : Big1 x := by
  refine Nat.lt_of_le_of_lt h ?_
  have h1 : (2000 : Nat) ^ n ≤ 2000 ^ 64 := Nat.pow_le_pow_right (by decide) hn
  have h2 : (2000 : Nat) ^ 64 < 2 ^ 1000 := by decide +kernel
  omega
def elimM (M : Nat → Nat → Int) (k : Nat) (d : Int) : Nat → Nat → Int := fun i j => if i = k then M k j else (M k k * M i j - M i k * M k j) / d
theorem nth_snoc {α : Type} {l : List α} {x a : α} {j : Nat} (h : (l ++ [x])[j]? = some a) : l[j]? = some a ∨ (j = l.length ∧ x = a) := by
  by_cases c : j < l.length
  · rw [List.getElem?_append_left c] at h
    exact .inl h
  · rw [List.getElem?_append_right (by omega)] at h
    by_cases e : j - l.length = 0
    · rw [e] at h
      have h' : some x = some a := h
      injection h' with h'
      exact .inr ⟨by omega, h'⟩
    · rw [List.getElem?_eq_none (by show 1 ≤ j - l.length; omega)] at h
      cases h
theorem rowV_last (n : Nat) (g : Nat → Int) : atI (rowV (n + 1) g) (-1) = some (.int (g n)) := by
  unfold rowV
  rw [List.range_succ, List.map_append]
  exact atI_last _ _
theorem rowV_congr {n : Nat} {f g : Nat → Int} (h : ∀ i, i < n → f i = g i) : rowV n f = rowV n g := by
  unfold rowV
  refine List.map_congr_left fun i hi => ?_
  rw [h i (List.mem_range.mp hi)]
theorem ok_solved {f fB fW fF : Addr} {fd fdB fdW fdF : FuncData} (F : Fun K "solved" "solved" sSolved f fd) (DBu : Df K mg "_bring_up" sBringUp ["rows", "at"] fB fdB) (DWo : Df K mg "_without" sWithout ["row", "lead", "at", "before"] fW fdW) (DFr : Df K mg "fraction" sFraction ["top", "bottom"] fF fdF) (mgcd : mg "gcd" = some (.builtin "math.gcd"))
    (mL : mg "list" = none) (ml : mg "len" = none) (mr : mg "range" = none) (mE : mg "enumerate" = none) (mZ : mg "zip" = none) : FnOk P w K mg base CX0 2 f fd ["equations"] spSv := by
  have GBu : FnOk P w K mg base CX0 1 fB fdB ["rows", "at"] spBu := ok_bring DBu.F
  have GWo : FnOk P w K mg base CX0 1 fW fdW ["row", "lead", "at", "before"] spWo := ok_without DWo.F mZ
  have GFr : FnOk P w K mg base CX0 1 fF fdF ["top", "bottom"] spFrZ := ok_fractionZ DFr.F mgcd
  refine F.ok scSv (fun vs H Q E h => ?_) (fun cdv A outer s H vs Q E hr h => ?_)
  · obtain ⟨R, as, n, k, rfl, _⟩ := h
    rfl
  · obtain ⟨R0, as0, n, A, rfl, hM0, n64, inj, hL1, q⟩ := h
    have r1 : Room 1 _ := hr
    refine ⟨_, (pss_cons (ps_set (i := 1) scSv.nd rfl (.inl rfl) (pe_callTy call_list_of (by rfl) mL (by decide +kernel) (pa_cons (pv 0) pa_nil)))
      (pss_cons (ps_set (i := 2) scSv.nd rfl (.inr rfl) pe_int)
      (pss_cons (ps_for PassesOwn.never rfl (pi_range1 (by rfl) mr (pa_cons (pe_callB call_len_seq (by rfl) ml PySem.boot_len (pa_cons (pv 1) pa_nil)) pa_nil)) (pg_name (i := 3) scSv.nd rfl (.inr rfl)) (pss_cons (ps_expr (pe_call GBu r1 (by rfl) DBu.g DBu.F.kp DBu.b .nil pass0 (pa_cons (pv 1) (pa_cons (pv 3) pa_nil))))
      (pss_cons (ps_set (i := 4) scSv.nd rfl (.inr rfl) (pe_ix ix_list (pv 1) (pv 3) (fun _ _ => rfl)))
      (pss_cons (ps_setLc (i := 1) (own := [("here", 5), ("row", 6)]) (g := gTup K 2 (gCons (gName 5) (gCons (gName 6) gNil))) (tt := tYes) (te := (tIf (tTest (tOp rEq (tVar 5) (tVar 3))) (tVar 6) (tCall spWo [] E0 (tCons (tVar 6) (tCons (tVar 4) (tCons (tVar 3) (tCons (tVar 2) tNil))))))) rfl scSv.nd rfl rfl (sw_true rfl rfl rfl (by decide +kernel)) (pi_enum (by rfl) mE (pa_cons (pv 1) pa_nil)) (blkOk_by (N := ["equations", "rows", "before", "at", "lead", "here", "row"]) (sc := defScope sSolved) (by decide +kernel)) (fun _ _ _ _ _ => by exact ((pg_tup rfl (pgs_cons (pg_name (i := 5) scSv.nd rfl (.inl rfl)) (pgs_cons (pg_name (i := 6) scSv.nd rfl (.inl rfl)) pgs_nil))))) (fun _ _ _ _ _ => pts_nil) (fun _ _ _ _ _ => by exact (pe_ifExp (pt_cmpR op_eq (pv 5) (pv 3) (nomark _)) (pv 6) (pe_call GWo r1 (by rfl) DWo.g DWo.F.kp DWo.b .nil pass0 (pa_cons (pv 6) (pa_cons (pv 4) (pa_cons (pv 3) (pa_cons (pv 2) pa_nil))))))))
      (pss_one (ps_set (i := 2) scSv.nd rfl (.inr rfl) (pe_ix ix_list (pv 4) (pv 3) (fun _ _ => rfl))))))))
      (pss_one (ps_ret (pe_lc (own := [("here", 5), ("row", 6)]) (g := gTup K 2 (gCons (gName 5) (gCons (gName 6) gNil))) (tt := tYes) (te := (tCall spFrZ [] E0 (tCons (tOp (rIxL K) (tVar 6) (tUn (rU fun i => V.int (-i)) (tC (V.int 1)))) (tCons (tOp (rIxL K) (tVar 6) (tVar 5)) tNil)))) rfl scSv.nd (pi_enum (by rfl) mE (pa_cons (pv 1) pa_nil)) (blkOk_by (N := ["equations", "rows", "before", "at", "lead", "here", "row"]) (sc := defScope sSolved) (by decide +kernel)) (fun _ _ _ _ _ => by exact ((pg_tup rfl (pgs_cons (pg_name (i := 5) scSv.nd rfl (.inl rfl)) (pgs_cons (pg_name (i := 6) scSv.nd rfl (.inl rfl)) pgs_nil))))) (fun _ _ _ _ _ => pts_nil) (fun _ _ _ _ _ => by exact (pe_call GFr r1 (by rfl) DFr.g DFr.F.kp DFr.b .nil pass0 (pa_cons (pe_ix ix_list (pv 6) (pe_un un_neg pe_int) (fun _ _ => rfl)) (pa_cons (pe_ix ix_list (pv 6) (pv 5) (fun _ _ => rfl)) pa_nil)))))))))), ?_⟩
    refine ⟨.ref R0, rfl, R0, _, rfl, .inl (SqL.of hM0.at_), fun R nR => ?_⟩
    have s1 := same_new (o := .lst (as0.map V.ref)) nR
    have hM1 : MatAt (upd H R (.lst (as0.map V.ref))) R as0 n A := ⟨upd_same, hM0.len, fun i a e => ⟨s1 _ _ (hM0.row i a e).1, ne_of_none (hM0.row i a e).1 nR⟩⟩
    show gName 1 _ _ (upd H R (.lst (as0.map V.ref))) _
    generalize upd H R (.lst (as0.map V.ref)) = H1 at s1 hM1 ⊢
    have hl1 : (as0.map V.ref).length = n := by rw [List.length_map, hM0.len]
    refine ⟨.ref R, rfl, R, _, rfl, .inl (SqL.of hM1.at_), _, rfl, by omega, by rw [hl1]; omega, ?_⟩
    have en : ((((as0.map V.ref).length : Nat) : Int)).toNat = n := by omega
    refine for_range (lo := 0) (n := ((((as0.map V.ref).length : Nat) : Int)).toNat) (fun k σ H' => ∃ R' as M d y3 y4, σ = [some (.ref R0), some (.ref R'), some (.int d), y3, y4, none, none] ∧ Same H H' ∧ H R' = none ∧ MatAt H' R' as n M ∧ BInv n A 2000 k M d)
      ⟨R, as0, A, 1, none, none, rfl, s1, nR, hM1, BInv.init (by decide)⟩ ?_ ?_
    · rintro k σ H2 hk ⟨R', as, M, d, y3, y4, rfl, s2, nHR, hM2, I⟩
      have hk' : k < n := by omega
      obtain ⟨f0, f1, f2, f3⟩ := I.pivot hk' inj
      refine ⟨.ref R', rfl, .int (0 + (k : Int)), rfl, R', as, n, k, M, ?_, hM2, hk', by omega, ⟨f0, f1, f2, f3⟩, fun g H3 kg gn gz g3 hR3 => ?_⟩
      · show [V.ref R', V.int (0 + (k : Int))] = _
        rw [Int.zero_add]
      -- the rows exchanged
      have las := hM2.len
      have hM3 : MatAt H3 R' (swapA as k g) n (fun i j => M (if i = k then g else if i = g then k else i) j) := ⟨hR3, by rw [swapA_len]; exact las, fun i a e => by
        have hi : i < as.length := by
          obtain ⟨h, _⟩ := List.getElem?_eq_some_iff.mp e
          rw [swapA_len] at h
          exact h
        rw [swapA_get (by omega) (by omega) hi] at e
        exact ⟨g3 _ _ (hM2.row _ _ e).2 (hM2.row _ _ e).1, (hM2.row _ _ e).2⟩⟩
      have I3 := I.swap hk' gn kg
      have pv : (fun i j => M (if i = k then g else if i = g then k else i) j) k k ≠ 0 := by
        show M (if k = k then g else _) k ≠ 0
        rw [if_pos rfl]
        exact gz
      have s3 : Same H H3 := fun b o e => g3 b o (fun z => by rw [z, nHR] at e; cases e) (s2 _ _ e)
      generalize (fun i j => M (if i = k then g else if i = g then k else i) j) = M3 at hM3 I3 pv
      generalize swapA as k g = as3 at hM3
      obtain ⟨la, el, el2, hla, _⟩ := hM3.get hk'
      have ek : (0 : Int) + (k : Int) = (k : Int) := Int.zero_add _
      have hne := I3.nz
      obtain ⟨db, mb⟩ := I3.le (by decide) hL1
      refine ⟨.ref R', rfl, .int (0 + (k : Int)), rfl, R', _, 0 + (k : Int), _, rfl, rfl, SqL.of hM3.at_, at_of (j := k) ek el2, ?_⟩
      refine ⟨.ref R', rfl, R', _, rfl, SqL.of hM3.at_, fun D nD => ?_⟩
      have l3 := hM3.len
      refine lc_it (walk_enum (K := K) (a := R') (xs := as3.map V.ref)) (fun i H' => Same H3 H' ∧ ∃ bs : List Addr, H' D = some (.lst (bs.map V.ref)) ∧ bs.length = i ∧ ∀ j a, bs[j]? = some a → H' a = some (.lst (rowV (n + 1) (elimM M3 k d j))) ∧ a ≠ D)
        ⟨same_new nD, [], upd_same, rfl, fun j a h => by simp at h⟩ (fun i H' _ p => SqL.of (p.1 _ _ hM3.at_)) ?_ ?_
      · rintro i x H4 H5 hi ⟨s4, bs, hD, lb, hbs⟩ ⟨T, u, v, rfl, nT, rfl, eu, ev⟩
        have hi' : i < n := by rw [List.length_map, l3] at hi; exact hi
        obtain ⟨a, ea, ea2, ha, nRa⟩ := hM3.get hi'
        have eu' : some (V.int (i : Int)) = some u := eu
        have ev' : (as3.map V.ref)[i]? = some v := ev
        cases eu'
        rw [ea2] at ev'
        cases ev'
        have sT := same_new (o := .tup [.int (i : Int), .ref a]) nT
        have s5 := s4.trans sT
        have hD5 := sT _ _ hD
        have hbs5 : ∀ j b, bs[j]? = some b → (upd H4 T (.tup [.int (i : Int), .ref a])) b = some (.lst (rowV (n + 1) (elimM M3 k d j))) ∧ b ≠ D := fun j b e => ⟨sT _ _ (hbs j b e).1, (hbs j b e).2⟩
        have lt : (bs.map V.ref).length < sizeLine := by
          rw [List.length_map, lb]
          exact Nat.lt_of_le_of_lt (show i ≤ 64 by omega) (by decide)
        -- what is behind the choice
        have fin : ∀ b H6, Same (upd H4 T (.tup [.int (i : Int), .ref a])) H6 → H6 b = some (.lst (rowV (n + 1) (elimM M3 k d i))) → b ≠ D → ∃ acc, H6 D = some (.lst acc) ∧ acc.length < sizeLine ∧ Same H3 (upd H6 D (.lst (acc ++ [.ref b]))) ∧ ∃ cs : List Addr, (upd H6 D (.lst (acc ++ [.ref b]))) D = some (.lst (cs.map V.ref)) ∧ cs.length = i + 1 ∧ ∀ j c, cs[j]? = some c → (upd H6 D (.lst (acc ++ [.ref b]))) c = some (.lst (rowV (n + 1) (elimM M3 k d j))) ∧ c ≠ D := by
          intro b H6 s6 hb nb
          refine ⟨_, s6 _ _ hD5, lt, fun c o e => ?_, bs ++ [b], ?_, ?_, fun j c e => ?_⟩
          · rw [upd_ne (ne_of_none e nD)]
            exact s6 _ _ (s5 _ _ e)
          · rw [upd_same, List.map_append]
            rfl
          · rw [List.length_append, lb]
            rfl
          · rcases nth_snoc e with e | ⟨e1, e2⟩
            · refine ⟨?_, (hbs j c e).2⟩
              rw [upd_ne (hbs j c e).2]
              exact s6 _ _ (hbs5 j c e).1
            · subst e2
              refine ⟨?_, nb⟩
              rw [upd_ne nb, hb, e1, lb]
        refine ⟨T, [.int (i : Int), .ref a], rfl, SqT.of upd_same, rfl, .int (i : Int), [.ref a], rfl, .ref a, [], rfl, rfl, rfl, ?_⟩
        refine ⟨.int (i : Int), rfl, .int (0 + (k : Int)), rfl, rfl, _, rfl, ite2 (fun c => ?_) (fun c => ?_)⟩
        · have e : i = k := by
            have := of_decide_eq_true c
            injection this
            omega
          refine ⟨.ref a, rfl, fin a _ (Same.refl _) ?_ (ne_of_none ha nD)⟩
          rw [sT _ _ (s4 _ _ ha)]
          congr 2
          refine rowV_congr fun j _ => ?_
          unfold elimM
          rw [if_pos e, e]
        · have ne : i ≠ k := fun e => c (decide_eq_true (by rw [e, ek]))
          refine ⟨.ref a, rfl, .ref la, rfl, .int (0 + (k : Int)), rfl, .int d, rfl, a, la, n, k, d, M3 i, M3 k, ?_, s5 _ _ ha, s5 _ _ hla, by omega, by omega, hne, big_pow db n64, fun j hj => ⟨big_pow (mb i j hi' hj) n64, big_pow (mb k j hk' hj) n64⟩, fun b H6 s6 hb nb => ?_⟩
          · rw [ek]; rfl
          · refine fin b H6 s6 ?_ (fun e => by rw [e, hD5] at nb; cases nb)
            rw [hb]
            congr 2
            refine rowV_congr fun j hj => ?_
            unfold elimM
            rw [if_neg ne]
            exact fdiv_dvd (I3.dvd hk' hi' (by omega) ne)
      · rintro H4 ⟨s4, bs, hD, lb, hbs⟩
        have lb' : bs.length = n := by rw [lb, List.length_map, l3]
        have hM4 : MatAt H4 D bs n (elimM M3 k d) := ⟨hD, lb', hbs⟩
        refine ⟨.ref la, rfl, .int (0 + (k : Int)), rfl, la, _, 0 + (k : Int), _, rfl, rfl, SqL.of (s4 _ _ hla), at_of (j := k) ek (rowV_get (by omega)), ?_⟩
        exact ⟨D, bs, elimM M3 k d, M3 k k, _, _, rfl, s3.trans s4, s3.free nD, hM4, I3.step hk' hL1 pv⟩
    · rintro σ H2 ⟨R', as, M, d, y3, y4, rfl, s2, nHR, hM2, I⟩
      rw [en] at I
      obtain ⟨dg, sol⟩ := I.done
      obtain ⟨db, mb⟩ := I.le (by decide) hL1
      have hd0 := I.nz
      have las := hM2.len
      refine ⟨.ref R', rfl, R', _, rfl, SqL.of hM2.at_, fun S nS => ?_⟩
      refine lc_it (walk_enum (K := K) (a := R') (xs := as.map V.ref)) (fun i H' => Same H2 H' ∧ ∃ us : List V, H' S = some (.lst us) ∧ us.length = i ∧ ∀ m u, us[m]? = some u → FracAt H' u (fracZ (M m n) d))
        ⟨same_new nS, [], upd_same, rfl, fun j a h => by simp at h⟩ (fun i H' _ p => SqL.of (p.1 _ _ hM2.at_)) ?_ ?_
      · rintro i x H4 H5 hi ⟨s4, us, hS, lu, hus⟩ ⟨T, u, v, rfl, nT, rfl, eu, ev⟩
        have hi' : i < n := by rw [List.length_map, las] at hi; exact hi
        obtain ⟨a, ea, ea2, ha, nRa⟩ := hM2.get hi'
        have eu' : some (V.int (i : Int)) = some u := eu
        have ev' : (as.map V.ref)[i]? = some v := ev
        cases eu'
        rw [ea2] at ev'
        cases ev'
        have sT := same_new (o := .tup [.int (i : Int), .ref a]) nT
        have s5 := s4.trans sT
        have hS5 := sT _ _ hS
        have ha5 := s5 _ _ ha
        refine ⟨T, [.int (i : Int), .ref a], rfl, SqT.of upd_same, rfl, .int (i : Int), [.ref a], rfl, .ref a, [], rfl, rfl, rfl, ?_⟩
        refine ⟨.ref a, rfl, 1, rfl, a, _, -1, _, rfl, rfl, SqL.of ha5, rowV_last _ _, .ref a, rfl, .int (i : Int), rfl, a, _, (i : Int), _, rfl, rfl, SqL.of ha5, at_of (j := i) rfl (rowV_get (by omega)), ?_⟩
        rw [dg i hi']
        refine ⟨M i n, d, rfl, hd0, ?_, fun t nt => ?_⟩
        · exact Nat.lt_trans (big_pow db n64) (Nat.pow_lt_pow_right (a := 2) (m := 1000) (n := 8999) (by decide) (by decide))
        · have s6 := same_new (o := .tup [.int (fracZ (M i n) d).1, .int (fracZ (M i n) d).2]) nt
          refine ⟨us, s6 _ _ hS5, by rw [lu]; exact Nat.lt_of_le_of_lt (show i ≤ 64 by omega) (by decide), fun b o e => ?_, us ++ [.ref t], upd_same, by rw [List.length_append, lu]; rfl, fun m u e => ?_⟩
          · rw [upd_ne (ne_of_none e nS)]
            exact s6 _ _ (s5 _ _ e)
          · have nSt : t ≠ S := fun e => by rw [e, hS5] at nt; cases nt
            rcases nth_snoc e with e | ⟨e1, e2⟩
            · obtain ⟨t2, e3, h3⟩ := hus m u e
              refine ⟨t2, e3, ?_⟩
              have nS2 : t2 ≠ S := fun e => by rw [e, hS] at h3; cases h3
              rw [upd_ne nS2]
              exact s6 _ _ (sT _ _ h3)
            · subst e2
              refine ⟨t, rfl, ?_⟩
              rw [upd_ne nSt, upd_same, e1, lu]
      · rintro H4 ⟨s4, us, hS, lu, hus⟩
        exact q S us d (fun m => M m n) H4 (s2.trans s4) (s2.free nS) hS hd0 db (fun m hm => mb m n hm (Nat.le_refl _)) sol (by rw [lu, List.length_map, las]) hus
end
section
/-! ### the moves as a flow; one closed group -/
theorem cnt_cons (m : Mv) (ms : List Mv) (b e : Nat) : cnt (m :: ms) b e = (if m.2[b]? = some ((e : Nat) : Int) then m.1 else 0) + cnt ms b e := by
  unfold cnt
  rw [List.map_cons, List.sum_cons]
theorem tot_cons (m : Mv) (ms : List Mv) : tot (m :: ms) = m.1 + tot ms := by
  unfold tot
  rw [List.map_cons, List.sum_cons]
theorem GoodAll.tl {many : Nat} {m : Mv} {ms : List Mv} (G : GoodAll many (m :: ms)) : GoodAll many ms := fun x hx => G x (List.mem_cons_of_mem _ hx)
theorem cnt_nn {many : Nat} (b e : Nat) : ∀ {ms : List Mv}, GoodAll many ms → 0 ≤ cnt ms b e
  | [], _ => Int.le_refl 0
  | m :: ms, G => by
    have ih := cnt_nn b e G.tl
    have h := (G m List.mem_cons_self).1
    rw [cnt_cons]
    split <;> omega
theorem cnt_row {many b : Nat} (hb : b < many) : ∀ {ms : List Mv}, GoodAll many ms → sumN many (cnt ms b) = tot ms
  | [], _ => sumN_zero many
  | m :: ms, G => by
    have ih := cnt_row hb G.tl
    obtain ⟨_, _, hl, hx⟩ := G m List.mem_cons_self
    have hb2 : b < m.2.length := by omega
    have g : m.2[b]? = some m.2[b] := List.getElem?_eq_getElem hb2
    obtain ⟨x0, x1⟩ := hx m.2[b] (List.getElem_mem hb2)
    have e : cnt (m :: ms) b = fun e => (if m.2[b]? = some ((e : Nat) : Int) then m.1 else 0) + cnt ms b e := funext fun e => cnt_cons m ms b e
    rw [e, sumN_add, show sumN many (fun e => cnt ms b e) = tot ms from ih, tot_cons, g]
    congr 1
    rw [sumN_one (i := m.2[b].toNat) (by omega) (fun q _ ne => if_neg fun h => ne (by injection h; omega)), if_pos (by congr 1; omega)]
theorem tot_le {many : Nat} : ∀ {ms : List Mv}, GoodAll many ms → (ms.length : Int) ≤ tot ms ∧ tot ms ≤ 99 * (ms.length : Int)
  | [], _ => ⟨Int.le_refl 0, Int.le_refl 0⟩
  | m :: ms, G => by
    obtain ⟨h1, h2⟩ := tot_le G.tl
    obtain ⟨h3, h4, _⟩ := G m List.mem_cons_self
    rw [tot_cons, List.length_cons]
    omega
theorem tot_pos {many : Nat} {ms : List Mv} (G : Good many ms) : 0 < tot ms ∧ tot ms ≤ 792 := by
  have h := tot_le (many := many) G.mv
  have := G.l1
  have := G.l8
  omega
theorem cnt_flow {many : Nat} {ms : List Mv} (G : Good many ms) : Flow many (cnt ms) (tot ms) := ⟨fun b e _ _ => cnt_nn (many := many) b e G.mv, fun _ hb => cnt_row hb G.mv, (tot_pos G).1⟩
theorem cnt_mem {many : Nat} {b e : Nat} : ∀ {ms : List Mv}, GoodAll many ms → (0 < cnt ms b e ↔ ∃ m ∈ ms, m.2[b]? = some ((e : Nat) : Int))
  | [], _ => ⟨fun h => absurd h (Int.lt_irrefl 0), fun ⟨_, h, _⟩ => nomatch h⟩
  | m :: ms, G => by
    have ih := cnt_mem (b := b) (e := e) G.tl
    have h0 := cnt_nn (many := many) b e G.tl
    have h1 := (G m List.mem_cons_self).1
    rw [cnt_cons]
    by_cases q : m.2[b]? = some ((e : Nat) : Int)
    · rw [if_pos q]
      exact ⟨fun _ => ⟨m, List.mem_cons_self, q⟩, fun _ => by omega⟩
    · rw [if_neg q, Int.zero_add, ih]
      constructor
      · rintro ⟨x, hx, hq⟩
        exact ⟨x, List.mem_cons_of_mem _ hx, hq⟩
      · rintro ⟨x, hx, hq⟩
        rcases List.mem_cons.mp hx with e | hx
        · rw [e] at hq; exact absurd hq q
        · exact ⟨x, hx, hq⟩
theorem rowM_go {many : Nat} {ms : List Mv} (G : GoodAll many ms) {n : Nat} (hn : n < ms.length) {b : Nat} (hb : b < many) (e : Nat) : (ms[n].2[b]? = some ((e : Nat) : Int)) ↔ goK (rowM ms n) (b : Int) = (e : Int) := by
  obtain ⟨_, _, hl, _⟩ := G ms[n] (List.getElem_mem hn)
  have hb2 : b < ms[n].2.length := by omega
  have e1 : rowM ms n = ms[n].2 := by
    unfold rowM
    rw [List.getD_eq_getElem?_getD, List.getElem?_eq_getElem hn]
    rfl
  rw [e1]
  unfold goK
  rw [Int.toNat_natCast, List.getD_eq_getElem?_getD, List.getElem?_eq_getElem hb2]
  constructor
  · intro h; injection h
  · intro h; exact congrArg some h
theorem cnt_pos {many : Nat} {ms : List Mv} (G : GoodAll many ms) {b e : Nat} (hb : b < many) : 0 < cnt ms b e ↔ ∃ n, n < ms.length ∧ goK (rowM ms n) (b : Int) = (e : Int) := by
  rw [cnt_mem G]
  constructor
  · rintro ⟨m, hm, q⟩
    obtain ⟨n, hn, rfl⟩ := List.getElem_of_mem hm
    exact ⟨n, hn, (rowM_go G hn hb e).mp q⟩
  · rintro ⟨n, hn, q⟩
    exact ⟨ms[n], List.getElem_mem hn, (rowM_go G hn hb e).mpr q⟩
/-- from a place one comes to one from which all come back -/
theorem some_okR {many : Nat} {ms : List Mv} (G : GoodAll many ms) (m6 : many ≤ 6) (n : Nat) : ∀ (p : Int), 0 ≤ p → p < (many : Int) → (reachL many ms p).length ≤ n → ∃ q, Rch ms p q ∧ okP many ms q = true := by
  induction n with
  | zero =>
    intro p p0 p1 h
    have := List.length_pos_of_mem (reachL_self G m6 p0 p1)
    omega
  | succ n ih =>
    intro p p0 p1 h
    cases hk : okP many ms p with
    | true => exact ⟨p, Rch.refl ms p, hk⟩
    | false =>
      obtain ⟨x, hx, hd⟩ := List.all_eq_false.mp hk
      have hne : reachL many ms x ≠ reachL many ms p := fun z => hd (decide_eq_true z)
      obtain ⟨x0, x1⟩ := reachL_in hx
      have hpx := (mem_reachL G m6 p0 p1).mp hx
      rcases rise_sub (reachL_rise many ms x) (reachL_rise many ms p) (fun k hk => (mem_reachL G m6 p0 p1).mpr (hpx.trans ((mem_reachL G m6 x0 x1).mp hk))) with e | lt
      · exact absurd e hne
      · obtain ⟨q, h1, h2⟩ := ih x x0 x1 (by omega)
        exact ⟨q, hpx.trans h1, h2⟩
/-- what is closed for the flow holds all that is reached -/
theorem Rch.set {many : Nat} {ms : List Mv} (G : GoodAll many ms) {E : Nat → Prop} (hE : ClSet many (cnt ms) E) {p q : Int} (p0 : 0 ≤ p) (p1 : p < (many : Int)) (hp : E p.toNat) (h : Rch ms p q) : E q.toNat := by
  have := Rch.ind (F := fun x => (0 ≤ x ∧ x < (many : Int)) ∧ E x.toNat) ⟨⟨p0, p1⟩, hp⟩ (fun x n hx hn => ?_) h
  · exact this.2
  · obtain ⟨⟨x0, x1⟩, hx⟩ := hx
    obtain ⟨y0, y1⟩ := goK_in' (rowM_good G hn) x0 x1
    refine ⟨⟨y0, y1⟩, hE x.toNat (by omega) hx _ (by omega) ?_⟩
    rw [cnt_pos G (by omega)]
    refine ⟨n, hn, ?_⟩
    rw [show ((x.toNat : Nat) : Int) = x by omega]
    omega
theorem one_cl {many : Nat} {ms : List Mv} (G : Good many ms) {g : List Int} (h : closedL many ms = [g]) : OneCl many (cnt ms) (fun m => (m : Int) ∈ g) := by
  have m6 := G.m6
  have GA : GoodAll many ms := G.mv
  have hg : g ∈ closedL many ms := by rw [h]; exact List.mem_singleton_self g
  obtain ⟨p, hp, rfl⟩ := List.mem_map.mp hg
  obtain ⟨hp1, hp2⟩ := List.mem_filter.mp hp
  obtain ⟨p0, p1⟩ := mem_ids.mp hp1
  refine ⟨fun b hb hbg e he ce => ?_, ⟨p.toNat, by omega, ?_⟩, fun E hE ⟨b0, hb0, eb0⟩ b hb hbg => ?_⟩
  · obtain ⟨n, hn, q⟩ := (cnt_pos GA hb).mp ce
    show (e : Int) ∈ reachL many ms p
    rw [mem_reachL GA m6 p0 p1, ← q]
    exact Rch.step ((mem_reachL GA m6 p0 p1).mp hbg) hn
  · show ((p.toNat : Nat) : Int) ∈ reachL many ms p
    rw [show ((p.toNat : Nat) : Int) = p by omega]
    exact reachL_self GA m6 p0 p1
  · obtain ⟨q, h1, h2⟩ := some_okR GA m6 _ (b0 : Int) (by omega) (by omega) (Nat.le_refl _)
    obtain ⟨q0, q1⟩ := h1.in GA (by omega) (by omega)
    obtain ⟨h3, h4⟩ := okP_head GA m6 q0 q1 h2
    have hin := (head_least (reachL_rise many ms q) (reachL_self GA m6 q0 q1)).1
    have : reachL many ms ((reachL many ms q).getD 0 0) ∈ closedL many ms := List.mem_map.mpr ⟨_, List.mem_filter.mpr ⟨(List.mem_filter.mp hin).1, h3⟩, rfl⟩
    rw [h, List.mem_singleton, h4] at this
    have eq : E q.toNat := Rch.set GA hE (by omega) (by omega) (by rw [Int.toNat_natCast]; exact eb0) h1
    have hbq : (b : Int) ∈ reachL many ms q := by rw [this]; exact hbg
    have := Rch.set GA hE q0 q1 eq ((mem_reachL GA m6 q0 q1).mp hbq)
    rw [Int.toNat_natCast] at this
    exact this
end
section
/-- a list of the moves' weights where the test is true -/
def wsOf (ms : List Mv) (t : Mv → Bool) : List Int := (ms.filter t).map (·.1)
theorem wsOf_snoc {ms : List Mv} {i : Nat} {m : Mv} (h : ms[i]? = some m) (t : Mv → Bool) : wsOf (ms.take (i + 1)) t = wsOf (ms.take i) t ++ (if t m = true then [m.1] else []) := by
  unfold wsOf
  rw [List.take_add_one, h, List.filter_append, List.map_append]
  congr 1
  by_cases q : t m = true
  · simp [q]
  · simp [q]
theorem wsOf_len (ms : List Mv) (t : Mv → Bool) (i : Nat) : (wsOf (ms.take i) t).length ≤ i := by
  unfold wsOf
  rw [List.length_map]
  refine Nat.le_trans (List.length_filter_le _ _) ?_
  rw [List.length_take]
  exact Nat.min_le_left _ _
theorem wsOf_all (ms : List Mv) : (wsOf ms fun _ => true).sum = tot ms := by
  unfold wsOf tot
  rw [List.filter_eq_self.mpr fun _ _ => rfl]
def leads (b e : Nat) (m : Mv) : Bool := decide (V.int (m.2.getD b 0) = V.int ((e : Nat) : Int))
theorem wsOf_cnt {many b : Nat} (hb : b < many) (e : Nat) : ∀ {ms : List Mv}, (∀ m ∈ ms, GoodMv many m) → (wsOf ms (leads b e)).sum = cnt ms b e
  | [], _ => rfl
  | m :: ms, h => by
    have ih := wsOf_cnt hb e (ms := ms) fun x hx => h x (List.mem_cons_of_mem _ hx)
    obtain ⟨_, _, hl, _⟩ := h m List.mem_cons_self
    have hb2 : b < m.2.length := by omega
    have g : m.2[b]? = some m.2[b] := List.getElem?_eq_getElem hb2
    unfold wsOf cnt at *
    rw [List.map_cons, List.sum_cons, ← ih, List.filter_cons]
    have el : leads b e m = decide (m.2[b]? = some ((e : Nat) : Int)) := by
      unfold leads
      rw [List.getD_eq_getElem?_getD, g]
      by_cases q : m.2[b] = ((e : Nat) : Int)
      · simp [q]
      · simp [q]
    rw [el]
    by_cases q : m.2[b]? = some ((e : Nat) : Int)
    · rw [if_pos (decide_eq_true q), if_pos q, List.map_cons, List.sum_cons]
    · rw [if_neg (by simpa using q), if_neg q, Int.zero_add]
end
section
variable {P : Program} {w : World} {K : PySem.W.Frag} {mg : Str → Option Value} {base : Heap} {C : Addr}
/-! ### _balance -/
theorem scBa : FnScope ["chain", "weights", "many", "rows", "end", "row", "begin"] ["chain"] (defScope sBalance) := ⟨rfl, rfl, rfl, by decide +kernel, rfl, by decide +kernel, by decide +kernel⟩
def spBa (C : Addr) : Sp := fun vs H Q _ => ∃ (x : Addr) (many : Nat) (ms : List Mv), vs = [.ref x] ∧ ChainAt C H x many ms ∧ Good many ms ∧ ∀ R as H', Same H H' → MatAt H' R as many (balA many (cnt ms) (tot ms)) → Q (.ref R) H'
theorem rowV_snoc {n : Nat} {g h : Nat → Int} {z : Int} (e : ∀ i, i < n → h i = g i) (e2 : h n = z) : rowV n g ++ [V.int z] = rowV (n + 1) h := by
  rw [rowV_congr (fun i hi => (e i hi).symm)]
  unfold rowV
  rw [List.range_succ, List.map_append, ← e2]
  rfl
theorem sum_range (g : Nat → Int) : ∀ n : Nat, ((List.range n).map g).sum = sumN n g
  | 0 => rfl
  | n + 1 => by
    rw [List.range_succ, List.map_append, List.sum_append, sum_range g n]
    show sumN n g + (g n + 0) = sumN n g + g n
    omega
theorem rowV_map (n : Nat) (g : Nat → Int) : rowV n g = ((List.range n).map g).map V.int := by
  unfold rowV
  rw [List.map_map]
  rfl
theorem ok_balance {f fW fP fT : Addr} {fd fdW fdP fdT : FuncData} (F : Fun K "_balance" "_balance" sBalance f fd) (DW : Df K mg "_weights" sWeights ["chain"] fW fdW) (T : ChM K C fP fT fdP fdT) (mr : mg "range" = none) (me : mg "enumerate" = none) (mL : mg "list" = none) (mSu : mg "sum" = none) : FnOk P w K mg base CX0 3 f fd ["chain"] (spBa C) := by
  have GW : FnOk P w K mg base CX0 2 fW fdW ["chain"] (spWeights C) := ok_weights DW.F T mr me mL
  have GP : FnOk P w K mg base CX0 1 fP fdP ["self"] (spPlaces C) := ok_places T.FP T.cl T.nM
  refine F.ok scBa (fun vs H Q E h => ?_) (fun cdv A outer s H vs Q E hr h => ?_)
  · obtain ⟨x, many, ms, rfl, _⟩ := h
    rfl
  · obtain ⟨x, many, ms, rfl, hC, G, q⟩ := h
    have r2 : Room 2 _ := hr
    have r1 : Room 1 _ := hr.mono (by decide)
    refine ⟨_, (pss_cons (ps_set (i := 1) scBa.nd rfl (.inr rfl) (pe_call GW r2 (by rfl) DW.g DW.F.kp DW.b .nil pass0 (pa_cons (pv 0) pa_nil)))
      (pss_cons (ps_set (i := 2) scBa.nd rfl (.inl rfl) (pe_meth0 (pv 0) T.cl T.hP GP r1 T.bP .nil pass0))
      (pss_cons (ps_set (i := 3) scBa.nd rfl (.inl rfl) (pe_lst pa_nil))
      (pss_cons (ps_for PassesOwn.never rfl (pi_range1 (by rfl) mr (pa_cons (pe_op op_sub (pv 2) pe_int) pa_nil)) (pg_name (i := 4) scBa.nd rfl (.inr rfl)) (pss_cons (ps_setLc (i := 5) (own := [("begin", 6)]) (g := gName 6) (tt := tYes) (te := (tOp (rIxL K) (tOp (rIxL K) (tVar 1) (tVar 6)) (tVar 4))) rfl scBa.nd rfl rfl (sw_true rfl rfl rfl (by decide +kernel)) (pi_range1 (by rfl) mr (pa_cons (pv 2) pa_nil)) (blkOk_by (N := ["chain", "weights", "many", "rows", "end", "row", "begin"]) (sc := defScope sBalance) (by decide +kernel)) (fun _ _ _ _ _ => by exact (pg_name (i := 6) scBa.nd rfl (.inl rfl))) (fun _ _ _ _ _ => pts_nil) (fun _ _ _ _ _ => by exact (pe_ix ix_list (pe_ix ix_list (pv 1) (pv 6) (fun _ _ => rfl)) (pv 4) (fun _ _ => rfl))))
      (pss_cons (ps_augS (pv 5) (pv 4) pget_list (pe_callB (cr_sum rfl) (by rfl) mSu (by decide +kernel) (pa_cons (pe_ix ix_list (pv 1) (pv 4) (fun _ _ => rfl)) pa_nil)) ip_sub set_list)
      (pss_one (ps_expr (pe_bm PySem.F.plainAttrs_list PySem.F.slot_list_append PySem.F.type_list_append mt_append (pv 3) (pa_cons (pe_op op_cat (pv 5) (pe_lst (pa_cons pe_int pa_nil))) pa_nil)))))))
      (pss_cons (ps_expr (pe_bm PySem.F.plainAttrs_list PySem.F.slot_list_append PySem.F.type_list_append mt_append (pv 3) (pa_cons (pe_op op_cat (pe_op op_rep (pe_lst (pa_cons pe_int pa_nil)) (pv 2)) (pe_lst (pa_cons pe_int pa_nil))) pa_nil)))
      (pss_one (ps_ret (pv 3)))))))), ?_⟩
    have m1 := G.m1
    have m6 := G.m6
    refine ⟨.ref x, rfl, x, many, ms, rfl, hC, G, fun W as H1 s1 hW => ?_⟩
    have hC1 := hC.same s1
    obtain ⟨dx1, a1, ws1, g1, _, _⟩ := id hC1
    refine ⟨.ref x, rfl, x, dx1, _, rfl, g1, ch_no, x, many, ms, rfl, hC1, ?_⟩
    refine ⟨(by show 0 ≤ sizeLine; decide), fun R nR => ?_⟩
    have s2 : Same H (upd H1 R (.lst [])) := s1.trans (same_new nR)
    have hW2 := hW.same (same_new (o := .lst []) nR)
    have nHR : H R = none := s1.free nR
    have hR2 : (upd H1 R (.lst [])) R = some (.lst []) := upd_same
    generalize upd H1 R (.lst []) = H2 at s2 hW2 hR2 ⊢
    have em : ((many : Nat) : Int).toNat = many := by omega
    refine ⟨.int (many : Int), rfl, _, _, rfl, rfl, _, rfl, by omega, by omega, ?_⟩
    refine for_range (lo := 0) (n := ((many : Nat) : Int) - 1 |>.toNat) (fun i σ H' => ∃ y4 y5, ∃ bs : List Addr, σ = [some (.ref x), some (.ref W), some (.int (many : Int)), some (.ref R), y4, y5, none] ∧ Same H H' ∧ WtsAt H H' W as many (cnt ms) ∧ H' R = some (.lst (bs.map V.ref)) ∧ bs.length = i ∧
      ∀ j a, bs[j]? = some a → H' a = some (.lst (rowV (many + 1) (balA many (cnt ms) (tot ms) j))) ∧ a ≠ R)
      ⟨none, none, [], rfl, s2, hW2, hR2, rfl, fun j a e => by simp at e⟩ ?_ ?_
    · rintro e σ H3 he ⟨y4, y5, bs, rfl, s3, hW3, hR3, lb, hbs⟩
      have he2 : e + 1 < many := by omega
      have eE : (0 : Int) + (e : Int) = (e : Int) := Int.zero_add _
      refine ⟨.int (many : Int), rfl, _, rfl, by omega, by omega, fun D nD => ?_⟩
      refine lc_range (lo := 0) (n := ((many : Nat) : Int).toNat) (fun j H' => Same H3 H' ∧ H' D = some (.lst (rowV j fun b => cnt ms b e))) ⟨same_new nD, upd_same⟩ ?_ ?_
      · rintro j H4 hj ⟨s4, hD⟩
        have hj' : j < many := by omega
        have ej : (0 : Int) + (j : Int) = (j : Int) := Int.zero_add _
        have hW4 := hW3.same s4
        obtain ⟨a, ha⟩ : ∃ a, as[j]? = some a := ⟨as[j]'(by rw [hW.len]; exact hj'), List.getElem?_eq_getElem (by rw [hW.len]; exact hj')⟩
        have gj : (as.map V.ref)[j]? = some (.ref a) := by rw [List.getElem?_map, ha]; rfl
        refine ⟨rfl, .ref W, rfl, .int (0 + (j : Int)), rfl, W, _, 0 + (j : Int), _, rfl, rfl, SqL.of hW4.at_, at_of ej gj, .int (0 + (e : Int)), rfl, a, _, 0 + (e : Int), _, rfl, rfl, SqL.of (hW4.row j a ha), at_of (j := e) eE (rowV_get (by omega)), _, hD, ?_, ?_⟩
        · rw [rowV_len]
          exact Nat.lt_of_le_of_lt (show j ≤ 6 by omega) (by decide)
        · refine ⟨fun b o q => by rw [upd_ne (ne_of_none q nD)]; exact s4 _ _ q, ?_⟩
          rw [upd_same, rowV_snoc (fun _ _ => rfl) rfl]
      · rintro H4 ⟨s4, hD⟩
        rw [em] at hD
        have hW4 := hW3.same s4
        obtain ⟨a, ha⟩ : ∃ a, as[e]? = some a := ⟨as[e]'(by rw [hW.len]; omega), List.getElem?_eq_getElem (by rw [hW.len]; omega)⟩
        have gj : (as.map V.ref)[e]? = some (.ref a) := by rw [List.getElem?_map, ha]; rfl
        have et : ((List.range many).map (cnt ms e)).sum = tot ms := by rw [sum_range]; exact cnt_row (by omega) G.mv
        have hrow : H4 a = some (.lst (((List.range many).map (cnt ms e)).map V.int)) := by rw [← rowV_map]; exact hW4.row e a ha
        refine ⟨.ref D, rfl, .int (0 + (e : Int)), rfl, D, _, 0 + (e : Int), _, rfl, rfl, SqL.of hD, at_of (j := e) eE (rowV_get (by omega)), ?_⟩
        refine ⟨.ref W, rfl, .int (0 + (e : Int)), rfl, W, _, 0 + (e : Int), _, rfl, rfl, SqL.of hW4.at_, at_of (j := e) eE gj, a, _, rfl, SqL.of hrow, ?_⟩
        rw [et]
        refine ⟨_, _, rfl, rfl, D, _, 0 + (e : Int), e, rfl, rfl, hD, ?_, ?_⟩
        · rw [rowV_len]
          unfold ixN
          rw [if_pos (by omega), if_pos (by omega)]
          congr 1
          omega
        rw [rowV_set (by omega)]
        have nDR : R ≠ D := ne_of_none hR3 nD
        have hR4 := s4 _ _ hR3
        have hR5 : (upd H4 D (.lst (rowV many fun b => if b = e then cnt ms e e - tot ms else cnt ms b e))) R = some (.lst (bs.map V.ref)) := by rw [upd_ne nDR]; exact hR4
        have k5 : ∀ b o, H3 b = some o → (upd H4 D (.lst (rowV many fun b => if b = e then cnt ms e e - tot ms else cnt ms b e))) b = some o := fun b o q => by rw [upd_ne (ne_of_none q nD)]; exact s4 _ _ q
        have hD5 : (upd H4 D (.lst (rowV many fun b => if b = e then cnt ms e e - tot ms else cnt ms b e))) D = some (.lst (rowV many fun b => if b = e then cnt ms e e - tot ms else cnt ms b e)) := upd_same
        generalize upd H4 D (.lst (rowV many fun b => if b = e then cnt ms e e - tot ms else cnt ms b e)) = H5 at hR5 k5 hD5 ⊢
        refine ⟨.ref R, rfl, .inl ⟨rfl, _, SqL.of hR5⟩, .ref D, rfl, (by show 1 ≤ sizeLine; decide), fun z nz => ?_⟩
        have s6 := same_new (o := .lst [.int 0]) nz
        refine ⟨D, z, _, _, rfl, rfl, s6 _ _ hD5, upd_same, ?_, fun y ny => ?_⟩
        · rw [rowV_len]
          exact Nat.le_of_lt (Nat.lt_of_le_of_lt (show many + 1 ≤ 7 by omega) (by decide))
        rw [rowV_snoc (h := balA many (cnt ms) (tot ms) e) (fun i hi => by
          unfold balA
          rw [if_pos he2, if_neg (by omega)]
          by_cases q : i = e
          · rw [if_pos q, if_pos q, q]
          · rw [if_neg q, if_neg q]) (by
          unfold balA
          rw [if_pos he2, if_pos rfl])]
        have s7 := s6.trans (same_new (o := .lst (rowV (many + 1) (balA many (cnt ms) (tot ms) e))) ny)
        have hy : (upd (upd H5 z (.lst [.int 0])) y (.lst (rowV (many + 1) (balA many (cnt ms) (tot ms) e)))) y = some (.lst (rowV (many + 1) (balA many (cnt ms) (tot ms) e))) := upd_same
        have hR7 := s7 _ _ hR5
        have nyR : y ≠ R := fun q => by rw [q, s6 _ _ hR5] at ny; cases ny
        generalize upd (upd H5 z (.lst [.int 0])) y (.lst (rowV (many + 1) (balA many (cnt ms) (tot ms) e))) = H7 at s7 hy hR7 ⊢
        refine ⟨R, _, .ref y, rfl, rfl, hR7, ?_, ?_⟩
        · rw [List.length_map, lb]
          exact Nat.lt_of_le_of_lt (show e ≤ 6 by omega) (by decide)
        have keep : ∀ b o, b ≠ R → H3 b = some o → (upd H7 R (.lst (bs.map V.ref ++ [.ref y]))) b = some o := fun b o n q => by rw [upd_ne n]; exact s7 _ _ (k5 _ _ q)
        refine ⟨_, _, bs ++ [y], rfl, fun b o q => keep b o (ne_of_none q nHR) (s3 _ _ q), ?_, ?_, ?_, fun j c q => ?_⟩
        · exact ⟨keep _ _ (ne_of_none hW.at_ nR) hW3.at_, hW3.len, fun b c q => keep _ _ (ne_of_none (hW.row b c q) nR) (hW3.row b c q), hW3.nd, hW3.new, hW3.newR, hW3.neR⟩
        · rw [upd_same, List.map_append]
          rfl
        · rw [List.length_append, lb]
          rfl
        · rcases nth_snoc q with q | ⟨q1, q2⟩
          · exact ⟨keep _ _ (hbs j c q).2 (hbs j c q).1, (hbs j c q).2⟩
          · subst q2
            refine ⟨?_, nyR⟩
            rw [upd_ne nyR, hy, q1, lb]
    · rintro σ H3 ⟨y4, y5, bs, rfl, s3, hW3, hR3, lb, hbs⟩
      have e1 : (((many : Nat) : Int) - 1).toNat = many - 1 := by omega
      rw [e1] at lb
      refine ⟨.ref R, rfl, .inl ⟨rfl, _, SqL.of hR3⟩, (by show 1 ≤ sizeLine; decide), fun z nz => ?_⟩
      have s4 := same_new (o := .lst [.int 1]) nz
      refine ⟨.int (many : Int), rfl, z, _, _, rfl, rfl, upd_same, by omega, by omega, ?_, fun y ny => ?_⟩
      · rw [em]
        exact Nat.le_of_lt (Nat.lt_of_le_of_lt (show 1 * many ≤ 6 by omega) (by decide))
      rw [em, flat_rep]
      have s5 := s4.trans (same_new (o := .lst (List.replicate many (V.int 1))) ny)
      have hy : (upd (upd H3 z (.lst [.int 1])) y (.lst (List.replicate many (V.int 1)))) y = some (.lst (List.replicate many (V.int 1))) := upd_same
      generalize upd (upd H3 z (.lst [.int 1])) y (.lst (List.replicate many (V.int 1))) = H5 at s5 hy ⊢
      refine ⟨(by show 1 ≤ sizeLine; decide), fun z2 nz2 => ?_⟩
      have s6 := same_new (o := .lst [.int 1]) nz2
      refine ⟨y, z2, _, _, rfl, rfl, s6 _ _ hy, upd_same, ?_, fun y2 ny2 => ?_⟩
      · rw [List.length_replicate]
        exact Nat.le_of_lt (Nat.lt_of_le_of_lt (show many + 1 ≤ 7 by omega) (by decide))
      have er : List.replicate many (V.int 1) ++ [V.int 1] = rowV (many + 1) (balA many (cnt ms) (tot ms) (many - 1)) := by
        have : List.replicate many (V.int 1) ++ [V.int 1] = List.replicate (many + 1) (V.int 1) := by rw [List.replicate_succ']
        rw [this]
        apply List.ext_getElem?
        intro i
        rw [List.getElem?_replicate]
        by_cases hi : i < many + 1
        · rw [if_pos hi, rowV_get hi]
          unfold balA
          rw [if_neg (by omega)]
        · rw [if_neg hi, List.getElem?_eq_none (by rw [rowV_len]; omega)]
      rw [er]
      have s7 := (s5.trans s6).trans (same_new (o := .lst (rowV (many + 1) (balA many (cnt ms) (tot ms) (many - 1)))) ny2)
      have hy2 : (upd (upd H5 z2 (.lst [.int 1])) y2 (.lst (rowV (many + 1) (balA many (cnt ms) (tot ms) (many - 1))))) y2 = some (.lst (rowV (many + 1) (balA many (cnt ms) (tot ms) (many - 1)))) := upd_same
      have hR7 := s7 _ _ hR3
      have nyR : y2 ≠ R := fun q => by rw [q, (s5.trans s6) _ _ hR3] at ny2; cases ny2
      generalize upd (upd H5 z2 (.lst [.int 1])) y2 (.lst (rowV (many + 1) (balA many (cnt ms) (tot ms) (many - 1)))) = H7 at s7 hy2 hR7 ⊢
      refine ⟨R, _, .ref y2, rfl, rfl, hR7, ?_, ?_⟩
      · rw [List.length_map, lb]
        exact Nat.lt_of_le_of_lt (show many - 1 ≤ 6 by omega) (by decide)
      have keep : ∀ b o, b ≠ R → H3 b = some o → (upd H7 R (.lst (bs.map V.ref ++ [.ref y2]))) b = some o := fun b o n q => by rw [upd_ne n]; exact s7 _ _ q
      refine ⟨.ref R, rfl, q R (bs ++ [y2]) _ (fun b o q => keep b o (ne_of_none q nHR) (s3 _ _ q)) ⟨?_, ?_, fun j c q => ?_⟩⟩
      · rw [upd_same, List.map_append]
        rfl
      · rw [List.length_append, lb]
        show many - 1 + 1 = many
        omega
      · rcases nth_snoc q with q | ⟨q1, q2⟩
        · exact ⟨keep _ _ (hbs j c q).2 (hbs j c q).1, (hbs j c q).2⟩
        · subst q2
          refine ⟨?_, nyR⟩
          rw [upd_ne nyR, hy2, q1, lb]
end
section
variable {P : Program} {w : World} {K : PySem.W.Frag} {mg : Str → Option Value} {base : Heap} {C : Addr}
/-! ### own -/
theorem scOw : FnScope ["chain", "groups"] ["chain"] (defScope sOwn) := ⟨rfl, rfl, rfl, by decide +kernel, rfl, by decide +kernel, by decide +kernel⟩
/-- the own shares, over one bottom -/
structure OwnOk (many : Nat) (ms : List Mv) (g : List Int) (z : Nat → Int) (t : Int) : Prop where
  pos : 0 < t
  big : t.natAbs ≤ 2000 ^ 6
  st : Stat many (cnt ms) (tot ms) z
  sum : sumN many z = t
  nn : ∀ b, b < many → 0 ≤ z b
  supp : ∀ b, b < many → (0 < z b ↔ (b : Int) ∈ g)
def FracsAt (H : Hp) (us : List V) (n : Nat) (f : Nat → Int × Int) : Prop := us.length = n ∧ ∀ m u, us[m]? = some u → FracAt H u (f m)
theorem FracsAt.mono {H H' : Hp} {us : List V} {n : Nat} {f : Nat → Int × Int} (h : FracsAt H us n f) (k : ∀ t xs, H t = some (.tup xs) → H' t = some (.tup xs)) : FracsAt H' us n f := ⟨h.1, fun m u e => by
  obtain ⟨t, e2, h2⟩ := h.2 m u e
  exact ⟨t, e2, k _ _ h2⟩⟩
theorem FracsAt.same {H H' : Hp} {us : List V} {n : Nat} {f : Nat → Int × Int} (s : Same H H') (h : FracsAt H us n f) : FracsAt H' us n f := h.mono fun _ _ e => s _ _ e
def spOwn (C T : Addr) : Sp := fun vs H Q _ => ∃ (x : Addr) (many : Nat) (ms : List Mv), vs = [.ref x] ∧ ChainAt C H x many ms ∧ Good many ms ∧ (closedL many ms).length ≤ 1 ∧ GxR.TabG H T ∧
  ∀ g S us z t H', closedL many ms = [g] → OwnOk many ms g z t → Gr T H H' → GxR.TabG H' T → H S = none → H' S = some (.lst us) → FracsAt H' us many (fun m => frac (z m) t) → Q (.ref S) H'
theorem ChainAt.tab {T x : Addr} {H H' : Hp} {many : Nat} {ms : List Mv} (hT : GxR.TabG H T) (g : Gr T H H') (h : ChainAt C H x many ms) : ChainAt C H' x many ms := by
  obtain ⟨dx, a0, ws0, h1, h2, h3⟩ := h
  exact ⟨dx, a0, ws0, g.tab hT (fun _ z => nomatch z) h1, g.tab hT (fun _ z => nomatch z) h2, h3.same fun b xs e => g.tab hT (fun _ z => nomatch z) e⟩
theorem Gr.tabFree {T a : Addr} {H H' : Hp} (g : Gr T H H') (hT : GxR.TabG H' T) (n : H' a = none) : H a = none := g.free n fun z => by
  obtain ⟨ps, e, _⟩ := hT
  rw [z, e] at n
  cases n
theorem ok_own {f fC fS fB tI : Addr} {fd fdC fdS fdB : FuncData} (F : Fun K "own" "own" sOwn f fd) (DC : Df K mg "closed" sClosed ["chain"] fC fdC) (DSv : Df K mg "solved" sSolved ["equations"] fS fdS) (DBa : Df K mg "_balance" sBalance ["chain"] fB fdB)
    (GC : FnOk P w K mg base CX0 4 fC fdC ["chain"] (spCl C tI)) (GSv : FnOk P w K mg base CX0 2 fS fdS ["equations"] spSv) (GBa : FnOk P w K mg base CX0 3 fB fdB ["chain"] (spBa C)) (ml : mg "len" = none) : FnOk P w K mg base CX0 5 f fd ["chain"] (spOwn C tI) := by
  refine F.ok scOw (fun vs H Q E h => ?_) (fun cdv A outer s H vs Q E hr h => ?_)
  · obtain ⟨x, many, ms, rfl, _⟩ := h
    rfl
  · obtain ⟨x, many, ms, rfl, hC, G, hlen, hTab, q⟩ := h
    have r4 : Room 4 _ := hr
    have r3 : Room 3 _ := hr.mono (by decide)
    have r2 : Room 2 _ := hr.mono (by decide)
    refine ⟨_, (pss_cons (ps_set (i := 1) scOw.nd rfl (.inl rfl) (pe_call GC r4 (by rfl) DC.g DC.F.kp DC.b .nil pass0 (pa_cons (pv 0) pa_nil)))
      (pss_cons (ps_if (pt_cmpR op_gt (pe_callB call_len_seq (by rfl) ml PySem.boot_len (pa_cons (pv 1) pa_nil)) pe_int (nomark _)) pss_never pss_nil)
      (pss_one (ps_ret (pe_call GSv r2 (by rfl) DSv.g DSv.F.kp DSv.b .nil pass0 (pa_cons (pe_call GBa r3 (by rfl) DBa.g DBa.F.kp DBa.b .nil pass0 (pa_cons (pv 0) pa_nil)) pa_nil)))))), ?_⟩
    have m1 := G.m1
    have m6 := G.m6
    have ne := closedL_ne (ms := ms) G.mv m1 m6
    obtain ⟨g, hg⟩ : ∃ g, closedL many ms = [g] := by
      cases h : closedL many ms with
      | nil => exact absurd h ne
      | cons g r =>
        rw [h] at hlen
        cases r with
        | nil => exact ⟨g, rfl⟩
        | cons _ _ => simp at hlen
    refine ⟨.ref x, rfl, x, many, ms, rfl, hC, G, hTab, fun L H1 g1 hT1 nL hL => ?_⟩
    have hC1 := hC.tab hTab g1
    obtain ⟨vl, hvl, hpl⟩ := id hL
    refine ⟨.ref L, rfl, L, _, rfl, .inl (SqL.of hvl), _, _, rfl, rfl, _, rfl, ite2 (fun c => ?_) (fun c => ?_)⟩
    · have h1 : (1 : Int) < ((vl.length : Nat) : Int) := of_decide_eq_true c
      rw [hpl.length] at h1
      omega
    refine ⟨.ref x, rfl, x, many, ms, rfl, hC1, G, fun R as H2 s2 hM => ?_⟩
    have fl := cnt_flow G
    have oc := one_cl G hg
    have tp := tot_pos G
    refine ⟨R, as, many, _, rfl, hM, by omega, bal_inj fl oc, bal_l1 fl (K := 2000) (by omega), fun S us d X H3 s3 nS hS d0 db xb sol lu hus => ?_⟩
    obtain ⟨z, t, t0, hzt, st, sum, nn, supp⟩ := bal_sol fl oc d0 sol
    have p6 : (2000 : Nat) ^ many ≤ 2000 ^ 6 := Nat.pow_le_pow_right (by decide) m6
    have O : OwnOk many ms g z t := ⟨t0, by
      rcases hzt with ⟨e, _⟩ | ⟨e, _⟩
      · rw [e]; omega
      · rw [e, Int.natAbs_neg]; omega, st, sum, nn, supp⟩
    refine q g S us z t H3 hg O (g1.trans (Gr.of_same (s2.trans s3))) (tab_same (s2.trans s3) hT1) (g1.tabFree hT1 (s2.free nS)) hS ⟨lu, fun m u e => ?_⟩
    have h := hus m u e
    rcases hzt with ⟨e1, e2⟩ | ⟨e1, e2⟩
    · rw [e1, e2]
      rw [fracZ_pos (by omega)] at h
      exact h
    · rw [e1, e2]
      have e3 : fracZ (X m) d = frac (-X m) (-d) := if_pos (by omega)
      rw [e3] at h
      exact h
end
section
def spLaw2 (K : PySem.W.Frag) (T1 T2 : Addr) : Sp := fun vs H Q _ => ∃ (a : Addr) (ns : List Int), vs = [.ref a] ∧ SqL K H a (ns.map V.int) ∧ ns.length ≤ 63 ∧ GxR.TabG H T1 ∧ GxR.TabG H T2 ∧ ∀ H', Q (.bl true) H'
theorem tab_two {T1 T2 : Addr} {H H' : Hp} (g : Gr T1 H H') (h1 : GxR.TabG H' T1) (h2 : GxR.TabG H T2) : GxR.TabG H' T2 := by
  by_cases e : T2 = T1
  · rw [e]
    exact h1
  · obtain ⟨ps, e2, t⟩ := h2
    exact ⟨ps, g _ _ e e2, t⟩
theorem ListsAt.tab {T L : Addr} {H H' : Hp} {xss : List (List Int)} (hT : GxR.TabG H T) (g : Gr T H H') (h : ListsAt H L xss) : ListsAt H' L xss := by
  obtain ⟨vs, e, p⟩ := h
  exact ⟨vs, g.tab hT (fun _ z => nomatch z) e, L2.Paired.mapP p fun v xs ⟨a, h1, h2⟩ => ⟨a, h1, g.tab hT (fun _ z => nomatch z) h2⟩⟩
theorem FracsAt.tab {T : Addr} {H H' : Hp} {us : List V} {n : Nat} {f : Nat → Int × Int} (hT : GxR.TabG H T) (g : Gr T H H') (h : FracsAt H us n f) : FracsAt H' us n f := h.mono fun b xs e => g.tab hT (fun _ z => nomatch z) e
/-- one closed group: the places whose shares are above 0 -/
theorem one_group {many : Nat} {ms : List Mv} (m1 : 1 ≤ many) (m6 : many ≤ 6) (G : GoodAll many ms) (h : (closedL many ms).length ≤ 1) : ∃ g, closedL many ms = [g] := by
  have ne := closedL_ne (ms := ms) G m1 m6
  cases e : closedL many ms with
  | nil => exact absurd e ne
  | cons g r =>
    rw [e] at h
    cases r with
    | nil => exact ⟨g, rfl⟩
    | cons _ _ => simp at h
theorem supp_list {many : Nat} {ms : List Mv} {g : List Int} {z : Nat → Int} {t : Int} (hg : closedL many ms = [g]) (O : OwnOk many ms g z t) : (ids many).filter (fun p => decide (0 < z p.toNat)) = g := by
  have hm : g ∈ closedL many ms := by rw [hg]; exact List.mem_singleton_self g
  obtain ⟨p, _, e⟩ := List.mem_map.mp hm
  have gr : g.Pairwise (· < ·) := by rw [← e]; exact reachL_rise many ms p
  have gi : ∀ k ∈ g, 0 ≤ k ∧ k < (many : Int) := fun k hk => by rw [← e] at hk; exact reachL_in hk
  refine rise_same (List.Pairwise.filter _ (ids_pair many)) gr fun k => ?_
  rw [List.mem_filter, mem_ids, decide_eq_true_iff]
  constructor
  · rintro ⟨⟨k0, k1⟩, h⟩
    have := (O.supp k.toNat (by omega)).mp h
    rw [show ((k.toNat : Nat) : Int) = k by omega] at this
    exact this
  · intro hk
    obtain ⟨k0, k1⟩ := gi k hk
    refine ⟨⟨k0, k1⟩, (O.supp k.toNat (by omega)).mpr ?_⟩
    rw [show ((k.toNat : Nat) : Int) = k by omega]
    exact hk
end
/-! ### orders: the mathematics -/
def rankO (o : List Int) (x : Int) : Int := ((o.idxOf x : Nat) : Int)
def standsO (row o : List Int) : List Int := o.map fun p => rankO o (goK row p)
def keepsR (row o : List Int) : Bool := decide ((standsO row o).Pairwise (· ≤ ·))
/-- the first move that doesn't keep the order -/
def fbN (ms : List Mv) (o : List Int) : Option Nat := ms.findIdx? fun mv => !keepsR mv.2 o
def fbV (ms : List Mv) (o : List Int) : V := match fbN ms o with
  | none => .non
  | some k => .int (k : Int)
def isOrd (many : Nat) (o : List Int) : Prop := o.Perm (ids many)
theorem isOrd.mem {many : Nat} {o : List Int} (h : isOrd many o) {x : Int} : x ∈ o ↔ 0 ≤ x ∧ x < (many : Int) := (h.mem_iff).trans mem_ids
theorem isOrd.len {many : Nat} {o : List Int} (h : isOrd many o) : o.length = many := by
  rw [h.length_eq]
  unfold ids
  rw [List.length_map, List.length_range]
theorem ix_at {o : List Int} {x : Int} (h : x ∈ o) : (o.map V.int)[o.idxOf x]? = some (.int x) := by
  have hl : o.idxOf x < o.length := List.idxOf_lt_length_of_mem h
  rw [List.getElem?_map, List.getElem?_eq_getElem hl, List.getElem_idxOf hl]
  rfl
theorem ix_before {o : List Int} {x : Int} {m : Nat} {z : V} (hm : m < o.idxOf x) (e : (o.map V.int)[m]? = some z) : eqV z (.int x) = false := by
  rw [List.getElem?_map] at e
  obtain ⟨y, hy, rfl⟩ := Option.map_eq_some_iff.mp e
  obtain ⟨lt, e2⟩ := List.getElem?_eq_some_iff.mp hy
  have : y ≠ x := by
    intro z
    have h := List.not_of_lt_findIdx (p := (· == x)) (xs := o) hm
    rw [e2, z] at h
    simp at h
  show (y == x) = false
  exact beq_eq_false_iff_ne.mpr this
theorem flat_ints (ns : List Int) : (ns.map V.int).all flatV = true := List.all_eq_true.mpr fun v hv => by
  obtain ⟨n, _, rfl⟩ := List.mem_map.mp hv
  rfl
theorem sort_same : ∀ {xs ys : List Int}, xs.Perm ys → xs.Pairwise (· ≤ ·) → ys.Pairwise (· ≤ ·) → xs = ys
  | [], ys, h, _, _ => (List.nil_perm.mp h).symm
  | x :: xs, [], h, _, _ => absurd h.symm.nil_eq (by simp)
  | x :: xs, y :: ys, h, hx, hy => by
    obtain ⟨x1, x2⟩ := List.pairwise_cons.mp hx
    obtain ⟨y1, y2⟩ := List.pairwise_cons.mp hy
    have e : x = y := by
      have m1 := h.mem_iff.mp (List.mem_cons_self (a := x) (l := xs))
      have m2 := h.mem_iff.mpr (List.mem_cons_self (a := y) (l := ys))
      rcases List.mem_cons.mp m1 with a | a
      · exact a
      · rcases List.mem_cons.mp m2 with b | b
        · exact b.symm
        · have := x1 y b
          have := y1 x a
          omega
    subst e
    rw [sort_same (List.Perm.cons_inv h) x2 y2]
theorem ids_le (many : Nat) : (ids many).Pairwise (· ≤ ·) := List.Pairwise.imp (fun {a b} (h : a < b) => (by omega : a ≤ b)) (ids_pair many)
/-- sorted is all places in turn just for an order -/
theorem sorted_ids {many : Nat} {o zs : List Int} (hp : zs.Perm o) (hs : zs.Pairwise (· ≤ ·)) : (zs = ids many) ↔ isOrd many o := by
  constructor
  · intro e
    subst e
    exact hp.symm
  · intro h
    exact sort_same (hp.trans h) hs (ids_le many)
theorem goK_ord {many : Nat} {row o : List Int} (hr : GoodRow many row) (ho : isOrd many o) {p : Int} (hp : p ∈ o) : goK row p ∈ o := ho.mem.mpr (goK_in' hr (ho.mem.mp hp).1 (ho.mem.mp hp).2)
theorem fbN_none {ms : List Mv} {o : List Int} : fbN ms o = none ↔ ∀ mv ∈ ms, keepsR mv.2 o = true := by
  unfold fbN
  rw [List.findIdx?_eq_none_iff]
  constructor
  · intro h mv hm
    have := h mv hm
    cases hk : keepsR mv.2 o with
    | true => rfl
    | false =>
      rw [hk] at this
      cases this
  · intro h mv hm
    rw [h mv hm]
    rfl
theorem standsO_at {row o : List Int} {k : Nat} {p : Int} (h : o[k]? = some p) : (standsO row o)[k]? = some (rankO o (goK row p)) := by
  unfold standsO
  rw [List.getElem?_map, h]
  rfl
section
variable {P : Program} {w : World} {K : PySem.W.Frag} {mg : Str → Option Value} {base : Heap} {C : Addr}
/-! ### _keeps -/
theorem scKe : FnScope ["whither", "order", "stands", "place"] ["whither", "order"] (defScope sKeeps) := ⟨rfl, rfl, rfl, by decide +kernel, rfl, by decide +kernel, by decide +kernel⟩
def spKe : Sp := fun vs H Q _ => ∃ (wa l : Addr) (many : Nat) (row o : List Int), vs = [.ref wa, .ref l] ∧ H wa = some (.tup (row.map V.int)) ∧ H l = some (.lst (o.map V.int)) ∧ many ≤ 6 ∧ GoodRow many row ∧ isOrd many o ∧ ∀ H', Same H H' → Q (.bl (keepsR row o)) H'
theorem ok_keeps {k : Nat} {f : Addr} {fd : FuncData} (F : Fun K "_keeps" "_keeps" sKeeps f fd) (ms' : mg "sorted" = none) : FnOk P w K mg base CX0 (k + 1) f fd ["whither", "order"] spKe := by
  refine F.ok scKe (fun vs H Q E h => ?_) (fun cdv A outer s H vs Q E hr h => ?_)
  · obtain ⟨wa, l, many, row, o, rfl, _⟩ := h
    rfl
  · obtain ⟨wa, l, many, row, o, rfl, hw, hl, m6, hrow, ho, q⟩ := h
    have hu := hu64 hr
    refine ⟨_, (pss_cons (ps_setLc (i := 2) (own := [("place", 3)]) (g := gName 3) (tt := tYes) (te := (tBM K "list" (rIndex K) (tVar 1) (tCons (tOp (rIxT K) (tVar 0) (tVar 3)) tNil))) rfl scKe.nd rfl rfl (sw_true rfl rfl rfl (by decide +kernel)) (pi_list (pv 1)) (blkOk_by (N := ["whither", "order", "stands", "place"]) (sc := defScope sKeeps) (by decide +kernel)) (fun _ _ _ _ _ => by exact (pg_name (i := 3) scKe.nd rfl (.inl rfl))) (fun _ _ _ _ _ => pts_nil) (fun _ _ _ _ _ => by exact (pe_bm PySem.F.plainAttrs_list PySem.F.slot_list_index PySem.F.type_list_index mt_index (pv 1) (pa_cons (pe_ix ix_tup (pv 0) (pv 3) (fun _ _ => rfl)) pa_nil))))
      (pss_one (ps_ret (pe_cmpR (op_eqD hu) (pv 2) (pe_callB cr_sorted (by rfl) ms' (by decide +kernel) (pa_cons (pv 2) pa_nil)) (nomark _))))), ?_⟩
    have lo := ho.len
    refine ⟨.ref l, rfl, l, rfl, ⟨_, SqL.of hl⟩, fun D nD => ?_⟩
    refine lc_list (K := K) (a := l) (xs := o.map V.int) (fun i H' => Same H H' ∧ H' D = some (.lst (((standsO row o).take i).map V.int))) ⟨same_new nD, by rw [List.take_zero]; exact upd_same⟩ (fun i H' _ h => SqL.of (h.1 _ _ hl)) ?_ ?_
    · rintro i v H1 hv ⟨s1, hD⟩
      rw [List.getElem?_map] at hv
      obtain ⟨p, hp, rfl⟩ := Option.map_eq_some_iff.mp hv
      have hpo := List.mem_of_getElem? hp
      obtain ⟨p0, p1⟩ := ho.mem.mp hpo
      have hg := goK_ord hrow ho hpo
      refine ⟨rfl, .ref l, rfl, .inl ⟨rfl, _, SqL.of (s1 _ _ hl)⟩, .ref wa, rfl, .int p, rfl, wa, _, p, _, rfl, rfl, SqT.of (s1 _ _ hw), at_of (show p = ((p.toNat : Nat) : Int) by omega) (at_goK p0 (by rw [hrow.1]; omega)), ?_⟩
      refine ⟨l, _, .int (goK row p), o.idxOf (goK row p), _, rfl, rfl, SqL.of (s1 _ _ hl), rfl, flat_ints o, ix_at hg, beq_self_eq_true _, fun m z hm e => ix_before hm e, ?_⟩
      refine ⟨_, hD, by rw [List.length_map, List.length_take]; exact small8 (Nat.le_trans (Nat.min_le_right _ _) (by unfold standsO; rw [List.length_map]; omega)), fun b u e => by rw [upd_ne (ne_of_none e nD)]; exact s1 _ _ e, ?_⟩
      have e1 : (standsO row o)[i]? = some (rankO o (goK row p)) := by
        unfold standsO
        rw [List.getElem?_map, hp]
        rfl
      rw [upd_same, take_snoc e1, List.map_append]
      rfl
    · rintro H1 ⟨s1, hD⟩
      rw [List.length_map, List.take_of_length_le (by unfold standsO; rw [List.length_map]; exact Nat.le_refl _)] at hD
      refine ⟨.ref D, rfl, .ref D, rfl, D, _, rfl, SqL.of hD, by unfold standsO; rw [List.length_map]; omega, fun zs L hp hs nL => ?_⟩
      have s2 := same_new (o := .lst (zs.map V.int)) nL
      refine ⟨_, _, dp_lst (s2 _ _ hD), dp_lst upd_same, (Sh.lst _).shaped (by decide), (Sh.lst _).shaped (by decide), ?_⟩
      rw [eqv_lst]
      have e : decide (standsO row o = zs) = keepsR row o := by
        unfold keepsR
        refine decide_eq_decide.mpr ⟨fun e => ?_, fun h => ?_⟩
        · rw [e]
          exact hs
        · exact sort_same hp.symm h hs
      rw [e]
      exact q _ (s1.trans s2)
end
section
variable {P : Program} {w : World} {K : PySem.W.Frag} {mg : Str → Option Value} {base : Heap} {C : Addr}
/-! ### _first_breaking, keeps_order, first_order -/
theorem scFb : FnScope ["chain", "order", "number", "_", "whither"] ["chain", "order"] (defScope sFirstBreaking) := ⟨rfl, rfl, rfl, by decide +kernel, rfl, by decide +kernel, by decide +kernel⟩
def spFb (C : Addr) : Sp := fun vs H Q _ => ∃ (x l : Addr) (many : Nat) (ms : List Mv) (o : List Int), vs = [.ref x, .ref l] ∧ ChainAt C H x many ms ∧ Good many ms ∧ H l = some (.lst (o.map V.int)) ∧ isOrd many o ∧ ∀ H', Same H H' → Q (fbV ms o) H'
theorem findIdx_none {α : Type} {l : List α} {p : α → Bool} (h : ∀ x ∈ l, p x = false) : l.findIdx? p = none := List.findIdx?_eq_none_iff.mpr h
theorem findIdx_at {α : Type} {l : List α} {p : α → Bool} {i : Nat} {x : α} (e : l[i]? = some x) (hp : p x = true) (hb : ∀ j y, j < i → l[j]? = some y → p y = false) : l.findIdx? p = some i := by
  obtain ⟨lt, e2⟩ := List.getElem?_eq_some_iff.mp e
  refine List.findIdx?_eq_some_iff_getElem.mpr ⟨lt, by rw [e2]; exact hp, fun j hj => ?_⟩
  rw [hb j _ hj (List.getElem?_eq_getElem (by omega))]
  exact Bool.false_ne_true
theorem ok_fb {f fK fP fT : Addr} {fd fdK fdP fdT : FuncData} (F : Fun K "_first_breaking" "_first_breaking" sFirstBreaking f fd) (DK : Df K mg "_keeps" sKeeps ["whither", "order"] fK fdK) (T : ChM K C fP fT fdP fdT) (ms' : mg "sorted" = none) (mL : mg "list" = none) (mr : mg "range" = none) (mE : mg "enumerate" = none) : FnOk P w K mg base CX0 2 f fd ["chain", "order"] (spFb C) := by
  have GK : FnOk P w K mg base CX0 1 fK fdK ["whither", "order"] spKe := ok_keeps DK.F ms'
  have GT : FnOk P w K mg base CX0 1 fT fdT ["self"] (spTold C) := ok_told T.FT T.cl T.nV mL
  have GP : FnOk P w K mg base CX0 1 fP fdP ["self"] (spPlaces C) := ok_places T.FP T.cl T.nM
  refine F.ok scFb (fun vs H Q E h => ?_) (fun cdv A outer s H vs Q E hr h => ?_)
  · obtain ⟨x, l, many, ms, o, rfl, _⟩ := h
    rfl
  · obtain ⟨x, l, many, ms, o, rfl, hC, G, hl, ho, q⟩ := h
    have hu := hu64 hr
    have r1 : Room 1 _ := hr.mono (by decide)
    refine ⟨_, (pss_cons (ps_if (pt_cmpR (op_neD hu) (pe_callB cr_sorted (by rfl) ms' (by decide +kernel) (pa_cons (pv 1) pa_nil)) (pe_listRg rfl (by rfl) mL (prg_1 (by rfl) mr (pe_meth0 (pv 0) T.cl T.hP GP r1 T.bP .nil pass0))) (nomark _)) pss_never pss_nil)
      (pss_cons (ps_for PassesOwn.never rfl (pi_enum (by rfl) mE (pa_cons (pe_meth0 (pv 0) T.cl T.hT GT r1 T.bT .nil pass0) pa_nil)) (pg_tup rfl (pgs_cons (pg_name (i := 2) scFb.nd rfl (.inl rfl)) (pgs_cons (pg_tup rfl (pgs_cons (pg_name (i := 3) scFb.nd rfl (.inl rfl)) (pgs_cons (pg_name (i := 4) scFb.nd rfl (.inl rfl)) pgs_nil))) pgs_nil))) (pss_one (ps_if (pt_not (pt_val (pe_call GK hr (by rfl) DK.g DK.F.kp DK.b .nil pass0 (pa_cons (pv 4) (pa_cons (pv 1) pa_nil))))) (pss_one (ps_ret (pv 2))) pss_nil)))
      (pss_one (ps_ret pe_non)))), ?_⟩
    have m1 := G.m1
    have m6 := G.m6
    have l8 := G.l8
    have lo := ho.len
    refine ⟨.ref l, rfl, l, _, rfl, SqL.of hl, by omega, fun zs L hp hs nL => ?_⟩
    have s1 := same_new (o := .lst (zs.map V.int)) nL
    have hL1 : (upd H L (.lst (zs.map V.int))) L = some (.lst (zs.map V.int)) := upd_same
    generalize upd H L (.lst (zs.map V.int)) = H1 at s1 hL1 ⊢
    have hC1 := hC.same s1
    obtain ⟨dx, a0, ws, h1, h2, h3⟩ := id hC1
    refine ⟨.ref x, rfl, x, dx, _, rfl, h1, ch_no, x, many, ms, rfl, hC1, _, rfl, RgOk.of_le (by omega) (by omega) (by omega) (by omega), fun L2 nL2 => ?_⟩
    rw [rg_ends]
    have s2 := same_new (o := .lst (((List.range many).map fun (i : Nat) => (i : Int)).map V.int)) nL2
    have e1 : zs = (List.range many).map fun (i : Nat) => (i : Int) := (sorted_ids hp hs).mpr ho
    refine ne_same (d := .list (zs.map PyData.int)) (dp_lst (s2 _ _ hL1)) (by rw [e1]; exact dp_lst upd_same) (Sh.lst _) (by decide) ⟨false, rfl, iteF ?_⟩
    have s12 := s1.trans s2
    have hC2 := hC1.same s2
    have hl2 := s12 _ _ hl
    generalize upd H1 L2 (.lst (((List.range many).map fun (i : Nat) => (i : Int)).map V.int)) = H2 at s12 hC2 hl2 ⊢
    obtain ⟨dx, a0, ws, h1, h2, h3⟩ := id hC2
    refine ⟨.ref x, rfl, x, dx, _, rfl, h1, ch_noT, x, many, ms, rfl, hC2, fun m wl nm hM => ?_⟩
    have s3 := s12.trans (same_new (o := .lst wl) nm)
    have hm3 : (upd H2 m (.lst wl)) m = some (.lst wl) := upd_same
    generalize upd H2 m (.lst wl) = H3 at s3 hM hm3 ⊢
    refine ⟨m, wl, rfl, SqL.of hm3, for_it (walk_enum (K := K) (a := m) (xs := wl)) (fun i σ H' => ∃ y2 y3 y4, σ = [some (.ref x), some (.ref l), y2, y3, y4] ∧ Same H3 H' ∧ ∀ j mv, j < i → ms[j]? = some mv → keepsR mv.2 o = true) ⟨none, none, none, rfl, Same.refl _, fun j mv h => absurd h (Nat.not_lt_zero _)⟩ (fun i σ H' hi ⟨_, _, _, _, s, _⟩ => SqL.of (s _ _ hm3)) ?_ ?_⟩
    · rintro i z σ H4 H5 hi ⟨y2, y3, y4, rfl, s4, hbef⟩ ⟨Tp, u, v, rfl, nT, rfl, eu, ev⟩
      have eu' : u = .int (i : Int) := (Option.some.inj eu).symm
      subst eu'
      obtain ⟨mv, emv, hmv⟩ := hM.get' ev
      have sT := s4.trans (same_new (o := .tup [.int (i : Int), v]) nT)
      obtain ⟨ta, tb, rfl, hta, htb⟩ := hmv.same (Same.tups sT)
      have gm := G.mv mv (List.mem_of_getElem? emv)
      refine ⟨Tp, [.int (i : Int), .ref ta], rfl, SqT.of upd_same, rfl, .int (i : Int), [.ref ta], rfl, .ref ta, [], rfl, ?_⟩
      refine ⟨ta, [.int mv.1, .ref tb], rfl, SqT.of hta, rfl, .int mv.1, [.ref tb], rfl, .ref tb, [], rfl, rfl, rfl, ?_⟩
      refine ⟨.ref tb, rfl, .ref l, rfl, tb, l, many, mv.2, o, rfl, htb, (s3.trans sT) _ _ hl, m6, gm.2.2, ho, fun H6 s6 => ?_⟩
      cases hk : keepsR mv.2 o with
      | true =>
        refine ⟨true, rfl, ?_⟩
        refine ⟨some (.int (i : Int)), some (.int mv.1), some (.ref tb), rfl, sT.trans s6, fun j mv' hj e => ?_⟩
        by_cases c : j < i
        · exact hbef j mv' c e
        · have ej : j = i := by omega
          rw [ej, emv] at e
          cases e
          exact hk
      | false =>
        refine ⟨false, rfl, iteT ⟨.int (i : Int), rfl, ?_⟩⟩
        have e2 : fbV ms o = .int (i : Int) := by
          unfold fbV fbN
          rw [findIdx_at (p := fun mv => !keepsR mv.2 o) emv (by rw [hk]; rfl) (fun j y hj e => by rw [hbef j y hj e]; rfl)]
        have := q H6 ((s3.trans sT).trans s6)
        rw [e2] at this
        exact this
    · rintro σ H4 ⟨y2, y3, y4, rfl, s4, hbef⟩
      have e2 : fbV ms o = .non := by
        unfold fbV fbN
        rw [findIdx_none fun mv hmv => ?_]
        obtain ⟨j, hj, e⟩ := List.getElem_of_mem hmv
        rw [hbef j mv (by rw [hM.length]; exact hj) (by rw [← e]; exact List.getElem?_eq_getElem hj)]
        rfl
      have := q H4 (s3.trans s4)
      rw [e2] at this
      exact this
/-! keeps_order -/
theorem scKo : FnScope ["chain", "order"] ["chain", "order"] (defScope sKeepsOrder) := ⟨rfl, rfl, rfl, by decide +kernel, rfl, by decide +kernel, by decide +kernel⟩
def spKo (C : Addr) : Sp := fun vs H Q _ => ∃ (x l : Addr) (many : Nat) (ms : List Mv) (o : List Int), vs = [.ref x, .ref l] ∧ ChainAt C H x many ms ∧ Good many ms ∧ H l = some (.lst (o.map V.int)) ∧ isOrd many o ∧ ∀ H', Same H H' → Q (.bl (decide (fbN ms o = none))) H'
theorem ok_ko {f fB : Addr} {fd fdB : FuncData} (F : Fun K "keeps_order" "keeps_order" sKeepsOrder f fd) (DB : Df K mg "_first_breaking" sFirstBreaking ["chain", "order"] fB fdB) (GB : FnOk P w K mg base CX0 2 fB fdB ["chain", "order"] (spFb C)) : FnOk P w K mg base CX0 3 f fd ["chain", "order"] (spKo C) := by
  refine F.ok scKo (fun vs H Q E h => ?_) (fun cdv A outer s H vs Q E hr h => ?_)
  · obtain ⟨x, l, many, ms, o, rfl, _⟩ := h
    rfl
  · obtain ⟨x, l, many, ms, o, rfl, hC, G, hl, ho, q⟩ := h
    refine ⟨_, pss_one (ps_ret (pe_cmpR op_isN (pe_call GB hr (by rfl) DB.g DB.F.kp DB.b .nil pass0 (pa_cons (pv 0) (pa_cons (pv 1) pa_nil))) pe_non (nomark _))), ?_⟩
    refine ⟨.ref x, rfl, .ref l, rfl, x, l, many, ms, o, rfl, hC, G, hl, ho, fun H1 s1 => ⟨rfl, ?_⟩⟩
    have e : decide (fbV ms o = .non) = decide (fbN ms o = none) := by
      unfold fbV
      cases fbN ms o with
      | none => rfl
      | some k => rw [decide_eq_false (by simp), decide_eq_false (by simp)]
    rw [e]
    exact q H1 s1
/-! first_order -/
theorem scFo : FnScope ["chain", "places", "order"] ["chain"] (defScope sFirstOrder) := ⟨rfl, rfl, rfl, by decide +kernel, rfl, by decide +kernel, by decide +kernel⟩
/-- all orders, the least ones first -/
def ordsL (many : Nat) : List (List Int) := (Pm.permsN many).map fun ns => (ns.take many).map fun (j : Nat) => (j : Int)
def foL (many : Nat) (ms : List Mv) : Option (List Int) := (ordsL many).find? fun o => decide (fbN ms o = none)
theorem ordsL_ok : ∀ many, many ≤ 6 → ((ordsL many).all fun o => o.isPerm (ids many)) = true := by
  intro n hn
  match n, hn with
  | 0, _ => decide +kernel
  | 1, _ => decide +kernel
  | 2, _ => decide +kernel
  | 3, _ => decide +kernel
  | 4, _ => decide +kernel
  | 5, _ => decide +kernel
  | 6, _ => decide +kernel
theorem ordsL_ord {many : Nat} (m6 : many ≤ 6) {o : List Int} (h : o ∈ ordsL many) : isOrd many o := List.isPerm_iff.mp (List.all_eq_true.mp (ordsL_ok many m6) o h)
def ListOr (H : Hp) (v : V) (r : Option (List Int)) : Prop := match r with
  | none => v = .non
  | some o => ∃ a, v = .ref a ∧ H a = some (.lst (o.map V.int))
def spFo (C : Addr) : Sp := fun vs H Q _ => ∃ (x : Addr) (many : Nat) (ms : List Mv), vs = [.ref x] ∧ ChainAt C H x many ms ∧ Good many ms ∧ ∀ v H', Same H H' → ListOr H' v (foL many ms) → (∀ a, v = .ref a → H a = none) → Q v H'
theorem ok_fo {f fK fP fT : Addr} {fd fdK fdP fdT : FuncData} (F : Fun K "first_order" "first_order" sFirstOrder f fd) (DKo : Df K mg "keeps_order" sKeepsOrder ["chain", "order"] fK fdK) (GKo : FnOk P w K mg base CX0 3 fK fdK ["chain", "order"] (spKo C)) (T : ChM K C fP fT fdP fdT) (mL : mg "list" = none) (mr : mg "range" = none) (mP : mg "permutations" = some (.type "itertools.permutations")) : FnOk P w K mg base CX0 4 f fd ["chain"] (spFo C) := by
  have GP : FnOk P w K mg base CX0 1 fP fdP ["self"] (spPlaces C) := ok_places T.FP T.cl T.nM
  refine F.ok scFo (fun vs H Q E h => ?_) (fun cdv A outer s H vs Q E hr h => ?_)
  · obtain ⟨x, many, ms, rfl, _⟩ := h
    rfl
  · obtain ⟨x, many, ms, rfl, hC, G, q⟩ := h
    have r1 : Room 1 _ := hr.mono (by decide)
    refine ⟨_, (pss_cons (ps_for PassesOwn.never rfl (pi_perm rfl (by rfl) mP (prg_1 (by rfl) mr (pe_meth0 (pv 0) T.cl T.hP GP r1 T.bP .nil pass0))) (pg_name (i := 1) scFo.nd rfl (.inl rfl)) (pss_cons (ps_set (i := 2) scFo.nd rfl (.inl rfl) (pe_callTy call_list_of (by rfl) mL (by decide +kernel) (pa_cons (pv 1) pa_nil)))
      (pss_one (ps_if (pt_val (pe_call GKo hr (by rfl) DKo.g DKo.F.kp DKo.b .nil pass0 (pa_cons (pv 0) (pa_cons (pv 2) pa_nil)))) (pss_one (ps_ret (pv 2))) pss_nil))))
      (pss_one (ps_ret pe_non))), ?_⟩
    have m6 := G.m6
    obtain ⟨dx, a0, ws, h1, h2, h3⟩ := id hC
    refine ⟨.ref x, rfl, x, dx, _, rfl, h1, ch_no, x, many, ms, rfl, hC, _, rfl, many, rfl, rfl, m6, ?_⟩
    have lenO : (ordsL many).length = (Pm.permsN many).length := by
      unfold ordsL
      rw [List.length_map]
    refine ⟨fun i m σ H' => m = (Pm.permsN many).length - i ∧ i ≤ (Pm.permsN many).length ∧ ∃ y1 y2, σ = [some (.ref x), y1, y2] ∧ Same H H' ∧ ∀ j o, j < i → (ordsL many)[j]? = some o → fbN ms o ≠ none, ⟨_, rfl, Nat.zero_le _, none, none, rfl, Same.refl _, fun j o h => absurd h (Nat.not_lt_zero _)⟩, ?_⟩
    rintro i m σ H1 ⟨rfl, hi, y1, y2, rfl, s1, hbef⟩
    by_cases lt : i < (Pm.permsN many).length
    · refine .inr ⟨lt, fun σ H' => i + 1 ≤ (Pm.permsN many).length ∧ ∃ y1 y2, σ = [some (.ref x), y1, y2] ∧ Same H H' ∧ ∀ j o, j < i + 1 → (ordsL many)[j]? = some o → fbN ms o ≠ none, fun σ' H' h => ⟨_, by omega, rfl, h⟩, ?_⟩
      rintro v H2 ⟨Tp, ns, rfl, nT, rfl, en⟩
      have eo : (ordsL many)[i]? = some ((ns.take many).map fun (j : Nat) => (j : Int)) := by
        unfold ordsL
        rw [List.getElem?_map, en]
        rfl
      have ho := ordsL_ord m6 (List.mem_of_getElem? eo)
      have em : (ns.take many).map (fun (j : Nat) => V.int j) = ((ns.take many).map fun (j : Nat) => (j : Int)).map V.int := by rw [List.map_map]; rfl
      rw [em]
      generalize (ns.take many).map (fun (j : Nat) => (j : Int)) = o at eo ho ⊢
      have s2 := s1.trans (same_new (o := .tup (o.map V.int)) nT)
      refine ⟨.ref Tp, rfl, Tp, _, rfl, .inr (SqT.of upd_same), fun L nL => ?_⟩
      have s3 := s2.trans (same_new (o := .lst (o.map V.int)) nL)
      refine ⟨.ref x, rfl, .ref L, rfl, x, L, many, ms, o, rfl, hC.same s3, G, upd_same, ho, fun H4 s4 => ⟨_, rfl, ?_⟩⟩
      by_cases c : fbN ms o = none
      · rw [decide_eq_true c]
        refine iteT ⟨.ref L, rfl, ?_⟩
        refine q _ _ (s3.trans s4) ?_ (fun a e => by cases e; exact s2.free nL)
        have e : foL many ms = some o := by
          unfold foL
          rw [List.find?_eq_some_iff_getElem]
          obtain ⟨hl, e⟩ := List.getElem?_eq_some_iff.mp eo
          refine ⟨decide_eq_true c, i, hl, e, fun j hj => ?_⟩
          rw [decide_eq_false (hbef j _ hj (List.getElem?_eq_getElem (by omega)))]
          rfl
        rw [e]
        exact ⟨L, rfl, s4 _ _ upd_same⟩
      · rw [decide_eq_false c]
        refine iteF ⟨lt, _, _, rfl, s3.trans s4, fun j o' hj e => ?_⟩
        by_cases cj : j < i
        · exact hbef j o' cj e
        · have ej : j = i := by omega
          rw [ej, eo] at e
          cases e
          exact c
    · refine .inl ⟨by show (Pm.permsN many).length ≤ i; omega, ?_⟩
      refine q _ _ s1 ?_ (fun a e => nomatch e)
      have e : foL many ms = none := by
        unfold foL
        refine List.find?_eq_none.mpr fun o ho => ?_
        obtain ⟨j, hj, e⟩ := List.getElem_of_mem ho
        rw [decide_eq_false (hbef j o (by omega) (by rw [← e]; exact List.getElem?_eq_getElem hj))]
        exact Bool.false_ne_true
      rw [e]
      exact rfl
end
section
variable {P : Program} {w : World} {K : PySem.W.Frag} {mg : Str → Option Value} {base : Heap} {C : Addr}
theorem scDr : FnScope ["chain", "numbers"] ["chain", "numbers"] (defScope sDrawn) := ⟨rfl, rfl, rfl, by decide +kernel, rfl, by decide +kernel, by decide +kernel⟩
def spDrawn (C : Addr) : Sp := fun vs H Q _ => ∃ (x l : Addr) (many : Nat) (ms : List Mv) (ns : List Int), vs = [.ref x, .ref l] ∧ ChainAt C H x many ms ∧ Good many ms ∧ H l = some (.lst (ns.map V.int)) ∧ NumsOk ms ns ∧
  ∀ v H', Same H H' → DrawnAt H' v many (rowsOf ms ns) → Q v H'
theorem ok_drawn {f fF fS fO fP fT : Addr} {fd fdF fdS fdO fdP fdT : FuncData} (F : Fun K "drawn" "drawn" sDrawn f fd) (FF : Fun K "drawn_from" "drawn_from" sDrawnFrom fF fdF) (bF : Binds K fdF ["chain", "begins", "numbers"] []) (gF : mg "drawn_from" = some (.ref fF)) (FS : Fun K "steps_of" "steps_of" sStepsOf fS fdS) (bS : Binds K fdS ["chain", "numbers"] []) (gS : mg "steps_of" = some (.ref fS))
    (FO : Fun K "_are_one" "_are_one" sAreOne fO fdO) (bO : Binds K fdO ["ends"] []) (gO : mg "_are_one" = some (.ref fO)) (T : ChM K C fP fT fdP fdT) (mr : mg "range" = none) (ml : mg "len" = none) (mL : mg "list" = none) (mS : mg "set" = none) :
    FnOk P w K mg base CX0 4 f fd ["chain", "numbers"] (spDrawn C) := by
  have GF : FnOk P w K mg base CX0 3 fF fdF ["chain", "begins", "numbers"] (spDf K C) := ok_drawnFrom FF FS bS gS FO bO gO T mr ml mL mS
  have GP : FnOk P w K mg base CX0 1 fP fdP ["self"] (spPlaces C) := ok_places T.FP T.cl T.nM
  refine F.ok scDr (fun vs H Q E h => ?_) (fun cdv A outer s H vs Q E hr h => ?_)
  · obtain ⟨x, l, many, ms, ns, rfl, _⟩ := h
    rfl
  · obtain ⟨x, l, many, ms, ns, rfl, hC, G, hl, hN, q⟩ := h
    have r1 : Room 1 _ := hr.mono (by decide)
    refine ⟨_, pss_one (ps_ret (pe_call GF hr (by rfl) gF FF.kp bF .nil pass0 (pa_cons (pv 0) (pa_cons (pe_listRg rfl (by rfl) mL (prg_1 (by rfl) mr (pe_meth0 (pv 0) T.cl T.hP GP r1 T.bP .nil pass0))) (pa_cons (pv 1) pa_nil))))), ?_⟩
    obtain ⟨dx, a0, ws, h1, h2, h3⟩ := id hC
    have m6 := G.m6
    have m1 := G.m1
    refine ⟨.ref x, rfl, .ref x, rfl, x, dx, _, rfl, h1, ch_no, x, many, ms, rfl, hC, _, rfl, RgOk.of_le (by omega) (by omega) (by omega) (by omega), fun e0 ne0 => ?_⟩
    rw [rg_ends]
    have s1 : Same H (upd H e0 (.lst (((List.range many).map fun (i : Nat) => (i : Int)).map V.int))) := same_new ne0
    refine ⟨.ref l, rfl, x, e0, l, many, ms, _, ns, rfl, hC.same s1, G, SqL.of upd_same, by rw [List.length_map, List.length_range]; omega, by rw [List.length_map, List.length_range]; omega, fun z hz => ?_, s1 _ _ hl, hN, fun v H' s2 hd => q v H' (s1.trans s2) (hd.all (rowsOf_good G hN))⟩
    obtain ⟨i, hi, rfl⟩ := List.mem_map.mp hz
    have := List.mem_range.mp hi
    omega
end
section
variable {P : Program} {w : World} {K : PySem.W.Frag} {mg : Str → Option Value} {base : Heap} {C : Addr}
theorem scTo : FnScope ["chain", "numbers"] ["chain", "numbers"] (defScope sTogether) := ⟨rfl, rfl, rfl, by decide +kernel, rfl, by decide +kernel, by decide +kernel⟩
def spTo (C : Addr) : Sp := fun vs H Q _ => ∃ (x l : Addr) (many : Nat) (ms : List Mv) (ns : List Int), vs = [.ref x, .ref l] ∧ ChainAt C H x many ms ∧ Good many ms ∧ H l = some (.lst (ns.map V.int)) ∧ NumsOk ms ns ∧
  ∀ e H', Same H H' → H e = none → H' e = some (.lst ((foldR many (rowsOf ms ns)).map V.int)) → Q (.ref e) H'
theorem ok_together {f fS fE fP fT : Addr} {fd fdS fdE fdP fdT : FuncData} (F : Fun K "together" "together" sTogether f fd) (FS : Fun K "steps_of" "steps_of" sStepsOf fS fdS) (bS : Binds K fdS ["chain", "numbers"] []) (gS : mg "steps_of" = some (.ref fS))
    (FE : Fun K "_ends" "_ends" sEnds fE fdE) (bE : Binds K fdE ["chain", "steps"] []) (gE : mg "_ends" = some (.ref fE)) (T : ChM K C fP fT fdP fdT) (mr : mg "range" = none) (ml : mg "len" = none) (mL : mg "list" = none) :
    FnOk P w K mg base CX0 3 f fd ["chain", "numbers"] (spTo C) := by
  have GS : FnOk P w K mg base CX0 2 fS fdS ["chain", "numbers"] (spSteps C) := ok_steps FS T mr ml mL
  have GE : FnOk P w K mg base CX0 2 fE fdE ["chain", "steps"] (spPe C) := ok_pends FE T mr mL
  refine F.ok scTo (fun vs H Q E h => ?_) (fun cdv A outer s H vs Q E hr h => ?_)
  · obtain ⟨x, l, many, ms, ns, rfl, _⟩ := h
    rfl
  · obtain ⟨x, l, many, ms, ns, rfl, hC, G, hl, hN, q⟩ := h
    refine ⟨_, pss_one (ps_ret (pe_call GE hr (by rfl) gE FE.kp bE .nil pass0 (pa_cons (pv 0) (pa_cons (pe_call GS hr (by rfl) gS FS.kp bS .nil pass0 (pa_cons (pv 0) (pa_cons (pv 1) pa_nil))) pa_nil)))), ?_⟩
    have m6 := G.m6
    refine ⟨.ref x, rfl, .ref x, rfl, .ref l, rfl, x, l, many, ms, ns, rfl, hC, hl, hN, G.l8, fun S H1 s1 nS hSt => ?_⟩
    exact ⟨x, S, many, ms, rowsOf ms ns, rfl, hC.same s1, m6, hSt, rowsOf_good G hN, fun e H2 s2 ne he => q e H2 (s1.trans s2) (s1.free ne) he⟩
end
section
variable {P : Program} {w : World} {K : PySem.W.Frag} {mg : Str → Option Value} {base : Heap} {C : Addr}
/-! ### tries -/
def TryAt (H : Hp) (p : Addr) (x : Nat × List Int) : Prop := ∃ q, H p = some (.tup [.int (x.1 : Int), .ref q]) ∧ H q = some (.lst (x.2.map V.int))
def TriesAt (H : Hp) (t : Addr) (tr : List (Nat × List Int)) : Prop := ∃ ps : List Addr, H t = some (.lst (ps.map V.ref)) ∧ Paired (TryAt H) ps tr
def TryNe (T : Addr) (H : Hp) (p : Addr) (x : Nat × List Int) : Prop := ∃ q, q ≠ T ∧ H p = some (.tup [.int (x.1 : Int), .ref q]) ∧ H q = some (.lst (x.2.map V.int))
theorem TryNe.at {T : Addr} {H : Hp} {p : Addr} {x : Nat × List Int} (h : TryNe T H p x) : TryAt H p x := let ⟨q, _, a, b⟩ := h; ⟨q, a, b⟩
theorem cutTo (xs : List V) (n : Nat) : cutV xs none (some ((n : Nat) : Int)) = xs.take n := by
  unfold cutV
  rw [HT.sIx_none, HT.sIx_nat, List.drop_zero, Nat.sub_zero]
  by_cases h : n ≤ xs.length
  · rw [Nat.min_eq_left h]
  · rw [Nat.min_eq_right (by omega), List.take_of_length_le (Nat.le_refl _), List.take_of_length_le (by omega)]
theorem TryAt.same {H H' : Hp} {p : Addr} {x : Nat × List Int} (s : Same H H') (h : TryAt H p x) : TryAt H' p x := by
  obtain ⟨q, a, b⟩ := h
  exact ⟨q, s _ _ a, s _ _ b⟩
theorem TriesAt.same {H H' : Hp} {t : Addr} {tr : List (Nat × List Int)} (s : Same H H') (h : TriesAt H t tr) : TriesAt H' t tr := by
  obtain ⟨ps, a, b⟩ := h
  exact ⟨ps, s _ _ a, L2.Paired.mapP b fun _ _ e => e.same s⟩
theorem scTr : FnScope ["chain", "numbers", "steps", "told", "far", "ends"] ["chain", "numbers"] (defScope sTries) := ⟨rfl, rfl, rfl, by decide +kernel, rfl, by decide +kernel, by decide +kernel⟩
def spTries (C : Addr) : Sp := fun vs H Q _ => ∃ (x l : Addr) (many : Nat) (ms : List Mv) (ns : List Int), vs = [.ref x, .ref l] ∧ ChainAt C H x many ms ∧ Good many ms ∧ H l = some (.lst (ns.map V.int)) ∧ NumsOk ms ns ∧
  ∀ t H' tr, Same H H' → H t = none → TriesAt H' t tr → Tried (endsK many (rowsOf ms ns)) ns.length tr → Q (.ref t) H'
theorem steps_take {H : Hp} {S c : Addr} {rows : List (List Int)} {qs : List Addr} {k : Nat} (hp : Paired (fun q row => H q = some (.tup (row.map V.int))) qs rows) (hc : H c = some (.lst ((qs.map V.ref).take k).reverse)) : StepsAt H c (rows.take k).reverse := by
  refine ⟨(qs.take k).reverse, by rw [List.map_reverse, List.map_take]; exact hc, ?_⟩
  have take : ∀ {l₁ : List Addr} {l₂ : List (List Int)} (k : Nat), Paired (fun q row => H q = some (.tup (row.map V.int))) l₁ l₂ → Paired (fun q row => H q = some (.tup (row.map V.int))) (l₁.take k) (l₂.take k) := by
    intro l₁ l₂ k h
    induction h generalizing k with
    | nil => rw [List.take_nil, List.take_nil]; exact .nil
    | cons a _ ih =>
      cases k with
      | zero => exact .nil
      | succ k => exact .cons a (ih k)
  have rev : ∀ {l₁ : List Addr} {l₂ : List (List Int)}, Paired (fun q row => H q = some (.tup (row.map V.int))) l₁ l₂ → Paired (fun q row => H q = some (.tup (row.map V.int))) l₁.reverse l₂.reverse := by
    intro l₁ l₂ h
    induction h with
    | nil => exact .nil
    | cons a _ ih =>
      rw [List.reverse_cons, List.reverse_cons]
      exact paired_end (F := fun q (row : List Int) => H q = some (.tup (row.map V.int))) a ih
  exact rev (take k hp)
theorem ok_tries {f fS fO fE fP fT : Addr} {fd fdS fdO fdE fdP fdT : FuncData} (F : Fun K "tries" "tries" sTries f fd) (FS : Fun K "steps_of" "steps_of" sStepsOf fS fdS) (bS : Binds K fdS ["chain", "numbers"] []) (gS : mg "steps_of" = some (.ref fS))
    (FO : Fun K "_are_one" "_are_one" sAreOne fO fdO) (bO : Binds K fdO ["ends"] []) (gO : mg "_are_one" = some (.ref fO)) (FE : Fun K "_ends" "_ends" sEnds fE fdE) (bE : Binds K fdE ["chain", "steps"] []) (gE : mg "_ends" = some (.ref fE))
    (T : ChM K C fP fT fdP fdT) (mr : mg "range" = none) (ml : mg "len" = none) (mL : mg "list" = none) (mS : mg "set" = none) (mo : mg "sorted" = none) :
    FnOk P w K mg base CX0 3 f fd ["chain", "numbers"] (spTries C) := by
  have GS : FnOk P w K mg base CX0 2 fS fdS ["chain", "numbers"] (spSteps C) := ok_steps FS T mr ml mL
  have GE : FnOk P w K mg base CX0 2 fE fdE ["chain", "steps"] (spPe C) := ok_pends FE T mr mL
  have GO : FnOk P w K mg base CX0 1 fO fdO ["ends"] (spOne K) := ok_one FO ml mS
  refine F.ok scTr (fun vs H Q E h => ?_) (fun cdv A outer s H vs Q E hr h => ?_)
  · obtain ⟨x, l, many, ms, ns, rfl, _⟩ := h
    rfl
  · obtain ⟨x, l, many, ms, ns, rfl, hC, G, hl, hN, q⟩ := h
    have r1 : Room 1 _ := hr.mono (by decide)
    refine ⟨_, pss_cons (ps_set (i := 2) scTr.nd rfl (.inl rfl) (pe_call GS hr (by rfl) gS FS.kp bS .nil pass0 (pa_cons (pv 0) (pa_cons (pv 1) pa_nil))))
      (pss_cons (ps_set (i := 3) scTr.nd rfl (.inl rfl) (pe_lst pa_nil))
      (pss_cons (ps_set (i := 4) scTr.nd rfl (.inl rfl) pe_int)
      (pss_cons (ps_while PassesOwn.never (pt_cmpR op_le (pv 4) (pe_callB call_len_seq (by rfl) ml PySem.boot_len (pa_cons (pv 2) pa_nil)) (nomark _))
        (pss_cons (ps_set (i := 5) scTr.nd rfl (.inl rfl) (pe_call GE hr (by rfl) gE FE.kp bE .nil pass0 (pa_cons (pv 0) (pa_cons (pe_revL (pe_slice sl_list (pv 2) po_none (po_some (pv 4)))) pa_nil))))
        (pss_cons (ps_expr (pe_bm PySem.F.plainAttrs_list PySem.F.slot_list_append PySem.F.type_list_append mt_append (pv 3) (pa_cons (pe_tup (pa_cons (pv 4) (pa_cons (pe_sset (by rfl) mo (by rfl) mS (pv 5)) pa_nil))) pa_nil)))
        (pss_cons (ps_if (pt_val (pe_call GO r1 (by rfl) gO FO.kp bO .nil pass0 (pa_cons (pv 5) pa_nil))) (pss_one (ps_ret (pv 3))) pss_nil)
        (pss_one (ps_aug (i := 4) scTr.nd rfl (.inl rfl) pe_int iop_mul))))))
      (pss_one (ps_ret (pv 3)))))), ?_⟩
    have h8 := G.l8
    have m6 := G.m6
    have m1 := G.m1
    refine ⟨.ref x, rfl, .ref l, rfl, x, l, many, ms, ns, rfl, hC, hl, hN, h8, fun S H1 s1 nS hSt => ?_⟩
    have hC1 := hC.same s1
    obtain ⟨qs, hS, hp⟩ := hSt
    have gR := rowsOf_good G hN
    have lenR : (rowsOf ms ns).length = ns.length := by
      unfold rowsOf
      rw [List.length_map]
    have lenQ : qs.length = (rowsOf ms ns).length := hp.length
    have n1000 := hN.1
    have gE := endsK_good gR
    refine ⟨(by show 0 ≤ sizeLine; exact Nat.zero_le _), fun T nT => ?_⟩
    have s2 : Same H1 (upd H1 T (.lst [])) := same_new nT
    generalize hE : endsK many (rowsOf ms ns) = E at *
    refine while_by (fun σ H' => ∃ (i : Nat) (ps : List Addr) (tr : List (Nat × List Int)) (y5 : Option V), σ = [some (.ref x), some (.ref l), some (.ref S), some (.ref T), some (.int ((2 ^ i : Nat) : Int)), y5] ∧ Same H1 H' ∧ H' T = some (.lst (ps.map V.ref)) ∧ Paired (TryNe T H') ps tr ∧ tr.length = i ∧ 2 ^ i ≤ 2000 ∧
        (∀ j y, tr[j]? = some y → y.1 = 2 ^ j ∧ 2 ^ j ≤ ns.length ∧ Rise y.2 (E (2 ^ j))) ∧ ∀ j, j < i → one (E (2 ^ j)) = false)
      (fun σ _ => match σ with | [_, _, _, _, some (.int k), _] => 4000 - k.toNat | _ => 0)
      ⟨0, [], [], none, rfl, s2, upd_same, .nil, rfl, (by decide), fun j y e => by simp at e, fun j hj => absurd hj (Nat.not_lt_zero _)⟩ ?_ ?_
    · rintro σ H2 ⟨i, ps, tr, y5, rfl, s3, hT, hP, hi, h2k, hT1, hT2⟩
      have hS2 := s3 _ _ hS
      have lenP : ps.length = i := hP.length.trans hi
      have pos : 0 < 2 ^ i := Nat.pow_pos (by decide)
      have i64 : i ≤ 11 := by
        by_cases c : i ≤ 11
        · exact c
        · have : 2 ^ 12 ≤ 2 ^ i := Nat.pow_le_pow_right (by decide) (by omega)
          have e : (2 : Nat) ^ 12 = 4096 := by decide
          omega
      refine ⟨.int ((2 ^ i : Nat) : Int), rfl, .ref S, rfl, S, _, rfl, .inl (SqL.of hS2), _, _, rfl, rfl, _, rfl, ite2 (fun c => ?_) (fun c => ?_)⟩
      · have hle : 2 ^ i ≤ ns.length := by
          have := of_decide_eq_true c
          rw [List.length_map, lenQ, lenR] at this
          omega
        have gk : GoodRow many (E (2 ^ i)) := gE _ (by rw [lenR]; exact hle)
        have h64 : (E (2 ^ i)).length < 64 := by rw [gk.1]; omega
        refine ⟨.ref x, rfl, .ref S, rfl, .int ((2 ^ i : Nat) : Int), rfl, _, rfl, S, _, rfl, SqL.of hS2, fun c nc => ?_⟩
        rw [cutTo]
        have s4 : Same H2 (upd H2 c (.lst ((qs.map V.ref).take (2 ^ i)))) := same_new nc
        refine ⟨c, _, rfl, SqL.of upd_same, fun r nr => ?_⟩
        have s5 : Same (upd H2 c (.lst ((qs.map V.ref).take (2 ^ i)))) (upd (upd H2 c (.lst ((qs.map V.ref).take (2 ^ i)))) r (.lst ((qs.map V.ref).take (2 ^ i)).reverse)) := same_new nr
        have s45 := s4.trans s5
        have hr5 : (upd (upd H2 c (.lst ((qs.map V.ref).take (2 ^ i)))) r (.lst ((qs.map V.ref).take (2 ^ i)).reverse)) r = some (.lst ((qs.map V.ref).take (2 ^ i)).reverse) := upd_same
        generalize upd (upd H2 c (.lst ((qs.map V.ref).take (2 ^ i)))) r (.lst ((qs.map V.ref).take (2 ^ i)).reverse) = H5 at s45 hr5 ⊢
        have s35 := s3.trans s45
        have hp5 : Paired (fun q row => H5 q = some (.tup (row.map V.int))) qs (rowsOf ms ns) := L2.Paired.mapP hp fun _ _ e => s35 _ _ e
        refine ⟨x, r, many, ms, _, rfl, hC1.same s35, m6, steps_take (S := S) hp5 hr5, fun z hz => gR z (List.mem_of_mem_take (List.mem_reverse.mp hz)), fun e H6 s6 ne he => ?_⟩
        rw [foldR_back gR (2 ^ i) (by rw [lenR]; exact hle), hE] at he
        have hT6 := (s45.trans s6) _ _ hT
        refine ⟨.ref T, rfl, .inl ⟨rfl, _, SqL.of hT6⟩, .int ((2 ^ i : Nat) : Int), rfl, .ref e, rfl, e, _, rfl, SqL.of he, h64, fun p xs cn hx hm hcn hc64 np => ?_⟩
        refine ⟨(by show 2 ≤ sizeLine; decide), fun tp ntp => ?_⟩
        have s7 : Same H6 (upd H6 p (.lst (xs.map V.int))) := same_new np
        have s8 : Same (upd H6 p (.lst (xs.map V.int))) (upd (upd H6 p (.lst (xs.map V.int))) tp (.tup [.int ((2 ^ i : Nat) : Int), .ref p])) := same_new ntp
        have s78 := s7.trans s8
        have hp8 := s8 _ _ (upd_same : (upd H6 p (.lst (xs.map V.int))) p = _)
        have htp8 : (upd (upd H6 p (.lst (xs.map V.int))) tp (.tup [.int ((2 ^ i : Nat) : Int), .ref p])) tp = some (.tup [.int ((2 ^ i : Nat) : Int), .ref p]) := upd_same
        have nTp : p ≠ T := fun z => by rw [z, hT6] at np; cases np
        generalize upd (upd H6 p (.lst (xs.map V.int))) tp (.tup [.int ((2 ^ i : Nat) : Int), .ref p]) = H8 at s78 hp8 htp8 ⊢
        have hT8 := s78 _ _ hT6
        have he8 := s78 _ _ he
        have neT : e ≠ T := fun z => by rw [z, s45 _ _ hT] at ne; cases ne
        have s28 := (s45.trans s6).trans s78
        refine ⟨T, _, _, rfl, rfl, hT8, by rw [List.length_map, lenP]; exact small1k (by omega), ?_⟩
        have s19 : Same H1 (upd H8 T (.lst (ps.map V.ref ++ [.ref tp]))) := fun b o eb => by
          rw [upd_ne (ne_of_none eb nT)]
          exact (s3.trans s28) b o eb
        have hP9 : Paired (TryNe T (upd H8 T (.lst (ps.map V.ref ++ [.ref tp])))) (ps ++ [tp]) (tr ++ [(2 ^ i, xs)]) := by
          have off : ∀ {b o}, H8 b = some o → b ≠ T → (upd H8 T (.lst (ps.map V.ref ++ [.ref tp]))) b = some o := fun e n => by rw [upd_ne n]; exact e
          have neTup : ∀ {b vs}, H8 b = some (.tup vs) → b ≠ T := fun e z => by rw [z, hT8] at e; cases e
          refine paired_end ⟨p, nTp, off htp8 (neTup htp8), off hp8 nTp⟩ (L2.Paired.mapP hP fun a y hy => ?_)
          obtain ⟨qq, nq, y1, y2⟩ := hy
          exact ⟨qq, nq, off (s28 _ _ y1) (neTup (s28 _ _ y1)), off (s28 _ _ y2) nq⟩
        have hT9 : (upd H8 T (.lst (ps.map V.ref ++ [.ref tp]))) T = some (.lst ((ps ++ [tp]).map V.ref)) := by
          rw [upd_same, List.map_append]
          rfl
        have he9 : (upd H8 T (.lst (ps.map V.ref ++ [.ref tp]))) e = some (.lst ((E (2 ^ i)).map V.int)) := by
          rw [upd_ne neT]
          exact he8
        generalize upd H8 T (.lst (ps.map V.ref ++ [.ref tp])) = H9 at s19 hP9 hT9 he9 ⊢
        have lenT : (tr ++ [(2 ^ i, xs)]).length = i + 1 := by rw [List.length_append, hi]; rfl
        have all : ∀ j y, (tr ++ [(2 ^ i, xs)])[j]? = some y → y.1 = 2 ^ j ∧ 2 ^ j ≤ ns.length ∧ Rise y.2 (E (2 ^ j)) := by
          intro j y hy
          by_cases hj : j < tr.length
          · rw [List.getElem?_append_left hj] at hy
            exact hT1 j y hy
          · rw [List.getElem?_append_right (by omega)] at hy
            have ej : j = i := by
              have := (List.getElem?_eq_some_iff.mp hy).1
              simp at this
              omega
            subst ej
            rw [hi, Nat.sub_self] at hy
            cases hy
            exact ⟨rfl, hle, hx, hm⟩
        refine ⟨.ref e, rfl, e, _, rfl, he9, h64, _, rfl, ?_⟩
        cases ho : one (E (2 ^ i)) with
        | true =>
          refine (if_pos rfl).mpr ⟨.ref T, rfl, q T H9 _ (s1.trans s19) (s1.free nT) ⟨_, hT9, L2.Paired.mapP hP9 fun _ _ e => e.at⟩ ⟨all, fun j hj => hT2 j (by omega), .inr ⟨i, lenT, ho⟩⟩⟩
        | false =>
          refine (if_neg Bool.false_ne_true).mpr ⟨.int ((2 ^ i : Nat) : Int), rfl, ((2 ^ i : Nat) : Int), 2, rfl, rfl, ?_, ⟨i + 1, ps ++ [tp], tr ++ [(2 ^ i, xs)], some (.ref e), ?_, s19, hT9, hP9, lenT, ?_, all, fun j hj => ?_⟩, ?_⟩
          · exact .inl ⟨by omega, by omega⟩
          · show [some (V.ref x), some (.ref l), some (.ref S), some (.ref T), some (.int (((2 ^ i : Nat) : Int) * 2)), some (.ref e)] = _
            rw [Nat.pow_succ, Int.natCast_mul]
            rfl
          · rw [Nat.pow_succ]
            omega
          · by_cases hji : j < i
            · exact hT2 j hji
            · have ej : j = i := by omega
              rw [ej]
              exact ho
          · show 4000 - (((2 ^ i : Nat) : Int) * 2).toNat < 4000 - (((2 ^ i : Nat) : Int)).toNat
            omega
      · have hgt : ns.length < 2 ^ i := by
          have h9 : ¬ (((2 ^ i : Nat) : Int) ≤ ((qs.map V.ref).length : Int)) := fun z => c (decide_eq_true z)
          rw [List.length_map, lenQ, lenR] at h9
          omega
        exact ⟨.ref T, rfl, q T H2 _ (s1.trans s3) (s1.free nT) ⟨_, hT, L2.Paired.mapP hP fun _ _ e => e.at⟩ ⟨hT1, fun j hj => hT2 j (by omega), .inl (by rw [hi]; exact hgt)⟩⟩
    · rintro σ H2 Q1 Q2 hq ⟨v, e1, u, e2, p, ys, e3, e4, i, j, e5, e6, b, e7, h⟩
      exact ⟨v, e1, u, e2, p, ys, e3, e4, i, j, e5, e6, b, e7, hq _ _ h⟩
end
/-! ### chances -/
theorem sum_map_add {α : Type} : ∀ (l : List α) (f g : α → Int), (l.map fun x => f x + g x).sum = (l.map f).sum + (l.map g).sum
  | [], _, _ => rfl
  | a :: l, f, g => by
    have ih := sum_map_add l f g
    simp only [List.map_cons, List.sum_cons, ih]
    omega
theorem sum_zero : ∀ (l : List Nat), (l.map fun _ => (0 : Int)).sum = 0
  | [] => rfl
  | _ :: l => by
    simp only [List.map_cons, List.sum_cons, sum_zero l]
    rfl
theorem sum_none : ∀ (n k : Nat) (c : Int), n ≤ k → ((List.range n).map fun e => if some ((k : Nat) : Int) = some ((e : Nat) : Int) then c else 0).sum = 0
  | 0, _, _, _ => rfl
  | n + 1, k, c, h => by
    rw [List.range_succ, List.map_append, List.sum_append, sum_none n k c (by omega)]
    have : ¬ some ((k : Nat) : Int) = some ((n : Nat) : Int) := fun q => by
      have := Option.some.inj q
      omega
    simp [this]
    omega
theorem sum_ind : ∀ (n k : Nat) (c : Int), k < n → ((List.range n).map fun e => if some ((k : Nat) : Int) = some ((e : Nat) : Int) then c else 0).sum = c
  | 0, _, _, h => absurd h (Nat.not_lt_zero _)
  | n + 1, k, c, h => by
    rw [List.range_succ, List.map_append, List.sum_append]
    by_cases e : k = n
    · subst e
      rw [sum_none k k c (Nat.le_refl _)]
      simp
    · rw [sum_ind n k c (by omega)]
      have : ¬ some ((k : Nat) : Int) = some ((n : Nat) : Int) := fun q => by
        have := Option.some.inj q
        omega
      simp [this]
      omega
theorem sum_cnt {many b : Nat} (hb : b < many) : ∀ {ms : List Mv}, (∀ m ∈ ms, GoodMv many m) → ((List.range many).map (cnt ms b)).sum = tot ms
  | [], _ => by
    show ((List.range many).map fun _ => (0 : Int)).sum = 0
    exact sum_zero _
  | m :: ms, h => by
    have ih := sum_cnt hb (ms := ms) fun x hx => h x (List.mem_cons_of_mem _ hx)
    have ef : cnt (m :: ms) b = fun e => (if m.2[b]? = some ((e : Nat) : Int) then m.1 else 0) + cnt ms b e := by
      funext e
      unfold cnt
      rw [List.map_cons, List.sum_cons]
    rw [ef, sum_map_add, ih]
    obtain ⟨_, _, hl, hx⟩ := h m List.mem_cons_self
    have hb2 : b < m.2.length := by omega
    obtain ⟨h0, h1⟩ := hx m.2[b] (List.getElem_mem hb2)
    obtain ⟨k, ek⟩ : ∃ k : Nat, m.2[b] = (k : Int) := ⟨m.2[b].toNat, by omega⟩
    rw [List.getElem?_eq_getElem hb2, ek, sum_ind many k m.1 (by omega)]
    unfold tot
    rw [List.map_cons, List.sum_cons]
def FracRow (H : Hp) (l : Addr) (ps : List (Int × Int)) : Prop := ∃ us, H l = some (.lst us) ∧ Paired (FracAt H) us ps
theorem FracRow.same {H H' : Hp} {l : Addr} {ps : List (Int × Int)} (s : Same H H') (h : FracRow H l ps) : FracRow H' l ps := by
  obtain ⟨us, e, p⟩ := h
  exact ⟨us, s _ _ e, L2.Paired.mapP p fun _ _ q => q.same s⟩
def ChanAt (H : Hp) (L : Addr) (pss : List (List (Int × Int))) : Prop := ∃ ls : List Addr, H L = some (.lst (ls.map V.ref)) ∧ Paired (FracRow H) ls pss
def chanOf (many : Nat) (ms : List Mv) : List (List (Int × Int)) := (List.range many).map fun b => (List.range many).map fun e => frac (cnt ms b e) (tot ms)
theorem paired_snoc21 {α β : Type} {F : α → β → Prop} {a : α} {b : β} (h : F a b) : ∀ {l₁ : List α} {l₂ : List β}, Paired F l₁ l₂ → Paired F (l₁ ++ [a]) (l₂ ++ [b])
  | _, _, .nil => .cons h .nil
  | _, _, .cons q t => .cons q (paired_snoc21 h t)
theorem take_map_range21 {β : Type} {n i : Nat} (f : Nat → β) (h : i < n) : ((List.range n).map f).take (i + 1) = ((List.range n).map f).take i ++ [f i] := by
  rw [List.take_add_one, List.getElem?_map, List.getElem?_range h]
  rfl
section
variable {P : Program} {w : World} {K : PySem.W.Frag} {mg : Str → Option Value} {base : Heap} {C : Addr}
def spChances (C : Addr) : Sp := fun vs H Q _ => ∃ (x : Addr) (many : Nat) (ms : List Mv), vs = [.ref x] ∧ ChainAt C H x many ms ∧ Good many ms ∧ ∀ L H', Same H H' → H L = none → ChanAt H' L (chanOf many ms) → Q (.ref L) H'
def retE (st : Stmt) : Expr := match defBody st with
  | [.Return (some e) _] => e
  | _ => .Constant .none 0 ⟨0, 0, 0, 0⟩
def lcScope (e : Expr) : Scope := match e with
  | .ListComp _ _ sc _ => sc
  | _ => { kind := .function, names := [], isGenerator := false, isCoroutine := false }
def nCh : List Str := ["chain", "row", "weight"]
theorem scCh : FnScope ["chain", "row", "weight"] ["chain"] (defScope sChances) := ⟨rfl, rfl, rfl, by decide +kernel, rfl, by decide +kernel, by decide +kernel⟩
theorem ok_chances {f fW fF fP fT : Addr} {fd fdW fdF fdP fdT : FuncData} (F : Fun K "chances" "chances" sChances f fd) (FW : Fun K "_weights" "_weights" sWeights fW fdW) (bW : Binds K fdW ["chain"] []) (gW : mg "_weights" = some (.ref fW))
    (FF : Fun K "fraction" "fraction" sFraction fF fdF) (bF : Binds K fdF ["top", "bottom"] []) (gF : mg "fraction" = some (.ref fF)) (mgcd : mg "gcd" = some (.builtin "math.gcd")) (T : ChM K C fP fT fdP fdT) (mr : mg "range" = none) (me : mg "enumerate" = none) (mL : mg "list" = none) (msum : mg "sum" = none) :
    FnOk P w K mg base CX0 3 f fd ["chain"] (spChances C) := by
  have GW : FnOk P w K mg base CX0 2 fW fdW ["chain"] (spWeights C) := ok_weights FW T mr me mL
  have GF : FnOk P w K mg base CX0 1 fF fdF ["top", "bottom"] spFrZ := ok_fractionZ FF mgcd
  refine F.ok scCh (fun vs H Q E h => ?_) (fun cdv A outer s H vs Q E hr h => ?_)
  · obtain ⟨x, many, ms, rfl, _⟩ := h
    rfl
  · obtain ⟨x, many, ms, rfl, hC, G, q⟩ := h
    have hr1 : Room 1 _ := hr.mono (by decide)
    refine ⟨_, pss_one (ps_ret (pe_lc (own := [("row", 1)]) (g := gName 1) (tt := tYes) (te := tLc (iList K (tVar 1)) (gName 2) tYes (tCall spFrZ [] E0 (tCons (tVar 2) (tCons (tCB (rSum K) (tCons (tVar 1) tNil)) tNil))) [2]) rfl scCh.nd (pi_list (pe_call GW hr (by rfl) gW FW.kp bW .nil pass0 (pa_cons (pv 0) pa_nil))) (blkOk_by (N := nCh) (sc := defScope sChances) (by decide +kernel))
        (fun _ _ _ _ _ => pg_name (i := 1) scCh.nd rfl (.inr rfl)) (fun _ _ _ _ _ => pts_nil)
        (fun _ _ _ _ _ => by exact (pe_lc (own := [("weight", 2)]) (g := gName 2) (tt := tYes) (te := tCall spFrZ [] E0 (tCons (tVar 2) (tCons (tCB (rSum K) (tCons (tVar 1) tNil)) tNil))) rfl scCh.nd (pi_list (pv 1)) (blkOk_by (N := nCh) (sc := lcScope (retE sChances)) (by decide +kernel))
          (fun _ _ _ _ _ => pg_name (i := 2) scCh.nd rfl (.inl rfl)) (fun _ _ _ _ _ => pts_nil)
          (fun _ _ _ _ _ => by exact (pe_call GF hr1 (by rfl) gF FF.kp bF .nil pass0 (pa_cons (pv 2) (pa_cons (by exact (pe_callB (cr_sum rfl) (by rfl) msum (by decide +kernel) (pa_cons (pv 1) pa_nil))) pa_nil)))))))), ?_⟩
    obtain ⟨tp, t792⟩ := tot_pos G
    refine ⟨.ref x, rfl, x, many, ms, rfl, hC, G, fun R as H1 s1 RA => ?_⟩
    refine ⟨R, rfl, ⟨_, SqL.of RA.at_⟩, fun D nD => ?_⟩
    have nDH : H D = none := s1.free nD
    refine lc_list (K := K) (a := R) (xs := as.map V.ref) (fun i H' => Same H1 H' ∧ ∃ ls : List Addr, ls.length = i ∧ H' D = some (.lst (ls.map V.ref)) ∧ Paired (FracRow H') ls ((chanOf many ms).take i) ∧ D ∉ ls)
      ⟨same_new nD, [], rfl, upd_same, .nil, (fun z => nomatch z)⟩ (fun i H' _ h => SqL.of (h.1 _ _ RA.at_)) ?_ ?_
    · rintro i v H2 hv ⟨s2, ls, el, hD, hp, nDl⟩
      rw [List.getElem?_map] at hv
      obtain ⟨a, ha, rfl⟩ := Option.map_eq_some_iff.mp hv
      have hi : i < many := by
        obtain ⟨q, _⟩ := List.getElem?_eq_some_iff.mp ha
        rw [RA.len] at q
        exact q
      have hrow := s2 _ _ (RA.row i a ha)
      refine ⟨rfl, .ref a, rfl, a, rfl, ⟨_, SqL.of hrow⟩, fun D2 nD2 => ?_⟩
      refine lc_list (K := K) (a := a) (xs := rowV many (cnt ms i)) (fun j H' => Same H2 H' ∧ ∃ us : List V, us.length = j ∧ H' D2 = some (.lst us) ∧ Paired (FracAt H') us (((List.range many).map fun e => frac (cnt ms i e) (tot ms)).take j))
        ⟨same_new nD2, [], rfl, upd_same, .nil⟩ (fun j H' _ h => SqL.of (h.1 _ _ hrow)) ?_ ?_
      · rintro j y H3 hy ⟨s3, us, eu, hD2, hp2⟩
        have hj : j < many := by
          obtain ⟨q, _⟩ := List.getElem?_eq_some_iff.mp hy
          rw [rowV_len] at q
          exact q
        rw [rowV_get hj] at hy
        cases hy
        have hrow3 := s3 _ _ hrow
        have eI : rowV many (cnt ms i) = ((List.range many).map (cnt ms i)).map V.int := by
          unfold rowV
          rw [List.map_map]
          rfl
        rw [eI] at hrow3
        refine ⟨rfl, .int (cnt ms i j), rfl, .ref a, rfl, a, (List.range many).map (cnt ms i), rfl, SqL.of hrow3, cnt ms i j, tot ms, ?_, by omega, Nat.lt_of_le_of_lt (show (tot ms).natAbs ≤ 2 ^ 10 by rw [show (2 : Nat) ^ 10 = 1024 from rfl]; omega) (Nat.pow_lt_pow_right (by decide) (by decide)), fun t nt => ?_⟩
        · rw [sum_cnt hi G.mv]
          rfl
        · rw [fracZ_pos tp]
          have s4 := same_new (o := .tup [.int (frac (cnt ms i j) (tot ms)).1, .int (frac (cnt ms i j) (tot ms)).2]) nt
          refine ⟨us, s4 _ _ hD2, by rw [eu]; exact small8 (by have := G.m6; omega), ?_⟩
          have neD2 : ∀ {b u}, H2 b = some u → b ≠ D2 := fun e => ne_of_none e nD2
          refine ⟨fun b u e => by rw [upd_ne (neD2 e)]; exact s4 _ _ (s3 _ _ e), us ++ [.ref t], by rw [List.length_append, eu]; rfl, upd_same, ?_⟩
          rw [take_map_range21 _ hj]
          have ntD : t ≠ D2 := (ne_of_none hD2 nt).symm
          have mv : ∀ v p, FracAt H3 v p → FracAt (upd (upd H3 t (.tup [.int (frac (cnt ms i j) (tot ms)).1, .int (frac (cnt ms i j) (tot ms)).2])) D2 (.lst (us ++ [.ref t]))) v p := fun v p ⟨tt, e1, e2⟩ => by
            refine ⟨tt, e1, ?_⟩
            rw [upd_ne]
            · exact s4 _ _ e2
            · intro z
              rw [z, hD2] at e2
              cases e2
          refine paired_snoc21 ⟨t, rfl, ?_⟩ (L2.Paired.mapP hp2 fun v p q => mv v p q)
          rw [upd_ne ntD]
          exact upd_same
      · rintro H3 ⟨s3, us, eu, hD2, hp2⟩
        rw [rowV_len, List.take_of_length_le (by rw [List.length_map, List.length_range]; exact Nat.le_refl _)] at hp2
        have nD2' : D2 ≠ D := (ne_of_none hD nD2).symm
        have nD2l : D2 ∉ ls := fun z => by
          have : ∀ {l₁ : List Addr} {l₂ : List (List (Int × Int))}, Paired (FracRow H2) l₁ l₂ → D2 ∈ l₁ → False := by
            intro l₁ l₂ hq
            induction hq with
            | nil => intro h; cases h
            | cons h t ih =>
              intro hm
              rcases List.mem_cons.mp hm with e | e
              · obtain ⟨us', e', _⟩ := h
                rw [← e, nD2] at e'
                cases e'
              · exact ih e
          exact this hp z
        refine ⟨ls.map V.ref, s3 _ _ hD, by rw [List.length_map, el]; exact small8 (by have := G.m6; omega), ?_⟩
        have mvF : ∀ v p, FracAt H3 v p → FracAt (upd H3 D (.lst (ls.map V.ref ++ [.ref D2]))) v p := fun v p ⟨tt, e1, e2⟩ => by
          refine ⟨tt, e1, ?_⟩
          rw [upd_ne]
          · exact e2
          · intro z
            rw [z, s3 _ _ hD] at e2
            cases e2
        have mvR : ∀ l ps, l ≠ D → FracRow H3 l ps → FracRow (upd H3 D (.lst (ls.map V.ref ++ [.ref D2]))) l ps := fun l ps nl ⟨us', e1, e2⟩ => ⟨us', by rw [upd_ne nl]; exact e1, L2.Paired.mapP e2 fun v p q => mvF v p q⟩
        refine ⟨fun b u e => by rw [upd_ne (ne_of_none e nD)]; exact s3 _ _ (s2 _ _ e), ls ++ [D2], by rw [List.length_append, el]; rfl, by rw [upd_same, List.map_append]; rfl, ?_, ?_⟩
        · have et : (chanOf many ms).take (i + 1) = (chanOf many ms).take i ++ [(List.range many).map fun e => frac (cnt ms i e) (tot ms)] := take_map_range21 _ hi
          rw [et]
          refine paired_snoc21 (mvR D2 _ nD2' ⟨us, hD2, hp2⟩) ?_
          have : ∀ {l₁ : List Addr} {l₂ : List (List (Int × Int))}, D ∉ l₁ → Paired (FracRow H2) l₁ l₂ → Paired (FracRow (upd H3 D (.lst (ls.map V.ref ++ [.ref D2])))) l₁ l₂ := by
            intro l₁ l₂ hn hq
            induction hq with
            | nil => exact .nil
            | cons h t ih => exact .cons (mvR _ _ (fun z => hn (z ▸ List.mem_cons_self)) (h.same s3)) (ih fun z => hn (List.mem_cons_of_mem _ z))
          exact this nDl hp
        · intro z
          rcases List.mem_append.mp z with z | z
          · exact nDl z
          · have e : D = D2 := by simpa using z
            exact nD2' e.symm
    · rintro H2 ⟨s2, ls, el, hD, hp, nDl⟩
      rw [List.length_map, RA.len, List.take_of_length_le (by unfold chanOf; rw [List.length_map, List.length_range]; exact Nat.le_refl _)] at hp
      exact q D H2 (s1.trans s2) nDH ⟨ls, hD, hp⟩
end
section
variable {P : Program} {w : World} {K : PySem.W.Frag} {mg : Str → Option Value} {base : Heap}
/-! ### _law_numbers -/
def nNu : List Str := ["_law_d", "_law_moves", "_law_most", "_law_k"]
theorem scNu : FnScope ["_law_d", "_law_moves", "_law_most", "_law_k"] ["_law_d", "_law_moves", "_law_most"] (defScope sNumbers) := ⟨rfl, rfl, rfl, by decide +kernel, rfl, by decide +kernel, by decide +kernel⟩
def spNu (K : PySem.W.Frag) : Sp := fun vs H Q _ => ∃ (d l m : Addr) (most : Nat) (ns : List Int) (ws : List V), vs = [.ref d, .ref m, .int ((most : Nat) : Int)] ∧ Dc K l ns H d ∧ H m = some (.lst ws) ∧ m ≠ d ∧ 1 ≤ ws.length ∧ ws.length ≤ 8 ∧ most ≤ 900 ∧
  ∀ (r : Addr) (zs : List Int) H', Dc K l ns H' d → Gr d H H' → H r = none → r ≠ d → H' r = some (.lst (zs.map V.int)) → zs.length ≤ most → (∀ z ∈ zs, 0 ≤ z ∧ z < (ws.length : Int)) → Q (.ref r) H'
theorem small900 {n : Nat} (h : n ≤ 900) : n < sizeLine := Nat.lt_of_le_of_lt h (by decide)
theorem ok_numbers {f fC fD fO : Addr} {fd fdC fdD fdO : FuncData} (F : Fun K "_law_numbers" "_law_numbers" sNumbers f fd) (T : LawTxt K mg fC fD fO fdC fdD fdO) : FnOk P w K mg base CX0 3 f fd ["_law_d", "_law_moves", "_law_most"] (spNu K) := by
  have GO : FnOk P w K mg base CX0 2 fO fdO ["_law_d", "_law_most"] (spOff K) := T.off
  refine F.ok scNu (fun vs H Q E h => ?_) (fun cdv A outer s H vs Q E hr h => ?_)
  · obtain ⟨d, l, m, most, ns, ws, rfl, _⟩ := h
    rfl
  · obtain ⟨d, l, m, most, ns, ws, rfl, hD, hm, nmd, w1, w8, h900, q⟩ := h
    refine ⟨_, pss_one (ps_ret (pe_lc (own := [("_law_k", 3)]) (g := gName 3) (tt := tYes) (te := tCall (spOff K) [] E0 (tCons (tVar 0) (tCons (tCB (rLenSq K) (tCons (tVar 1) tNil)) tNil))) rfl scNu.nd
        (pi_range1 (by rfl) T.mr (pa_cons (pe_call GO hr (by rfl) T.gO T.FO.kp T.bO .nil pass0 (pa_cons (pv 0) (pa_cons (pe_op op_add (pv 2) pe_int) pa_nil))) pa_nil)) (blkOk_by (N := nNu) (sc := defScope sNumbers) (by decide +kernel))
        (fun _ _ _ _ _ => pg_name (i := 3) scNu.nd rfl (.inl rfl)) (fun _ _ _ _ _ => pts_nil)
        (fun _ _ _ _ _ => by exact (pe_call GO hr (by rfl) T.gO T.FO.kp T.bO .nil pass0 (pa_cons (pv 0) (pa_cons (pe_callB call_len_seq (by rfl) T.ml PySem.boot_len (pa_cons (pv 1) pa_nil)) pa_nil)))))), ?_⟩
    have m0 : (0 : Int) ≤ ((most : Nat) : Int) := Int.natCast_nonneg _
    refine ⟨.ref d, rfl, .int ((most : Nat) : Int), rfl, _, _, rfl, rfl, d, l, ns, _, rfl, hD, by omega, by omega, fun cnt H1 hc hD1 o1 => ?_⟩
    refine ⟨_, rfl, by omega, by omega, fun D nD => ?_⟩
    have nDd : D ≠ d := hD1.ne nD
    have hm1 : H1 m = some (.lst ws) := by rw [o1 m nmd]; exact hm
    have g1 : Gr d H H1 := (Gr.refl d H).off o1
    have nDH : H D = none := by
      rw [← o1 D nDd]
      exact nD
    refine lc_range (lo := 0) (n := ((cnt : Nat) : Int).toNat) (fun j H' => Dc K l ns H' d ∧ Gr d H1 H' ∧ ∃ zs : List Int, zs.length = j ∧ H' D = some (.lst (zs.map V.int)) ∧ ∀ z ∈ zs, 0 ≤ z ∧ z < (ws.length : Int))
      ⟨hD1.new nD, (Gr.refl d H1).new nD, [], rfl, upd_same, (fun _ z => nomatch z)⟩ ?_ ?_
    · rintro j H2 hj ⟨hD2, g2, zs, el, hz, hin⟩
      have hm2 := g2 m _ nmd hm1
      refine ⟨rfl, .ref d, rfl, .ref m, rfl, m, ws, rfl, .inl (SqL.of hm2), d, l, ns, _, rfl, hD2, by omega, by omega, fun x H3 hx hD3 o3 => ?_⟩
      have hz3 : H3 D = some (.lst (zs.map V.int)) := by rw [o3 D nDd]; exact hz
      refine ⟨_, hz3, by rw [List.length_map, el]; exact small900 (by omega), hD3.turn hD1 nD nDd, ?_, zs ++ [(x : Int)], by rw [List.length_append, el]; rfl, by rw [upd_same, List.map_append]; rfl, ?_⟩
      · intro b o nb e
        rw [upd_ne (ne_of_none e nD)]
        exact (g2.off o3) b o nb e
      · intro z hzz
        rcases List.mem_append.mp hzz with hzz | hzz
        · exact hin z hzz
        · have e : z = (x : Int) := by simpa using hzz
          omega
    · rintro H2 ⟨hD2, g2, zs, el, hz, hin⟩
      exact q D zs H2 hD2 (g1.trans g2) nDH nDd hz (by omega) hin
end
/-! ### _law_behind: the mathematics -/
theorem pairs_code : ∀ n, n ≤ 6 → (pairsL n).Pairwise (fun q r => TS.code 64 q < TS.code 64 r) := by
  intro n hn
  match n, hn with
  | 0, _ => decide +kernel
  | 1, _ => decide +kernel
  | 2, _ => decide +kernel
  | 3, _ => decide +kernel
  | 4, _ => decide +kernel
  | 5, _ => decide +kernel
  | 6, _ => decide +kernel
theorem code_inj {many : Nat} (m6 : many ≤ 6) {g h : List Int} (hg : g ∈ pairsL many) (hh : h ∈ pairsL many) (e : TS.code 64 g = TS.code 64 h) : g = h := by
  obtain ⟨x, y, a, b, c, rfl⟩ := mem_pairsL.mp hg
  obtain ⟨u, v, a', b', c', rfl⟩ := mem_pairsL.mp hh
  rw [code_pair, code_pair] at e
  have : x = u := by omega
  have : y = v := by omega
  subst_vars
  rfl
/-- pairs that rise are told by which they are -/
theorem behindL_uniq {many : Nat} {ms : List Mv} (m6 : many ≤ 6) {g : List Int} (two : ∀ p ∈ keysG (gf many ms g), p ∈ pairsL many) {L L' : List (List Int)} (h : behindL many ms g L) (h' : behindL many ms g L') : L = L' := by
  obtain ⟨p1, s1⟩ := h
  obtain ⟨p2, s2⟩ := h'
  have pp : L.Perm L' := p1.trans p2.symm
  have inj : ∀ a b, a ∈ L → b ∈ L' → TS.code 64 a ≤ TS.code 64 b → TS.code 64 b ≤ TS.code 64 a → a = b := fun a b ha hb h1 h2 => code_inj m6 (two a (p1.mem_iff.mp ha)) (two b (p2.mem_iff.mp hb)) (by omega)
  clear p1 p2
  generalize keysG (gf many ms g) = ks at *
  clear two
  induction L generalizing L' with
  | nil => exact (List.nil_perm.mp pp).symm
  | cons a L ih =>
    cases L' with
    | nil => exact absurd (List.perm_nil.mp pp) (by simp)
    | cons b L' =>
      have e : a = b := by
        rcases List.mem_cons.mp (pp.mem_iff.mp List.mem_cons_self) with e | ma
        · exact e
        · rcases List.mem_cons.mp (pp.symm.mem_iff.mp List.mem_cons_self) with e | mb
          · exact e.symm
          · exact inj a b List.mem_cons_self List.mem_cons_self ((List.pairwise_cons.mp s1).1 b mb) ((List.pairwise_cons.mp s2).1 a ma)
      subst e
      rw [ih (List.pairwise_cons.mp s1).2 (List.pairwise_cons.mp s2).2 ((List.perm_cons a).mp pp) fun x y hx hy => inj x y (List.mem_cons_of_mem _ hx) (List.mem_cons_of_mem _ hy)]
theorem own_uniq {many : Nat} {ms : List Mv} (G : Good many ms) {g : List Int} (hg : closedL many ms = [g]) {z z' : Nat → Int} {t t' : Int} (O : OwnOk many ms g z t) (O' : OwnOk many ms g z' t') : ∀ m, m < many → frac (z m) t = frac (z' m) t' := by
  have fl := cnt_flow G
  have oc := one_cl G hg
  have st : Stat many (cnt ms) (tot ms) (fun m => t' * z m - t * z' m) := fun e he => by
    have h1 := O.st e he
    have h2 := O'.st e he
    have : (fun b => cnt ms b e * (t' * z b - t * z' b)) = fun b => t' * (cnt ms b e * z b) - t * (cnt ms b e * z' b) := funext fun b => by grind
    rw [this, sumN_sub, sumN_mul, sumN_mul, h1, h2]
    grind
  have s0 : sumN many (fun m => t' * z m - t * z' m) = 0 := by
    rw [sumN_sub, sumN_mul, sumN_mul, O.sum, O'.sum]
    grind
  intro m hm
  have := fl.inj oc st s0 m hm
  have e : t' * z m = t * z' m := by
    have h : t' * z m - t * z' m = 0 := this
    omega
  rw [← frac_scale O'.pos, e, Int.mul_comm t' t, frac_scale O.pos]
section
/-! ### data that stand in the heap -/
mutual
inductive PD (H : Hp) : V → PyData → Prop
  | non : PD H .non .none
  | int (i : Int) : PD H (.int i) (.int i)
  | lst {a : Addr} {xs : List V} {ds : List PyData} : H a = some (.lst xs) → PDs H xs ds → PD H (.ref a) (.list ds)
  | tup {a : Addr} {xs : List V} {ds : List PyData} : H a = some (.tup xs) → PDs H xs ds → PD H (.ref a) (.tuple ds)
inductive PDs (H : Hp) : List V → List PyData → Prop
  | nil : PDs H [] []
  | cons {v : V} {vs : List V} {d : PyData} {ds : List PyData} : PD H v d → PDs H vs ds → PDs H (v :: vs) (d :: ds)
end
/-- all stays but tables -/
def Kp (H H' : Hp) : Prop := ∀ b o, (∀ q, o ≠ HO.tbl q) → H b = some o → H' b = some o
theorem Kp.of {H H' : Hp} (s : Same H H') : Kp H H' := fun b o _ e => s b o e
theorem Kp.tab {T : Addr} {H H' : Hp} (hT : GxR.TabG H T) (g : Gr T H H') : Kp H H' := fun _ _ n e => g.tab hT n e
theorem Kp.trans {H H1 H2 : Hp} (a : Kp H H1) (b : Kp H1 H2) : Kp H H2 := fun c o n e => b c o n (a c o n e)
theorem Kp.refl (H : Hp) : Kp H H := fun _ _ _ e => e
theorem Kp.lst {H H' : Hp} (k : Kp H H') {a : Addr} {xs : List V} (e : H a = some (.lst xs)) : H' a = some (.lst xs) := k a (.lst xs) (fun _ z => nomatch z) e
theorem Kp.tup {H H' : Hp} (k : Kp H H') {a : Addr} {xs : List V} (e : H a = some (.tup xs)) : H' a = some (.tup xs) := k a (.tup xs) (fun _ z => nomatch z) e
theorem PD.kp {H H' : Hp} (k : Kp H H') {v : V} {d : PyData} (h : PD H v d) : PD H' v d :=
  PD.rec (motive_1 := fun v d _ => PD H' v d) (motive_2 := fun vs ds _ => PDs H' vs ds) .non (fun i => .int i) (fun e _ ih => .lst (k.lst e) ih) (fun e _ ih => .tup (k.tup e) ih) .nil (fun _ _ a b => .cons a b) h
theorem PDs.kp {H H' : Hp} (k : Kp H H') {vs : List V} {ds : List PyData} (h : PDs H vs ds) : PDs H' vs ds :=
  PDs.rec (motive_1 := fun v d _ => PD H' v d) (motive_2 := fun vs ds _ => PDs H' vs ds) .non (fun i => .int i) (fun e _ ih => .lst (k.lst e) ih) (fun e _ ih => .tup (k.tup e) ih) .nil (fun _ _ a b => .cons a b) h
theorem PD.dp {K : PySem.W.Frag} {H : Hp} {v : V} {d : PyData} (h : PD H v d) : Dp K H v d :=
  PD.rec (motive_1 := fun v d _ => Dp K H v d) (motive_2 := fun vs ds _ => DpAll K H vs ds) .non (fun i => .int i) (fun e _ ih => .lst (SqL.of e) ih) (fun e _ ih => .tup (SqT.of e) ih) .nil (fun _ _ a b => .cons a b) h
theorem PDs.len {H : Hp} {vs : List V} {ds : List PyData} (h : PDs H vs ds) : vs.length = ds.length :=
  PDs.rec (motive_1 := fun _ _ _ => True) (motive_2 := fun vs ds _ => vs.length = ds.length) True.intro (fun _ => True.intro) (fun _ _ _ => True.intro) (fun _ _ _ => True.intro) rfl (fun _ _ _ b => by rw [List.length_cons, List.length_cons, b]) h
theorem PDs.app {H : Hp} {us : List V} {es : List PyData} (h2 : PDs H us es) : ∀ {vs : List V} {ds : List PyData}, PDs H vs ds → PDs H (vs ++ us) (ds ++ es)
  | [], ds, h => by
    cases h
    exact h2
  | v :: vs, ds, h => by
    cases h with
    | cons a r => exact .cons a (PDs.app h2 r)
theorem pd_ints (H : Hp) : ∀ ns : List Int, PDs H (ns.map V.int) (ns.map PyData.int)
  | [] => .nil
  | n :: ns => .cons (.int n) (pd_ints H ns)
theorem pd_all {α β : Type} {H : Hp} {F : α → β → Prop} {f : α → V} {g : β → PyData} (h : ∀ a b, F a b → PD H (f a) (g b)) : ∀ {l : List α} {m : List β}, Paired F l m → PDs H (l.map f) (m.map g)
  | _, _, .nil => .nil
  | _, _, .cons a r => .cons (h _ _ a) (pd_all h r)
def intsP (ns : List Int) : PyData := .list (ns.map PyData.int)
theorem pd_lst {H : Hp} {a : Addr} {ns : List Int} (h : H a = some (.lst (ns.map V.int))) : PD H (.ref a) (intsP ns) := .lst h (pd_ints H ns)
def frP (p : Int × Int) : PyData := .tuple [.int p.1, .int p.2]
theorem pd_fr {H : Hp} {v : V} {p : Int × Int} (h : FracAt H v p) : PD H v (frP p) := by
  obtain ⟨t, rfl, e⟩ := h
  exact .tup e (.cons (.int _) (.cons (.int _) .nil))
theorem pd_frs {H : Hp} : ∀ {us : List V} {ps : List (Int × Int)}, Paired (FracAt H) us ps → PDs H us (ps.map frP)
  | _, _, .nil => .nil
  | _, _, .cons h r => .cons (pd_fr h) (pd_frs r)
theorem paired_nth {α β : Type} {F : α → β → Prop} : ∀ {l₁ : List α} {l₂ : List β}, l₁.length = l₂.length → (∀ (i : Nat) a b, l₁[i]? = some a → l₂[i]? = some b → F a b) → Paired F l₁ l₂
  | [], [], _, _ => .nil
  | a :: l₁, b :: l₂, hl, h => .cons (h 0 a b rfl rfl) (paired_nth (by simpa using hl) fun i x y h1 h2 => h (i + 1) x y (by simpa using h1) (by simpa using h2))
  | [], _ :: _, h, _ => nomatch h
  | _ :: _, [], h, _ => nomatch h
theorem pd_frsN {H : Hp} {us : List V} {n : Nat} {f : Nat → Int × Int} (h : FracsAt H us n f) : PDs H us ((List.range n).map fun m => frP (f m)) := by
  have hp : Paired (fun u p => FracAt H u p) us ((List.range n).map f) := by
    refine paired_nth (by rw [h.1, List.length_map, List.length_range]) fun i a b h1 h2 => ?_
    rw [List.getElem?_map] at h2
    obtain ⟨m, hm, rfl⟩ := Option.map_eq_some_iff.mp h2
    have : i < n := by
      obtain ⟨q, _⟩ := List.getElem?_eq_some_iff.mp hm
      rw [List.length_range] at q
      exact q
    rw [List.getElem?_range this] at hm
    cases hm
    exact h.2 i a h1
  have := pd_frs hp
  rw [List.map_map] at this
  exact this
/-- shapes -/
theorem Sh.fr (p : Int × Int) : Sh 1 (frP p) := Sh.tuple fun d hd => by
  rcases List.mem_cons.mp hd with rfl | hd
  · exact .int _
  rcases List.mem_cons.mp hd with rfl | hd
  · exact .int _
  · cases hd
theorem Sh.intsP (ns : List Int) : Sh 1 (intsP ns) := Sh.list (Sh.ints ns)
theorem Sh.mapL {α : Type} {n : Nat} {f : α → PyData} (l : List α) (h : ∀ a ∈ l, Sh n (f a)) : Sh (n + 1) (.list (l.map f)) := Sh.list fun d hd => by
  obtain ⟨a, ha, rfl⟩ := List.mem_map.mp hd
  exact h a ha
end
theorem gf_rowlen {many : Nat} {ms : List Mv} {b : List Int} : ∀ p ∈ gf many ms b, p.2.length ≤ 64 := bfsN_rowlen 64
section
variable {P : Program} {w : World} {K : PySem.W.Frag} {mg : Str → Option Value} {base : Heap} {C : Addr}
/-! ### all that _law_told tells, as data -/
def trP (tr : List (Nat × List Int)) : PyData := .list (tr.map fun x => .tuple [.int (x.1 : Int), intsP x.2])
def optP : Option (List Int) → PyData
  | none => .none
  | some o => intsP o
@[irreducible] def MtD (many : Nat) (ms : List Mv) (d : PyData) : Prop := match rowTo many ms (ids many) with
  | some r => d = intsP r
  | none => ∃ g L, firstApart many ms = some g ∧ behindL many ms g L ∧ d = .list (L.map fun h => .tuple (h.map PyData.int))
def DrD (many : Nat) (rows : List (List Int)) (d : PyData) : Prop := (∃ k, FirstOne many rows k ∧ d = .tuple [.int (goK (endsK many rows k) 0), .int (k : Int)]) ∨ (NoOne many rows ∧ d = .none)
def OwD (many : Nat) (ms : List Mv) (ds : List PyData) : Prop := if (closedL many ms).length = 1 then ∃ g z t, closedL many ms = [g] ∧ OwnOk many ms g z t ∧ ds = [.list ((List.range many).map fun m => frP (frac (z m) t))] else ds = []
def TdD (many : Nat) (ms : List Mv) (ns : List Int) (ds : List PyData) : Prop := ∃ tr dm dd ow, Tried (endsK many (rowsOf ms ns)) ns.length tr ∧ MtD many ms dm ∧ DrD many (rowsOf ms ns) dd ∧ OwD many ms ow ∧
  ds = [.list ((chanOf many ms).map fun ps => .list (ps.map frP)), .list ((closedL many ms).map intsP), trP tr, intsP (foldR many (rowsOf ms ns)), dm, .list ((ids many).map fun p => frP (frac (shrN many ms 5 p) (whole ms ^ 5))), optP (foL many ms), .list [dd]] ++ ow
theorem firstOne_uniq {many : Nat} {rows : List (List Int)} {k j : Nat} (a : FirstOne many rows k) (b : FirstOne many rows j) : k = j := by
  obtain ⟨_, a2, a3⟩ := a
  obtain ⟨_, b2, b3⟩ := b
  rcases Nat.lt_trichotomy k j with h | h | h
  · rw [b3 k h] at a2
    cases a2
  · exact h
  · rw [a3 j h] at b2
    cases b2
theorem MtD.uniq {many : Nat} {ms : List Mv} (G : Good many ms) {a b : PyData} (ha : MtD many ms a) (hb : MtD many ms b) : a = b := by
  unfold MtD at ha hb
  cases h : rowTo many ms (ids many) with
  | some r =>
    rw [h] at ha hb
    rw [ha, hb]
  | none =>
    rw [h] at ha hb
    obtain ⟨g, L, e1, l1, rfl⟩ := ha
    obtain ⟨g', L', e2, l2, rfl⟩ := hb
    rw [e1] at e2
    cases e2
    have m6 := G.m6
    obtain ⟨gx, gy, x0, xy, ym, rfl⟩ := mem_pairsL.mp (List.mem_of_find?_eq_some e1)
    have gg := pair_good x0 xy ym
    have no : ¬ Meets many ms [gx, gy] := (rowTo_none gg m6).mp (List.find?_some (p := fun g => (rowTo many ms g).isNone) e1)
    rw [behindL_uniq m6 (fun p hp => ?_) l1 l2]
    obtain ⟨pp, hpp, rfl⟩ := List.mem_map.mp hp
    obtain ⟨a, b⟩ := apart_two G.mv gg no pp hpp
    obtain ⟨u, v, e⟩ := two_of a
    rw [e] at b ⊢
    exact mem_pairsL.mpr ⟨u, v, (b.2 u List.mem_cons_self).1, (List.pairwise_cons.mp b.1).1 v List.mem_cons_self, (b.2 v (List.mem_cons_of_mem _ List.mem_cons_self)).2, rfl⟩
theorem DrD.uniq {many : Nat} {rows : List (List Int)} {a b : PyData} (ha : DrD many rows a) (hb : DrD many rows b) : a = b := by
  rcases ha with ⟨k, f, rfl⟩ | ⟨n, rfl⟩ <;> rcases hb with ⟨j, g, rfl⟩ | ⟨n', rfl⟩
  · rw [firstOne_uniq f g]
  · exact absurd (n' k f.1) (by rw [f.2.1]; exact Bool.noConfusion)
  · exact absurd (n j g.1) (by rw [g.2.1]; exact Bool.noConfusion)
  · rfl
theorem OwD.uniq {many : Nat} {ms : List Mv} (G : Good many ms) {a b : List PyData} (ha : OwD many ms a) (hb : OwD many ms b) : a = b := by
  unfold OwD at ha hb
  by_cases c : (closedL many ms).length = 1
  · rw [if_pos c] at ha hb
    obtain ⟨g, z, t, e1, o1, rfl⟩ := ha
    obtain ⟨g', z', t', e2, o2, rfl⟩ := hb
    rw [e1] at e2
    cases e2
    congr 2
    refine List.map_congr_left fun m hm => ?_
    rw [own_uniq G e1 o1 o2 m (List.mem_range.mp hm)]
  · rw [if_neg c] at ha hb
    rw [ha, hb]
theorem TdD.uniq {many : Nat} {ms : List Mv} {ns : List Int} (G : Good many ms) {a b : List PyData} (ha : TdD many ms ns a) (hb : TdD many ms ns b) : a = b := by
  obtain ⟨tr, dm, dd, ow, h1, h2, h3, h4, ea⟩ := ha
  obtain ⟨tr', dm', dd', ow', h1', h2', h3', h4', eb⟩ := hb
  have e1 : tr = tr' := tried_same h1 h1'
  have e2 : dm = dm' := MtD.uniq G h2 h2'
  have e3 : dd = dd' := DrD.uniq h3 h3'
  have e4 : ow = ow' := OwD.uniq G h4 h4'
  clear h1 h1' h2 h2' h3 h3' h4 h4'
  subst e1 e2 e3 e4
  exact ea.trans eb.symm
theorem TdD.sh {many : Nat} {ms : List Mv} {ns : List Int} {ds : List PyData} (h : TdD many ms ns ds) : Sh 5 (.list ds) := by
  obtain ⟨tr, dm, dd, ow, h1, h2, h3, h4, rfl⟩ := h
  refine Sh.list fun d hd => ?_
  have two : ∀ {x y z : PyData} {n : Nat}, Sh n x → Sh n y → z ∈ [x, y] → Sh n z := fun hx hy hz => by
    rcases List.mem_cons.mp hz with rfl | hz
    · exact hx
    · rw [List.mem_singleton.mp hz]
      exact hy
  rcases List.mem_append.mp hd with hd | hd
  · rcases List.mem_cons.mp hd with rfl | hd
    · exact (Sh.mapL _ fun ps _ => Sh.mapL ps fun p _ => Sh.fr p).mono (by decide)
    rcases List.mem_cons.mp hd with rfl | hd
    · exact (Sh.mapL _ fun g _ => Sh.intsP g).mono (by decide)
    rcases List.mem_cons.mp hd with rfl | hd
    · exact (Sh.mapL (n := 2) tr fun x _ => Sh.tuple fun d hd => two (.int _) (Sh.intsP _) hd).mono (by decide)
    rcases List.mem_cons.mp hd with rfl | hd
    · exact (Sh.intsP _).mono (by decide)
    rcases List.mem_cons.mp hd with rfl | hd
    · unfold MtD at h2
      cases h : rowTo many ms (ids many) with
      | some r =>
        rw [h] at h2
        rw [h2]
        exact (Sh.intsP _).mono (by decide)
      | none =>
        rw [h] at h2
        obtain ⟨g, L, _, _, rfl⟩ := h2
        exact (Sh.mapL (n := 1) L fun x _ => Sh.tuple (Sh.ints x)).mono (by decide)
    rcases List.mem_cons.mp hd with rfl | hd
    · exact (Sh.mapL (ids many) fun p _ => Sh.fr _).mono (by decide)
    rcases List.mem_cons.mp hd with rfl | hd
    · cases foL many ms with
      | none => exact Sh.none
      | some o => exact (Sh.intsP o).mono (by decide)
    rw [List.mem_singleton.mp hd]
    refine (Sh.list (n := 1) fun d hd => ?_).mono (by decide)
    rw [List.mem_singleton.mp hd]
    rcases h3 with ⟨k, _, rfl⟩ | ⟨_, rfl⟩
    · exact Sh.tuple fun d hd => two (.int _) (.int _) hd
    · exact Sh.none
  · unfold OwD at h4
    split at h4
    · obtain ⟨g, z, t, _, _, rfl⟩ := h4
      rw [List.mem_singleton.mp hd]
      exact (Sh.mapL _ fun p _ => Sh.fr _).mono (by decide)
    · rw [h4] at hd
      cases hd
end
section
variable {P : Program} {w : World} {K : PySem.W.Frag} {mg : Str → Option Value} {base : Heap} {C : Addr}
/-! ### _law_told -/
theorem ChainAt.kp {x : Addr} {H H' : Hp} {many : Nat} {ms : List Mv} (k : Kp H H') (h : ChainAt C H x many ms) : ChainAt C H' x many ms := by
  obtain ⟨dx, a0, ws0, h1, h2, h3⟩ := h
  exact ⟨dx, a0, ws0, k _ _ (fun _ z => nomatch z) h1, k _ _ (fun _ z => nomatch z) h2, h3.same fun b xs e => k _ _ (fun _ z => nomatch z) e⟩
/-- none, or a list that is new since H -/
def NewL (H H' : Hp) (v : V) : Prop := v = .non ∨ ∃ a xs, v = .ref a ∧ H a = none ∧ H' a = some (.lst xs) ∧ xs.length ≤ 1000
theorem NewL.kp {H H' H'' : Hp} {v : V} (k : Kp H' H'') (h : NewL H H' v) : NewL H H'' v := by
  rcases h with h | ⟨a, xs, e, n, f, l⟩
  · exact .inl h
  · exact .inr ⟨a, xs, e, n, k _ _ (fun _ z => nomatch z) f, l⟩
/-- a told thing: its data, and that it is new -/
def Res (H H' : Hp) (v : V) (d : PyData) : Prop := PD H' v d ∧ NewL H H' v
theorem Res.kp {H H' H'' : Hp} {v : V} {d : PyData} (k : Kp H' H'') (h : Res H H' v d) : Res H H'' v d := ⟨h.1.kp k, h.2.kp k⟩
theorem Res.lst {H H' : Hp} {a : Addr} {xs : List V} {ds : List PyData} (n : H a = none) (e : H' a = some (.lst xs)) (h : PDs H' xs ds) (l : ds.length ≤ 1000) : Res H H' (.ref a) (.list ds) := ⟨.lst e h, .inr ⟨a, xs, rfl, n, e, by rw [h.len]; exact l⟩⟩
/-- what stays while _law_told asks: H at first, H' now -/
structure St21 (C T : Addr) (H H' : Hp) (x l : Addr) (many : Nat) (ms : List Mv) (ns : List Int) : Prop where
  g : Gr T H H'
  t : GxR.TabG H' T
  c : ChainAt C H' x many ms
  l : H' l = some (.lst (ns.map V.int))
section
variable {T x l : Addr} {H H' H'' : Hp} {many : Nat} {ms : List Mv} {ns : List Int}
theorem St21.same (h : St21 C T H H' x l many ms ns) (s : Same H' H'') : St21 C T H H'' x l many ms ns := ⟨h.g.trans (Gr.of_same s), tab_same s h.t, h.c.same s, s _ _ h.l⟩
theorem St21.gr (h : St21 C T H H' x l many ms ns) (g : Gr T H' H'') (t : GxR.TabG H'' T) : St21 C T H H'' x l many ms ns := ⟨h.g.trans g, t, h.c.kp (.tab h.t g), g.tab h.t (fun _ z => nomatch z) h.l⟩
theorem St21.free (h : St21 C T H H' x l many ms ns) {a : Addr} (n : H' a = none) : H a = none := h.g.tabFree h.t n
end
theorem scTd21 : FnScope ["_law_chain_here", "_law_numbers_here", "_law_found"] ["_law_chain_here", "_law_numbers_here"] (defScope sLawTold) := ⟨rfl, rfl, rfl, by decide +kernel, rfl, by decide +kernel, by decide +kernel⟩
def spTd (C T : Addr) : Sp := fun vs H Q _ => ∃ (x l : Addr) (many : Nat) (ms : List Mv) (ns : List Int), vs = [.ref x, .ref l] ∧ ChainAt C H x many ms ∧ Good many ms ∧ H l = some (.lst (ns.map V.int)) ∧ NumsOk ms ns ∧ GxR.TabG H T ∧
  ∀ L us ds H', Gr T H H' → GxR.TabG H' T → H L = none → H' L = some (.lst us) → PDs H' us ds → TdD many ms ns ds → us.length ≤ 9 → (∀ v ∈ us, NewL H H' v ∧ v ≠ .ref L) → Q (.ref L) H'
theorem Tried.len {E : Nat → List Int} {len : Nat} {tr : List (Nat × List Int)} (h : Tried E len tr) : tr.length ≤ len := by
  by_cases c : tr.length = 0
  · omega
  · have e := (h.1 (tr.length - 1) _ (List.getElem?_eq_getElem (by omega))).2.1
    have := @Nat.lt_two_pow_self (tr.length - 1)
    omega
theorem rowTo_len {many : Nat} {ms : List Mv} {g r : List Int} (h : rowTo many ms g = some r) : r.length ≤ 64 := by
  unfold rowTo at h
  obtain ⟨p, hp, rfl⟩ := Option.map_eq_some_iff.mp h
  exact gf_rowlen p (List.mem_of_find?_eq_some hp)
theorem foL_len {many : Nat} {ms : List Mv} {o : List Int} (m6 : many ≤ 6) (h : foL many ms = some o) : o.length = many := (ordsL_ord m6 (List.mem_of_find?_eq_some h)).len
theorem ok_td {f fCh fCl fTr fTo fMt fSh fFo fDr fOw tI : Addr} {fd fdCh fdCl fdTr fdTo fdMt fdSh fdFo fdDr fdOw : FuncData} (F : Fun K "_law_told" "_law_told" sLawTold f fd)
    (DCh : Df K mg "chances" sChances ["chain"] fCh fdCh) (DCl : Df K mg "closed" sClosed ["chain"] fCl fdCl) (DTr : Df K mg "tries" sTries ["chain", "numbers"] fTr fdTr) (DTo : Df K mg "together" sTogether ["chain", "numbers"] fTo fdTo) (DMt : Df K mg "meeting" sMeeting ["chain"] fMt fdMt)
    (DSh : Df K mg "shares" sShares ["chain", "far"] fSh fdSh) (DFo : Df K mg "first_order" sFirstOrder ["chain"] fFo fdFo) (DDr : Df K mg "drawn" sDrawn ["chain", "numbers"] fDr fdDr) (DOw : Df K mg "own" sOwn ["chain"] fOw fdOw)
    (GCh : FnOk P w K mg base CX0 3 fCh fdCh ["chain"] (spChances C)) (GCl : FnOk P w K mg base CX0 4 fCl fdCl ["chain"] (spCl C tI)) (GTr : FnOk P w K mg base CX0 3 fTr fdTr ["chain", "numbers"] (spTries C)) (GTo : FnOk P w K mg base CX0 3 fTo fdTo ["chain", "numbers"] (spTo C))
    (GMt : FnOk P w K mg base CX0 5 fMt fdMt ["chain"] (spMt C)) (GSh : FnOk P w K mg base CX0 3 fSh fdSh ["chain", "far"] (spSh C)) (GFo : FnOk P w K mg base CX0 4 fFo fdFo ["chain"] (spFo C)) (GDr : FnOk P w K mg base CX0 4 fDr fdDr ["chain", "numbers"] (spDrawn C)) (GOw : FnOk P w K mg base CX0 5 fOw fdOw ["chain"] (spOwn C tI))
    (ml : mg "len" = none) : FnOk P w K mg base CX0 6 f fd ["_law_chain_here", "_law_numbers_here"] (spTd C tI) := by
  refine F.ok scTd21 (fun vs H Q E h => ?_) (fun cdv A outer s H vs Q E hr h => ?_)
  · obtain ⟨x, l, many, ms, ns, rfl, _⟩ := h
    rfl
  · obtain ⟨x, l, many, ms, ns, rfl, hC, G, hl, hN, hT, q⟩ := h
    have r3 : Room 3 _ := hr.mono (by decide)
    have r4 : Room 4 _ := hr.mono (by decide)
    have r5 : Room 5 _ := hr
    refine ⟨_, (pss_cons (ps_set (i := 2) scTd21.nd rfl (.inl rfl) (pe_lst (pa_cons (pe_call GCh r3 (by rfl) DCh.g DCh.F.kp DCh.b .nil pass0 (pa_cons (pv 0) pa_nil)) (pa_cons (pe_call GCl r4 (by rfl) DCl.g DCl.F.kp DCl.b .nil pass0 (pa_cons (pv 0) pa_nil)) (pa_cons (pe_call GTr r3 (by rfl) DTr.g DTr.F.kp DTr.b .nil pass0 (pa_cons (pv 0) (pa_cons (pv 1) pa_nil))) (pa_cons (pe_call GTo r3 (by rfl) DTo.g DTo.F.kp DTo.b .nil pass0 (pa_cons (pv 0) (pa_cons (pv 1) pa_nil))) (pa_cons (pe_ix ix_tup (pe_call GMt r5 (by rfl) DMt.g DMt.F.kp DMt.b .nil pass0 (pa_cons (pv 0) pa_nil)) pe_int (fun _ _ => rfl)) pa_nil)))))))
      (pss_cons (ps_set (i := 2) scTd21.nd rfl (.inl rfl) (pe_op op_cat (pv 2) (pe_lst (pa_cons (pe_ix ix_tup (pe_call GSh r3 (by rfl) DSh.g DSh.F.kp DSh.b .nil pass0 (pa_cons (pv 0) (pa_cons pe_int pa_nil))) pe_int (fun _ _ => rfl)) (pa_cons (pe_call GFo r4 (by rfl) DFo.g DFo.F.kp DFo.b .nil pass0 (pa_cons (pv 0) pa_nil)) (pa_cons (pe_lst (pa_cons (pe_call GDr r4 (by rfl) DDr.g DDr.F.kp DDr.b .nil pass0 (pa_cons (pv 0) (pa_cons (pv 1) pa_nil))) pa_nil)) pa_nil))))))
      (pss_cons (ps_if (pt_cmpR op_eq (pe_callB call_len_seq (by rfl) ml PySem.boot_len (pa_cons (pe_call GCl r4 (by rfl) DCl.g DCl.F.kp DCl.b .nil pass0 (pa_cons (pv 0) pa_nil)) pa_nil)) pe_int (nomark _)) (pss_one (ps_expr (pe_bm PySem.F.plainAttrs_list PySem.F.slot_list_append PySem.F.type_list_append mt_append (pv 2) (pa_cons (pe_call GOw r5 (by rfl) DOw.g DOw.F.kp DOw.b .nil pass0 (pa_cons (pv 0) pa_nil)) pa_nil)))) pss_nil)
      (pss_one (ps_ret (pv 2)))))), ?_⟩
    have m1 := G.m1
    have m6 := G.m6
    have idl : (ids many).length = many := by unfold ids; rw [List.length_map, List.length_range]
    have S0 : St21 C tI H H x l many ms ns := ⟨Gr.refl _ _, hT, hC, hl⟩
    -- chances
    refine ⟨.ref x, rfl, x, many, ms, rfl, S0.c, G, fun L1 H1 s1 n1 a1 => ?_⟩
    have S1 := S0.same s1
    have R1 : Res H H1 (.ref L1) (.list ((chanOf many ms).map fun ps => .list (ps.map frP))) := by
      obtain ⟨ls, e, p⟩ := a1
      exact Res.lst n1 e (pd_all (fun a ps ⟨us, e1, e2⟩ => .lst e1 (pd_frs e2)) p) (by unfold chanOf; rw [List.length_map, List.length_map, List.length_range]; omega)
    clear a1
    -- closed
    refine ⟨.ref x, rfl, x, many, ms, rfl, S1.c, G, S1.t, fun L2 H2 g2 t2 n2 a2 => ?_⟩
    have S2 := S1.gr g2 t2
    have k2 : Kp H1 H2 := .tab S1.t g2
    have R2 : Res H H2 (.ref L2) (.list ((closedL many ms).map intsP)) := by
      obtain ⟨us, e, p⟩ := a2
      have : PDs H2 (us.map id) ((closedL many ms).map intsP) := pd_all (f := id) (fun v xs ⟨a, e1, e2⟩ => by rw [show id v = v from rfl, e1]; exact pd_lst e2) p
      rw [List.map_id] at this
      have cl := closedL_len many ms
      exact Res.lst (S1.free n2) e this (by rw [List.length_map]; omega)
    replace R1 := R1.kp k2
    clear a2 k2 S1
    -- tries
    refine ⟨.ref x, rfl, .ref l, rfl, x, l, many, ms, ns, rfl, S2.c, G, S2.l, hN, fun L3 H3 tr s3 n3 a3 tr3 => ?_⟩
    have S3 := S2.same s3
    have k3 : Kp H2 H3 := .of s3
    have R3 : Res H H3 (.ref L3) (trP tr) := by
      obtain ⟨us, e, p⟩ := a3
      have tl := tr3.len
      have n1000 := hN.1
      exact Res.lst (S2.free n3) e (pd_all (fun a z ⟨b, e1, e2⟩ => .tup e1 (.cons (.int _) (.cons (pd_lst e2) .nil))) p) (by rw [List.length_map]; omega)
    replace R1 := R1.kp k3
    replace R2 := R2.kp k3
    clear a3 k3
    -- together
    refine ⟨.ref x, rfl, .ref l, rfl, x, l, many, ms, ns, rfl, S3.c, G, S3.l, hN, fun L4 H4 s4 n4 a4 => ?_⟩
    have S4 := S3.same s4
    have k4 : Kp H3 H4 := .of s4
    have R4 : Res H H4 (.ref L4) (intsP (foldR many (rowsOf ms ns))) := Res.lst (S3.free n4) a4 (pd_ints _ _) (by rw [List.length_map, (foldR_good (rowsOf_good G hN)).1]; omega)
    replace R1 := R1.kp k4
    replace R2 := R2.kp k4
    replace R3 := R3.kp k4
    clear a4 k4 S3
    -- meeting
    refine ⟨.ref x, rfl, x, many, ms, rfl, S4.c, G, fun v5 H5 s5 a5 n5 => ?_⟩
    have S5 := S4.same s5
    have k5 : Kp H4 H5 := .of s5
    obtain ⟨t5, w5, L5, d5, rfl, ht5, D5, R5⟩ : ∃ t w L d, v5 = V.ref t ∧ H5 t = some (.tup [w, .ref L]) ∧ MtD many ms d ∧ Res H H5 (.ref L) d := by
      unfold MtAt at a5
      unfold MtD
      cases h : rowTo many ms (ids many) with
      | some r =>
        rw [h] at a5
        obtain ⟨t, a, rfl, e1, e2⟩ := a5
        exact ⟨t, _, a, _, rfl, e1, rfl, Res.lst (S4.free (n5 t _ a rfl e1)) e2 (pd_ints _ _) (by rw [List.length_map]; have := rowTo_len h; omega)⟩
      | none =>
        rw [h] at a5
        obtain ⟨t, a, g, L, rfl, e1, e2, e3, us, e4, p⟩ := a5
        have : PDs H5 (us.map id) (L.map fun h => PyData.tuple (h.map PyData.int)) := pd_all (f := id) (fun v xs ⟨a, e1, e2⟩ => by rw [show id v = v from rfl, e1]; exact .tup e2 (pd_ints _ _)) p
        rw [List.map_id] at this
        refine ⟨t, _, a, _, rfl, e1, ⟨g, L, e2, e3, rfl⟩, Res.lst (S4.free (n5 t _ a rfl e1)) e4 this ?_⟩
        obtain ⟨gx, gy, x0, xy, ym, rfl⟩ := mem_pairsL.mp (List.mem_of_find?_eq_some e2)
        have := gf_len (ms := ms) (pair_good x0 xy ym) m6
        rw [List.length_map, e3.1.length_eq]
        unfold keysG
        rw [List.length_map]
        omega
    replace R1 := R1.kp k5
    replace R2 := R2.kp k5
    replace R3 := R3.kp k5
    replace R4 := R4.kp k5
    clear a5 n5 k5 S4
    refine ⟨t5, _, 1, _, rfl, rfl, SqT.of ht5, atI_nat (j := 1) rfl, ?_⟩
    -- the first five
    refine ⟨(by show 5 ≤ sizeLine; decide), fun p0 np0 => ?_⟩
    have s6 := same_new (o := .lst [.ref L1, .ref L2, .ref L3, .ref L4, .ref L5]) np0
    have S6 := S5.same s6
    have k6 : Kp H5 _ := .of s6
    have hp0 : (upd H5 p0 (.lst [.ref L1, .ref L2, .ref L3, .ref L4, .ref L5])) p0 = some (.lst [.ref L1, .ref L2, .ref L3, .ref L4, .ref L5]) := upd_same
    replace R1 := R1.kp k6
    replace R2 := R2.kp k6
    replace R3 := R3.kp k6
    replace R4 := R4.kp k6
    replace R5 := R5.kp k6
    clear ht5 S5
    generalize upd H5 p0 (.lst [.ref L1, .ref L2, .ref L3, .ref L4, .ref L5]) = H6 at s6 S6 k6 hp0 R1 R2 R3 R4 R5 ⊢
    -- shares
    refine ⟨.ref p0, rfl, .ref x, rfl, x, many, ms, 5, rfl, S6.c, G, (by decide), fun t7 L7 r7 H7 s7 a7 ht7 n7 => ?_⟩
    have S7 := S6.same s7
    have k7 : Kp H6 H7 := .of s7
    have R7 : Res H H7 (.ref L7) (.list ((ids many).map fun p => frP (frac (shrN many ms 5 p) (whole ms ^ 5)))) := by
      obtain ⟨l', r', us, e1, e2, p, _⟩ := a7
      rw [ht7] at e1
      injection e1 with e1
      injection e1 with e1
      injection e1 with e1 _
      injection e1 with e1
      subst e1
      have : PDs H7 (us.map id) ((ids many).map fun p => frP (frac (shrN many ms 5 p) (whole ms ^ 5))) := pd_all (f := id) (fun v z h => pd_fr h) p
      rw [List.map_id] at this
      exact Res.lst (S6.free n7) e2 this (by rw [List.length_map, idl]; omega)
    replace R1 := R1.kp k7
    replace R2 := R2.kp k7
    replace R3 := R3.kp k7
    replace R4 := R4.kp k7
    replace R5 := R5.kp k7
    replace hp0 := s7 _ _ hp0
    clear a7 k7 S6
    refine ⟨t7, _, 0, _, rfl, rfl, SqT.of ht7, atI_nat (j := 0) rfl, ?_⟩
    -- first_order
    refine ⟨.ref x, rfl, x, many, ms, rfl, S7.c, G, fun v8 H8 s8 a8 n8 => ?_⟩
    have S8 := S7.same s8
    have k8 : Kp H7 H8 := .of s8
    have R8 : Res H H8 v8 (optP (foL many ms)) := by
      unfold ListOr at a8
      cases h : foL many ms with
      | none =>
        rw [h] at a8
        rw [a8]
        exact ⟨.non, .inl rfl⟩
      | some o =>
        rw [h] at a8
        obtain ⟨a, rfl, e⟩ := a8
        exact Res.lst (S7.free (n8 a rfl)) e (pd_ints _ _) (by rw [List.length_map, foL_len m6 h]; omega)
    replace R1 := R1.kp k8
    replace R2 := R2.kp k8
    replace R3 := R3.kp k8
    replace R4 := R4.kp k8
    replace R5 := R5.kp k8
    replace R7 := R7.kp k8
    replace hp0 := s8 _ _ hp0
    clear a8 n8 k8 S7
    -- drawn
    refine ⟨.ref x, rfl, .ref l, rfl, x, l, many, ms, ns, rfl, S8.c, G, S8.l, hN, fun v9 H9 s9 a9 => ?_⟩
    have S9 := S8.same s9
    obtain ⟨dd, D9, P9⟩ : ∃ d, DrD many (rowsOf ms ns) d ∧ PD H9 v9 d := by
      rcases a9 with ⟨k, t, f, rfl, e⟩ | ⟨n, rfl⟩
      · exact ⟨_, .inl ⟨k, f, rfl⟩, .tup e (.cons (.int _) (.cons (.int _) .nil))⟩
      · exact ⟨_, .inr ⟨n, rfl⟩, .non⟩
    refine ⟨(by show 1 ≤ sizeLine; decide), fun p1 np1 => ?_⟩
    have s10 := same_new (o := .lst [v9]) np1
    have np1' := S9.free np1
    have R9 : Res H (upd H9 p1 (.lst [v9])) (.ref p1) (.list [dd]) := Res.lst np1' upd_same (.cons (P9.kp (.of s10)) .nil) (show 1 ≤ 1000 by decide)
    have hp0' := s10 _ _ (s9 _ _ hp0)
    have S10 := S9.same s10
    replace R1 := R1.kp (.of (s9.trans s10))
    replace R2 := R2.kp (.of (s9.trans s10))
    replace R3 := R3.kp (.of (s9.trans s10))
    replace R4 := R4.kp (.of (s9.trans s10))
    replace R5 := R5.kp (.of (s9.trans s10))
    replace R7 := R7.kp (.of (s9.trans s10))
    replace R8 := R8.kp (.of (s9.trans s10))
    generalize upd H9 p1 (.lst [v9]) = H10 at s10 R9 hp0' S10 R1 R2 R3 R4 R5 R7 R8 ⊢
    refine ⟨(by show 3 ≤ sizeLine; decide), fun p2 np2 => ?_⟩
    have s11 := same_new (o := .lst [.ref L7, v8, .ref p1]) np2
    refine ⟨p0, p2, _, _, rfl, rfl, s11 _ _ hp0', upd_same, (by show 8 ≤ sizeLine; decide), fun p3 np3 => ?_⟩
    have s12 := s11.trans (same_new (o := .lst ([.ref L1, .ref L2, .ref L3, .ref L4, .ref L5] ++ [.ref L7, v8, .ref p1])) np3)
    have np3' : H10 p3 = none := s11.free np3
    have hp3 : (upd (upd H10 p2 (.lst [.ref L7, v8, .ref p1])) p3 (.lst ([.ref L1, .ref L2, .ref L3, .ref L4, .ref L5] ++ [.ref L7, v8, .ref p1]))) p3 = some (.lst ([.ref L1, .ref L2, .ref L3, .ref L4, .ref L5] ++ [.ref L7, v8, .ref p1])) := upd_same
    have S12 := S10.same s12
    have k12 : Kp H10 (upd (upd H10 p2 (.lst [.ref L7, v8, .ref p1])) p3 (.lst ([.ref L1, .ref L2, .ref L3, .ref L4, .ref L5] ++ [.ref L7, v8, .ref p1]))) := .of s12
    have all8 : PDs H10 ([.ref L1, .ref L2, .ref L3, .ref L4, .ref L5] ++ [.ref L7, v8, .ref p1]) [.list ((chanOf many ms).map fun ps => .list (ps.map frP)), .list ((closedL many ms).map intsP), trP tr, intsP (foldR many (rowsOf ms ns)), d5, .list ((ids many).map fun p => frP (frac (shrN many ms 5 p) (whole ms ^ 5))), optP (foL many ms), .list [dd]] := PDs.cons R1.1 (.cons R2.1 (.cons R3.1 (.cons R4.1 (.cons R5.1 (.cons R7.1 (.cons R8.1 (.cons R9.1 .nil)))))))
    have new8 : ∀ v ∈ ([.ref L1, .ref L2, .ref L3, .ref L4, .ref L5] ++ [.ref L7, v8, .ref p1] : List V), NewL H H10 v := fun v hv => by
      rcases List.mem_cons.mp hv with rfl | hv
      · exact R1.2
      rcases List.mem_cons.mp hv with rfl | hv
      · exact R2.2
      rcases List.mem_cons.mp hv with rfl | hv
      · exact R3.2
      rcases List.mem_cons.mp hv with rfl | hv
      · exact R4.2
      rcases List.mem_cons.mp hv with rfl | hv
      · exact R5.2
      rcases List.mem_cons.mp hv with rfl | hv
      · exact R7.2
      rcases List.mem_cons.mp hv with rfl | hv
      · exact R8.2
      rw [List.mem_singleton.mp hv]
      exact R9.2
    have len8 : ([.ref L1, .ref L2, .ref L3, .ref L4, .ref L5] ++ [.ref L7, v8, .ref p1] : List V).length = 8 := rfl
    clear R1 R2 R3 R4 R5 R7 R8 R9 hp0 hp0'
    generalize ([.ref L1, .ref L2, .ref L3, .ref L4, .ref L5] ++ [.ref L7, v8, .ref p1] : List V) = us at s12 hp3 S12 k12 all8 new8 len8 ⊢
    generalize upd (upd H10 p2 (.lst [.ref L7, v8, .ref p1])) p3 (.lst us) = H12 at s12 hp3 S12 k12 ⊢
    have nw : ∀ v, NewL H H10 v → v ≠ .ref p3 := fun v h z => by
      rcases h with h | ⟨a, xs, e, _, f, _⟩
      · rw [h] at z
        cases z
      · rw [e] at z
        cases z
        rw [np3'] at f
        cases f
    -- one closed group
    refine ⟨.ref x, rfl, x, many, ms, rfl, S12.c, G, S12.t, fun L13 H13 g13 t13 n13 a13 => ?_⟩
    have S13 := S12.gr g13 t13
    have k13 : Kp H10 H13 := k12.trans (.tab S12.t g13)
    have hp13 := (Kp.tab S12.t g13).lst hp3
    obtain ⟨u13, e13, q13⟩ := a13
    refine ⟨L13, _, rfl, .inl (SqL.of e13), rfl, decide ((closedL many ms).length = 1), ?_, ?_⟩
    · rw [q13.length, len_one]
    by_cases c : (closedL many ms).length = 1
    · rw [decide_eq_true c]
      refine iteT ?_
      refine ⟨.ref p3, rfl, .inl ⟨rfl, _, SqL.of hp13⟩, .ref x, rfl, x, many, ms, rfl, S13.c, G, by omega, S13.t, fun g S zs z t H15 hg O g15 t15 nS hS hzs => ?_⟩
      have S15 := S13.gr g15 t15
      have k15 : Kp H10 H15 := k13.trans (.tab S13.t g15)
      have hp15 := (Kp.tab S13.t g15).lst hp13
      refine ⟨p3, _, _, rfl, rfl, hp15, lt1k (by omega), ?_⟩
      have nSp : S ≠ p3 := fun z => by rw [z, hp13] at nS; cases nS
      have kf : Kp H10 (upd H15 p3 (.lst (us ++ [.ref S]))) := fun b o n e => by
        rw [upd_ne (ne_of_none e np3')]
        exact k15 b o n e
      have hSf : (upd H15 p3 (.lst (us ++ [.ref S]))) S = some (.lst zs) := by rw [upd_ne nSp]; exact hS
      have hzf := hzs.mono (H' := upd H15 p3 (.lst (us ++ [.ref S]))) fun b xs e => by
        rw [upd_ne (fun z => by rw [z, hp15] at e; cases e)]
        exact e
      have nSH : H S = none := S13.free nS
      have np3H : H p3 = none := S10.free np3'
      have pT : p3 ≠ tI := fun z => by
        obtain ⟨ps, e, _⟩ := S15.t
        rw [← z, hp15] at e
        cases e
      refine ⟨.ref p3, rfl, q p3 (us ++ [.ref S]) _ _ (S15.g.put np3H) ?_ np3H upd_same (PDs.app (.cons (.lst hSf (pd_frsN hzf)) .nil) (all8.kp kf)) ⟨tr, d5, dd, _, tr3, D5, D9, ?_, rfl⟩ (by rw [List.length_append, len8]; exact Nat.le_refl _) fun v hv => ?_⟩
      · obtain ⟨ps, e, f⟩ := S15.t
        exact ⟨ps, by rw [upd_ne (Ne.symm pT)]; exact e, f⟩
      · unfold OwD
        rw [if_pos c]
        exact ⟨g, z, t, hg, O, rfl⟩
      · rcases List.mem_append.mp hv with hv | hv
        · exact ⟨(new8 v hv).kp kf, nw v (new8 v hv)⟩
        · rw [List.mem_singleton.mp hv]
          exact ⟨.inr ⟨S, zs, rfl, nSH, hSf, by rw [hzs.1]; omega⟩, fun z => by cases z; exact nSp rfl⟩
    · rw [decide_eq_false c]
      refine iteF ?_
      have np3H : H p3 = none := S10.free np3'
      refine ⟨.ref p3, rfl, q p3 us _ H13 S13.g S13.t np3H hp13 (all8.kp k13) ⟨tr, d5, dd, [], tr3, D5, D9, ?_, by rw [List.append_nil]⟩ (by omega) fun v hv => ⟨(new8 v hv).kp k13, nw v (new8 v hv)⟩⟩
      unfold OwD
      rw [if_neg c]
end
theorem small2k {n : Nat} (h : n ≤ 2000) : n < sizeLine := Nat.lt_of_le_of_lt h (by decide)
theorem Kp.at {H H' : Hp} (k : Kp H H') {a : Addr} {o : HO} (e : H a = some o) (n : ∀ q, o ≠ HO.tbl q) : H' a = some o := k a o n e
section
variable {P : Program} {w : World} {K : PySem.W.Frag} {mg : Str → Option Value} {base : Heap} {C : Addr}
/-! ### _law_spoil -/
theorem scSl : FnScope ["_law_told_here", "_law_one"] ["_law_told_here"] (defScope sLawSpoil) := ⟨rfl, rfl, rfl, by decide +kernel, rfl, by decide +kernel, by decide +kernel⟩
def spSl : Sp := fun vs H Q _ => ∃ (L : Addr) (us : List V), vs = [.ref L] ∧ H L = some (.lst us) ∧ us.length ≤ 9 ∧ V.ref L ∉ us ∧ (∀ v ∈ us, v = .non ∨ ∃ a xs, v = .ref a ∧ H a = some (.lst xs) ∧ xs.length ≤ 1000) ∧ ∀ H', (∀ b, V.ref b ∉ us → H' b = H b) → Q .non H'
theorem ok_spoil {k : Nat} {f : Addr} {fd : FuncData} (F : Fun K "_law_spoil" "_law_spoil" sLawSpoil f fd) : FnOk P w K mg base CX0 (k + 1) f fd ["_law_told_here"] spSl := by
  refine F.ok scSl (fun vs H Q E h => ?_) (fun cdv A outer s H vs Q E hr h => ?_)
  · obtain ⟨L, us, rfl, _⟩ := h
    rfl
  · obtain ⟨L, us, rfl, hL, u9, nL, hus, q⟩ := h
    refine ⟨_, (pss_one (ps_for PassesOwn.never rfl (pi_list (pv 0)) (pg_name (i := 1) scSl.nd rfl (.inl rfl)) (pss_one (ps_if (pt_cmpR op_notN (pv 1) pe_non (nomark _)) (pss_cons (ps_expr (pe_bm PySem.F.plainAttrs_list PySem.F.slot_list_append PySem.F.type_list_append mt_append (pv 1) (pa_cons pe_int pa_nil)))
      (pss_one (ps_expr (pe_bm0 PySem.F.plainAttrs_list PySem.F.slot_list_reverse PySem.F.type_list_reverse mt_reverse (pv 1))))) pss_nil)))), ?_⟩
    refine ⟨.ref L, rfl, L, rfl, ⟨_, SqL.of hL⟩, for_list (K := K) (a := L) (xs := us) (fun i σ H' => ∃ y1, σ = [some (.ref L), y1] ∧ (∀ b, V.ref b ∉ us → H' b = H b) ∧ ∀ v ∈ us, v = .non ∨ ∃ a xs, v = .ref a ∧ H' a = some (.lst xs) ∧ xs.length ≤ 1000 + i)
      ⟨none, rfl, fun _ _ => rfl, hus⟩ (fun i σ H' _ ⟨_, _, o, _⟩ => SqL.of (by rw [o L nL]; exact hL)) ?_ ?_⟩
    · rintro i v σ H1 hv ⟨y1, rfl, o1, h1⟩
      have hi : i < us.length := (List.getElem?_eq_some_iff.mp hv).1
      have mv := List.mem_of_getElem? hv
      rcases h1 v mv with rfl | ⟨a, xs, rfl, ha, la⟩
      · refine ⟨.non, rfl, rfl, false, by simp, iteF ⟨_, rfl, o1, fun z hz => ?_⟩⟩
        rcases h1 z hz with e | ⟨b, ys, e, hb, lb⟩
        · exact .inl e
        · exact .inr ⟨b, ys, e, hb, by omega⟩
      · refine ⟨.ref a, rfl, rfl, true, by simp, iteT ?_⟩
        refine ⟨.ref a, rfl, .inl ⟨rfl, _, SqL.of ha⟩, a, _, _, rfl, rfl, ha, small2k (by omega), ?_⟩
        refine ⟨.ref a, rfl, .inl ⟨rfl, _, SqL.of upd_same⟩, a, _, rfl, rfl, upd_same, ?_⟩
        refine ⟨_, rfl, fun b hb => ?_, fun z hz => ?_⟩
        · have n : b ≠ a := fun e => hb (by rw [e]; exact mv)
          rw [upd_ne n, upd_ne n]
          exact o1 b hb
        · rcases h1 z hz with e | ⟨b, ys, e, hb, lb⟩
          · exact .inl e
          · by_cases c : b = a
            · refine .inr ⟨a, _, by rw [e, c], upd_same, ?_⟩
              rw [List.length_reverse, List.length_append]
              show xs.length + 1 ≤ 1000 + (i + 1)
              omega
            · exact .inr ⟨b, ys, e, by rw [upd_ne c, upd_ne c]; exact hb, by omega⟩
    · rintro σ H1 ⟨y1, rfl, o1, _⟩
      exact q H1 o1
/-! ### the law -/
theorem scLaw : FnScope ["_law_script", "_law_first", "_law_second", "_law_moves", "_law_one", "_law_other", "_law_numbers_here", "_law_mine", "_law_theirs"] ["_law_script"] (defScope sLaw) := ⟨rfl, rfl, rfl, by decide +kernel, rfl, by decide +kernel, by decide +kernel⟩
theorem ok_law {f fc fd' fo fh fm fN fTd fSl fI fM cM tM tI : Addr} {fd fdc fdd fdo fdh fdm fdN fdTd fdSl fdI fdM : FuncData} (F : Fun K "law" "law" sLaw f fd) (T : LawTxt K mg fc fd' fo fdc fdd fdo) (Dh : Df K mg "_law_chain" sChain ["_law_d", "_law_most"] fh fdh)
    (CH : ChTxt K mg fM cM tM fdM C fI fdI) (TB : GxR.TabB base mg cM tM)
    (DM : Df K mg "_law_made" sMade ["_law_told_here"] fm fdm) (DN : Df K mg "_law_numbers" sNumbers ["_law_d", "_law_moves", "_law_most"] fN fdN) (DTd : Df K mg "_law_told" sLawTold ["_law_chain_here", "_law_numbers_here"] fTd fdTd) (DSl : Df K mg "_law_spoil" sLawSpoil ["_law_told_here"] fSl fdSl)
    (GTd : FnOk P w K mg base CX0 6 fTd fdTd ["_law_chain_here", "_law_numbers_here"] (spTd C tI)) (mL : mg "list" = none) : FnOk P w K mg base CX0 7 f fd ["_law_script"] (spLaw2 K tM tI) := by
  have GD' : FnOk P w K mg base CX0 2 fd' fdd ["_law_script", "_law_k"] (spDice K) := T.dice
  have GH : FnOk P w K mg base CX0 3 fh fdh ["_law_d", "_law_most"] (spChain K) := ok_chain Dh.F T
  have GN : FnOk P w K mg base CX0 3 fN fdN ["_law_d", "_law_moves", "_law_most"] (spNu K) := ok_numbers DN.F T
  have GI : FnOk P w K mg base CX0 2 fI fdI ["self", "many", "moves"] (spInitG C tM) := ok_initG CH TB
  have GM : FnOk P w K mg base CX0 4 fm fdm ["_law_told_here"] (spMade C tM) := ok_made DM.F CH TB
  have GSl : FnOk P w K mg base CX0 1 fSl fdSl ["_law_told_here"] spSl := ok_spoil DSl.F
  refine F.ok scLaw (fun vs H Q E h => ?_) (fun cdv A outer s H vs Q E hr h => ?_)
  · obtain ⟨a, ns, rfl, _⟩ := h
    rfl
  · obtain ⟨a, ns, rfl, hS, hl, hTM, hTI, q⟩ := h
    have hu := hu64 hr
    have r1 : Room 1 _ := hr.mono (by decide)
    have r2 : Room 2 _ := hr.mono (by decide)
    have r3 : Room 3 _ := hr.mono (by decide)
    have r4 : Room 4 _ := hr.mono (by decide)
    refine ⟨_, (pss_cons (ps_set (i := 1) scLaw.nd rfl (.inl rfl) (pe_call GH r3 (by rfl) Dh.g Dh.F.kp Dh.b .nil pass0 (pa_cons (pe_call GD' r2 (by rfl) T.gD T.FD.kp T.bD .nil pass0 (pa_cons (pv 0) (pa_cons pe_int pa_nil))) (pa_cons pe_int pa_nil))))
      (pss_cons (ps_set (i := 2) scLaw.nd rfl (.inl rfl) (pe_call GH r3 (by rfl) Dh.g Dh.F.kp Dh.b .nil pass0 (pa_cons (pe_call GD' r2 (by rfl) T.gD T.FD.kp T.bD .nil pass0 (pa_cons (pv 0) (pa_cons pe_int pa_nil))) (pa_cons pe_int pa_nil))))
      (pss_cons (ps_set (i := 3) scLaw.nd rfl (.inl rfl) (pe_callTy call_list_of (by rfl) mL (by decide +kernel) (pa_cons (pe_ix ix_tup (pv 1) pe_int (fun _ _ => rfl)) pa_nil)))
      (pss_cons (ps_set (i := 4) scLaw.nd rfl (.inl rfl) (pe_make CH.mC GI r3 (by rfl) CH.gC CH.bI .nil pass0 (pa_cons (pe_ix ix_tup (pv 1) pe_int (fun _ _ => rfl)) (pa_cons (pv 3) pa_nil))))
      (pss_cons (ps_set (i := 5) scLaw.nd rfl (.inl rfl) (pe_call GM r4 (by rfl) DM.g DM.F.kp DM.b .nil pass0 (pa_cons (pv 2) pa_nil)))
      (pss_cons (ps_expr (pe_bm0 PySem.F.plainAttrs_list PySem.F.slot_list_clear PySem.F.type_list_clear mt_clear (pv 3)))
      (pss_cons (ps_set (i := 6) scLaw.nd rfl (.inl rfl) (pe_call GN r3 (by rfl) DN.g DN.F.kp DN.b .nil pass0 (pa_cons (pe_call GD' r2 (by rfl) T.gD T.FD.kp T.bD .nil pass0 (pa_cons (pv 0) (pa_cons pe_int pa_nil))) (pa_cons (pe_ix ix_tup (pv 1) pe_int (fun _ _ => rfl)) (pa_cons pe_int pa_nil)))))
      (pss_cons (ps_set (i := 7) scLaw.nd rfl (.inl rfl) (pe_call GTd hr (by rfl) DTd.g DTd.F.kp DTd.b .nil pass0 (pa_cons (pv 4) (pa_cons (pv 6) pa_nil))))
      (pss_cons (ps_set (i := 8) scLaw.nd rfl (.inl rfl) (pe_call GTd hr (by rfl) DTd.g DTd.F.kp DTd.b .nil pass0 (pa_cons (pv 5) (pa_cons (pe_lst (pa_cons pe_int (pa_cons pe_int (pa_cons pe_int pa_nil)))) pa_nil))))
      (pss_cons (ps_expr (pe_call GSl r1 (by rfl) DSl.g DSl.F.kp DSl.b .nil pass0 (pa_cons (pe_call GTd hr (by rfl) DTd.g DTd.F.kp DTd.b .nil pass0 (pa_cons (pv 4) (pa_cons (pv 6) pa_nil))) pa_nil)))
      (pss_cons (ps_expr (pe_call GSl r1 (by rfl) DSl.g DSl.F.kp DSl.b .nil pass0 (pa_cons (pe_call GTd hr (by rfl) DTd.g DTd.F.kp DTd.b .nil pass0 (pa_cons (pv 5) (pa_cons (pe_lst (pa_cons pe_int (pa_cons pe_int (pa_cons pe_int pa_nil)))) pa_nil))) pa_nil)))
      (pss_one (ps_ret (pe_and (pe_cmpR (op_eqD hu) (pe_call GTd hr (by rfl) DTd.g DTd.F.kp DTd.b .nil pass0 (pa_cons (pv 4) (pa_cons (pv 6) pa_nil))) (pv 7) (nomark _)) (pe_one (pe_cmpR (op_eqD hu) (pe_call GTd hr (by rfl) DTd.g DTd.F.kp DTd.b .nil pass0 (pa_cons (pv 5) (pa_cons (pe_lst (pa_cons pe_int (pa_cons pe_int (pa_cons pe_int pa_nil)))) pa_nil))) (pv 8) (nomark _))))))))))))))))), ?_⟩
    -- the first chain, told
    refine ⟨.ref a, rfl, a, ns, 0, rfl, hS, hl, by decide, fun H1 d1 s1 nd1 hD1 => ?_⟩
    refine ⟨d1, a, ns, 4, rfl, hD1, by decide, by decide, fun t m many ws ms H2 G _ hT hD2 g2 => ?_⟩
    have hM2 := tab_gr hD1 g2 (tab_same s1 hTM)
    have hI2 := tab_gr hD1 g2 (tab_same s1 hTI)
    -- the second
    refine ⟨.ref a, rfl, a, ns, 1, rfl, hD2.seq, hl, by decide, fun H3 d3 s3 nd3 hD3 => ?_⟩
    refine ⟨d3, a, ns, 4, rfl, hD3, by decide, by decide, fun t' m' many' ws' ms' H4 G' _ hT' hD4 g4 => ?_⟩
    have hM4 := tab_gr hD3 g4 (tab_same s3 hM2)
    have hI4 := tab_gr hD3 g4 (tab_same s3 hI2)
    have hT4 := (hT.same s3).gr hD3 g4
    have m1 := G.m1
    have l1 := G.l1
    have l8 := G.l8
    have l1' := G'.l1
    have hS4 : SqL K H4 a (ns.map V.int) := hD4.seq
    clear hT hD2 g2 hM2 hI2 s3 hD3 nd3 g4 s1 hD1 nd1 hTM hTI hS
    -- its moves, and the chain of them
    refine ⟨.ref t, rfl, t, _, 1, _, rfl, rfl, SqT.of hT4.1, atI_nat (j := 1) rfl, m, ws, rfl, .inl (SqL.of hT4.2.1), fun l nl => ?_⟩
    have s5 := same_new (o := .lst ws) nl
    have hl5 : (upd H4 l (.lst ws)) l = some (.lst ws) := upd_same
    refine ⟨.ref t, rfl, t, _, 0, _, rfl, rfl, SqT.of (s5 _ _ hT4.1), atI_nat (j := 0) rfl, .ref l, rfl, fun x dx nx ndx nxd => ?_⟩
    generalize hH5 : upd H4 l (.lst ws) = H5 at s5 hl5 nx ndx ⊢
    have s6 : Same H5 (upd H5 dx (.own x)) := same_new ndx
    have nx' : (upd H5 dx (.own x)) x = none := by
      rw [upd_ne (Ne.symm nxd)]
      exact nx
    have s7 := s6.trans (same_new (o := .ins C dx []) nx')
    have hx7 : (upd (upd H5 dx (.own x)) x (.ins C dx [])) x = some (.ins C dx []) := upd_same
    generalize upd (upd H5 dx (.own x)) x (.ins C dx []) = H7 at s7 hx7 ⊢
    have hM7 := tab_same (s5.trans s7) hM4
    have hI7 := tab_same (s5.trans s7) hI4
    refine ⟨x, dx, l, many, ws, ms, rfl, hx7, s7 _ _ hl5, hT4.2.2.same (Same.tups (s5.trans s7)), G, hM7, fun H8 hc8 g8 hM8 => ⟨rfl, ?_⟩⟩
    obtain ⟨dx8, a8, ws8, hx8, ha8, hw8, na8⟩ := hc8
    have g58 : Gr tM H5 H8 := fun b o nb e => g8 b o (ne_of_none e nx) nb (s7 _ _ e)
    have k58 : Kp H5 H8 := .tab (tab_same s5 hM4) g58
    have hI8 := tab_two g58 hM8 (tab_same s5 hI4)
    have hl8 := k58.lst hl5
    have xl : x ≠ l := fun z => by rw [z, hl8] at hx8; cases hx8
    have al : a8 ≠ l := fun z => by rw [z, s7 _ _ hl5] at na8; cases na8
    have hT8 := (hT4.same s5).tab (tab_same s5 hM4) g58
    have hT8' := (hT'.same s5).tab (tab_same s5 hM4) g58
    -- the other chain
    refine ⟨.ref t', rfl, t', m', many', ws', ms', rfl, hT8', G', hM8, fun H9 x' hc9 nx9 g9 hM9 => ?_⟩
    have k9 : Kp H8 H9 := .tab hM8 g9
    have hI9 := tab_two g9 hM9 hI8
    have hl9 := k9.lst hl8
    have hx9 := k9.at hx8 (fun _ z => nomatch z)
    have ha9 := k9.lst ha8
    have hw9 := hw8.same fun b xs e => k9.tup e
    have hT9 := hT8.tab hM8 g9
    obtain ⟨dx9, a9, ws9, hx9', ha9', hw9', na9⟩ := hc9
    have xl' : x' ≠ l := fun z => by rw [z, hl9] at hx9'; cases hx9'
    have al' : a9 ≠ l := fun z => by rw [z, hl8] at na9; cases na9
    -- the moves are cleared
    refine ⟨.ref l, rfl, .inl ⟨rfl, _, SqL.of hl9⟩, l, _, rfl, rfl, hl9, ?_⟩
    have off : ∀ {b o}, b ≠ l → H9 b = some o → (upd H9 l (.lst [])) b = some o := fun n e => by
      rw [upd_ne n]
      exact e
    have tupl : ∀ b xs, H9 b = some (.tup xs) → (upd H9 l (.lst [])) b = some (.tup xs) := fun b xs e => off (fun z => by rw [z, hl9] at e; cases e) e
    have old : ∀ {b o}, H4 b = some o → b ≠ l := fun e => ne_of_none e nl
    have hC : ChainAt C (upd H9 l (.lst [])) x many ms := ⟨dx8, a8, ws8, off xl hx9, off al ha9, hw9.same tupl⟩
    have hC' : ChainAt C (upd H9 l (.lst [])) x' many' ms' := ⟨dx9, a9, ws9, off xl' hx9', off al' ha9', hw9'.same tupl⟩
    have hTc : ToldAt (upd H9 l (.lst [])) t m many ws ms := ⟨tupl _ _ hT9.1, off (old hT4.2.1) hT9.2.1, hT9.2.2.same tupl⟩
    have hI : GxR.TabG (upd H9 l (.lst [])) tI := by
      obtain ⟨ps, e, z⟩ := hI9
      exact ⟨ps, off (fun y => by rw [y, hl9] at e; cases e) e, z⟩
    have hSc : SqL K (upd H9 l (.lst [])) a (ns.map V.int) := by
      rcases hS4 with (h | ⟨o, h⟩) | h
      · exact .inl (.inl (off (old h) (k9.at (k58.at (s5 _ _ h) (fun _ z => nomatch z)) (fun _ z => nomatch z))))
      · exact .inl (.inr ⟨o, off (old h) (k9.at (k58.at (s5 _ _ h) (fun _ z => nomatch z)) (fun _ z => nomatch z))⟩)
      · exact .inr h
    clear hM4 hI4 hS4 hl5 s5 s6 s7 nx' hx7 hM7 hI7 g8 hM8 hx8 ha8 hw8 na8 g58 k58 hI8 hl8 hT8 hT8' k9 g9 hM9 hI9 hx9 ha9 hw9 hT9 hx9' ha9' hw9' na9 off tupl old hl9 nx9 hH5 nl hT4 hT' hD4
    generalize upd H9 l (.lst []) = H at hC hC' hTc hI hSc ⊢
    -- numbers
    refine ⟨.ref a, rfl, a, ns, 2, rfl, hSc, hl, by decide, fun H10 d s10 nd hD10 => ?_⟩
    have hT10 := hTc.same s10
    have lenW : ws.length = ms.length := hTc.2.2.length
    have nmd : m ≠ d := hD10.ne_of hT10.2.1 (moves_no_dl hT10.2.2)
    refine ⟨.ref t, rfl, t, _, 1, _, rfl, rfl, SqT.of hT10.1, atI_nat (j := 1) rfl, d, a, m, 12, ns, ws, rfl, hD10, hT10.2.1, nmd, by omega, by omega, by decide, fun r zs H11 hD11 g11 nr nrd hr11 hz1 hz2 => ?_⟩
    have hN : NumsOk ms zs := ⟨by omega, fun n hn => by rw [← lenW]; exact hz2 n hn⟩
    have hN0 : NumsOk ms' [0, 0, 0] := ⟨by decide, fun n hn => by
      have : n = 0 := by simpa using hn
      rw [this]
      omega⟩
    let St : Hp → Prop := fun H' => ChainAt C H' x many ms ∧ ChainAt C H' x' many' ms' ∧ H' r = some (.lst (zs.map V.int)) ∧ GxR.TabG H' tI
    have st : St H11 := ⟨(hC.same s10).gr hD10 g11, (hC'.same s10).gr hD10 g11, hr11, tab_gr hD10 g11 (tab_same s10 hI)⟩
    have St.kp : ∀ {H' H''}, Kp H' H'' → GxR.TabG H'' tI → St H' → St H'' := fun k t h => ⟨h.1.kp k, h.2.1.kp k, k.lst h.2.2.1, t⟩
    clear hC hC' hTc hI hSc s10 hD10 hT10 nmd g11 hD11 hr11 hz1 hz2 nr nrd nd
    -- mine
    refine ⟨.ref x, rfl, .ref r, rfl, x, r, many, ms, zs, rfl, st.1, G, st.2.2.1, hN, st.2.2.2, fun L1 us1 ds1 H12 g12 t12 n12 e12 p12 td1 l12 w12 => ?_⟩
    have k12 : Kp H11 H12 := .tab st.2.2.2 g12
    replace st := St.kp k12 t12 st
    have P1 : PD H12 (.ref L1) (.list ds1) := .lst e12 p12
    clear k12 g12 n12 e12 p12 l12 w12 t12
    -- theirs
    refine ⟨.ref x', rfl, (by show 3 ≤ sizeLine; decide), fun z3 nz3 => ?_⟩
    have s13 := same_new (o := .lst [.int 0, .int 0, .int 0]) nz3
    replace st := St.kp (.of s13) (tab_same s13 st.2.2.2) st
    replace P1 := P1.kp (.of s13)
    have hz3 : (upd H12 z3 (.lst [.int 0, .int 0, .int 0])) z3 = some (.lst (([0, 0, 0] : List Int).map V.int)) := upd_same
    refine ⟨x', z3, many', ms', [0, 0, 0], rfl, st.2.1, G', hz3, hN0, st.2.2.2, fun L2 us2 ds2 H14 g14 t14 n14 e14 p14 td2 l14 w14 => ?_⟩
    have k14 : Kp _ H14 := .tab st.2.2.2 g14
    replace st := St.kp k14 t14 st
    replace P1 := P1.kp k14
    have P2 : PD H14 (.ref L2) (.list ds2) := .lst e14 p14
    clear k14 g14 n14 e14 p14 l14 w14 t14 s13 hz3
    have spoilt : ∀ {H1 H2 H3 : Hp} {L : Addr} {us : List V}, GxR.TabG H1 tI → Gr tI H1 H2 → GxR.TabG H2 tI → (∀ v ∈ us, NewL H1 H2 v ∧ v ≠ .ref L) → (∀ b, V.ref b ∉ us → H3 b = H2 b) → Kp H1 H3 ∧ GxR.TabG H3 tI := fun {H1 H2 H3 L us} h1 g h2 w o => by
      have nin : ∀ {b u}, H1 b = some u → V.ref b ∉ us := fun {b u} e hm => by
        rcases (w _ hm).1 with z | ⟨c, xs, z, n, _, _⟩
        · cases z
        · cases z
          rw [n] at e
          cases e
      refine ⟨fun b u n e => ?_, ?_⟩
      · rw [o b (nin e)]
        exact g.tab h1 n e
      · obtain ⟨ps1, e1, z1⟩ := h1
        obtain ⟨ps, e, z⟩ := h2
        exact ⟨ps, by rw [o tI (nin e1)]; exact e, z⟩
    have pre : ∀ {H1 H2 : Hp} {L : Addr} {us : List V}, (∀ v ∈ us, NewL H1 H2 v ∧ v ≠ .ref L) → V.ref L ∉ us ∧ ∀ v ∈ us, v = .non ∨ ∃ a xs, v = .ref a ∧ H2 a = some (.lst xs) ∧ xs.length ≤ 1000 := fun w => ⟨fun hm => (w _ hm).2 rfl, fun v hv => by
      rcases (w v hv).1 with z | ⟨c, xs, z, _, f, lx⟩
      · exact .inl z
      · exact .inr ⟨c, xs, z, f, lx⟩⟩
    -- the first spoiling
    refine ⟨.ref x, rfl, .ref r, rfl, x, r, many, ms, zs, rfl, st.1, G, st.2.2.1, hN, st.2.2.2, fun L3 us3 ds3 H15 g15 t15 n15 e15 p15 td3 l15 w15 => ?_⟩
    refine ⟨L3, us3, rfl, e15, l15, (pre w15).1, (pre w15).2, fun H16 o16 => ?_⟩
    obtain ⟨k16, t16⟩ := spoilt st.2.2.2 g15 t15 w15 o16
    replace st := St.kp k16 t16 st
    replace P1 := P1.kp k16
    replace P2 := P2.kp k16
    clear k16 t16 g15 t15 n15 e15 p15 l15 w15 o16 td3
    -- the second
    refine ⟨.ref x', rfl, (by show 3 ≤ sizeLine; decide), fun z4 nz4 => ?_⟩
    have s17 := same_new (o := .lst [.int 0, .int 0, .int 0]) nz4
    replace st := St.kp (.of s17) (tab_same s17 st.2.2.2) st
    replace P1 := P1.kp (.of s17)
    replace P2 := P2.kp (.of s17)
    have hz4 : (upd H16 z4 (.lst [.int 0, .int 0, .int 0])) z4 = some (.lst (([0, 0, 0] : List Int).map V.int)) := upd_same
    refine ⟨x', z4, many', ms', [0, 0, 0], rfl, st.2.1, G', hz4, hN0, st.2.2.2, fun L4 us4 ds4 H18 g18 t18 n18 e18 p18 td4 l18 w18 => ?_⟩
    refine ⟨L4, us4, rfl, e18, l18, (pre w18).1, (pre w18).2, fun H19 o19 => ?_⟩
    obtain ⟨k19, t19⟩ := spoilt st.2.2.2 g18 t18 w18 o19
    replace st := St.kp k19 t19 st
    replace P1 := P1.kp k19
    replace P2 := P2.kp k19
    clear k19 t19 g18 t18 n18 e18 p18 l18 w18 o19 td4 s17 hz4
    -- asked again
    refine ⟨.ref x, rfl, .ref r, rfl, x, r, many, ms, zs, rfl, st.1, G, st.2.2.1, hN, st.2.2.2, fun L5 us5 ds5 H20 g20 t20 n20 e20 p20 td5 l20 w20 => ?_⟩
    have k20 : Kp H19 H20 := .tab st.2.2.2 g20
    replace st := St.kp k20 t20 st
    replace P1 := P1.kp k20
    replace P2 := P2.kp k20
    rw [td5.uniq G td1] at p20
    refine ⟨.ref L1, rfl, ?_⟩
    refine eq_same (PD.lst e20 p20).dp P1.dp td1.sh (by decide) ⟨true, rfl, iteT ?_⟩
    refine ⟨.ref x', rfl, (by show 3 ≤ sizeLine; decide), fun z5 nz5 => ?_⟩
    have s21 := same_new (o := .lst [.int 0, .int 0, .int 0]) nz5
    replace st := St.kp (.of s21) (tab_same s21 st.2.2.2) st
    replace P2 := P2.kp (.of s21)
    have hz5 : (upd H20 z5 (.lst [.int 0, .int 0, .int 0])) z5 = some (.lst (([0, 0, 0] : List Int).map V.int)) := upd_same
    refine ⟨x', z5, many', ms', [0, 0, 0], rfl, st.2.1, G', hz5, hN0, st.2.2.2, fun L6 us6 ds6 H22 g22 t22 n22 e22 p22 td6 l22 w22 => ?_⟩
    have k22 : Kp _ H22 := .tab st.2.2.2 g22
    replace P2 := P2.kp k22
    rw [td6.uniq G' td2] at p22
    refine ⟨.ref L2, rfl, ?_⟩
    exact eq_same (PD.lst e22 p22).dp P2.dp td2.sh (by decide) (q _)
end
/-! ### the end: the table of the generator's def -/
def TabOf (nm : Str) (mg : Str → Option Value) (h : Heap) : Prop := ∃ (a' : Addr) (o' : Obj) (fd' : FuncData) (c' P' : Addr) (oc : Obj) (vc : Array Value), mg nm = some (.ref a') ∧ h.get? a' = some o' ∧ o'.data = .func fd' ∧ fd'.code = .ref c' ∧
  h.get? c' = some oc ∧ oc.data = .fields vc ∧ vc[11]? = some (.ref P') ∧ h.get? P' = some { cls := .none, data := .fields #[] }
theorem walk_tab {l : PySem.W.OpenLaw} {n k : Nat} {q : Program} {loose : List Str} {XP : (Str → Option Value) → Heap → Prop} {YP : World → Heap → Prop} {d : DefRec} {K : Params → PySem.W.Frag} {CX : World → CXT} {x : Str} (nm : Str)
    (hn : l.most = some n) (hn2 : n ≤ sizeLine) (hdf : d.params.defaults = []) (hr : Room k callerA) (hrec : ((recsOf q).any fun e => e.name == nm) = true) (hY : ∀ (w : World) (h : Heap), YP w h → (K w.params).In h)
    (F : ∀ (w : World) (mg : Str → Option Value) (fa : Addr) (h : Heap), (K w.params).In h → h.Ns mainGlobals mg → mg d.name = some (.ref fa) → TabOf nm mg h → LamX.LawAtS l w (K w.params) (CX w) k n x mg fa h)
    (hCX : ∀ (w : World) (H : Hp) (s : Shared) (e : Value) (s' : Shared), CX w [] H s (fun _ _ _ => False) e s' → False) :
    PySem.W.WalkO q loose XP YP l.row.toRowW d [] (fun f vs => PySem.call f vs) := by
  refine Att.attach_callB hn hdf fun w s₀ s₁ mg mb fa o pm cd doc a vs ns G Y ho hd hcd hmg hobj hints hlen hbits hg => ?_
  obtain ⟨dL, m1, m2⟩ := List.any_eq_true.mp hrec
  obtain ⟨a', o', fd', c', P', g1, g2, g3, g4, _, ⟨oc, vc, e1, e2, e3, e4⟩, e5⟩ := G.T.tab dL m1
  rw [beq_iff_eq.mp m2] at g1
  have TO : TabOf nm mg s₁.heap := ⟨a', o', fd', c', P', oc, vc, g1, g2, g3, g4, e1, e3, e4, e5⟩
  obtain ⟨fd, cs, sp, hT, nT, Cd, hb, hsp, hF⟩ := F w mg fa _ (hY w _ Y) G.T.g hmg TO
  exact LamX.law_callTs (hY w _ Y) G.T.g G.T.b G.T.builtins G.T.nolimit hg hT nT Cd G.T.bmain hobj hints (Nat.le_trans hlen hn2) hr hF hb (fun H hH hS => hsp H a ns hlen hbits hH hS) fun H e s' => hCX w H s₁ e s'
theorem walk_tab2 {l : PySem.W.OpenLaw} {n k : Nat} {q : Program} {loose : List Str} {XP : (Str → Option Value) → Heap → Prop} {YP : World → Heap → Prop} {d : DefRec} {K : Params → PySem.W.Frag} {CX : World → CXT} {x : Str} (nm nm2 : Str)
    (hn : l.most = some n) (hn2 : n ≤ sizeLine) (hdf : d.params.defaults = []) (hr : Room k callerA) (hrec : ((recsOf q).any fun e => e.name == nm) = true) (hrec2 : ((recsOf q).any fun e => e.name == nm2) = true) (hY : ∀ (w : World) (h : Heap), YP w h → (K w.params).In h)
    (F : ∀ (w : World) (mg : Str → Option Value) (fa : Addr) (h : Heap), (K w.params).In h → h.Ns mainGlobals mg → mg d.name = some (.ref fa) → TabOf nm mg h → TabOf nm2 mg h → LamX.LawAtS l w (K w.params) (CX w) k n x mg fa h)
    (hCX : ∀ (w : World) (H : Hp) (s : Shared) (e : Value) (s' : Shared), CX w [] H s (fun _ _ _ => False) e s' → False) :
    PySem.W.WalkO q loose XP YP l.row.toRowW d [] (fun f vs => PySem.call f vs) := by
  refine Att.attach_callB hn hdf fun w s₀ s₁ mg mb fa o pm cd doc a vs ns G Y ho hd hcd hmg hobj hints hlen hbits hg => ?_
  have tabs : ∀ {z : Str}, ((recsOf q).any fun e => e.name == z) = true → TabOf z mg s₁.heap := fun {z} hz => by
    obtain ⟨dL, m1, m2⟩ := List.any_eq_true.mp hz
    obtain ⟨a', o', fd', c', P', g1, g2, g3, g4, _, ⟨oc, vc, e1, e2, e3, e4⟩, e5⟩ := G.T.tab dL m1
    rw [beq_iff_eq.mp m2] at g1
    exact ⟨a', o', fd', c', P', oc, vc, g1, g2, g3, g4, e1, e3, e4, e5⟩
  obtain ⟨fd, cs, sp, hT, nT, Cd, hb, hsp, hF⟩ := F w mg fa _ (hY w _ Y) G.T.g hmg (tabs hrec) (tabs hrec2)
  exact LamX.law_callTs (hY w _ Y) G.T.g G.T.b G.T.builtins G.T.nolimit hg hT nT Cd G.T.bmain hobj hints (Nat.le_trans hlen hn2) hr hF hb (fun H hH hS => hsp H a ns hlen hbits hH hS) fun H e s' => hCX w H s₁ e s'
/-! ### what the top has written -/
set_option maxHeartbeats 0 in
theorem all_mk {l : PySem.W.OpenLaw} {w : World} {K : PySem.W.Frag} {h : Heap} {mg : Str → Option Value} {fa : Addr} (X : K.In h) (G : h.Ns mainGlobals mg) (hfa : mg "law" = some (.ref fa)) (TO_is_move : TabOf "_is_move" mg h) (TO_is_closed : TabOf "_is_closed" mg h)
    {f_steps_of : Addr} {od_steps_of an_steps_of : Option Addr} {sl_steps_of : Array (Option Value)} {oc_steps_of kV_steps_of dc_steps_of pm_steps_of ct_steps_of cd_steps_of : Value}
    {f_together : Addr} {od_together an_together : Option Addr} {sl_together : Array (Option Value)} {oc_together kV_together dc_together pm_together ct_together cd_together : Value}
    {f_ends : Addr} {od_ends an_ends : Option Addr} {sl_ends : Array (Option Value)} {oc_ends kV_ends dc_ends pm_ends ct_ends cd_ends : Value}
    {f_drawn : Addr} {od_drawn an_drawn : Option Addr} {sl_drawn : Array (Option Value)} {oc_drawn kV_drawn dc_drawn pm_drawn ct_drawn cd_drawn : Value}
    {f_drawn_from : Addr} {od_drawn_from an_drawn_from : Option Addr} {sl_drawn_from : Array (Option Value)} {oc_drawn_from kV_drawn_from dc_drawn_from pm_drawn_from ct_drawn_from cd_drawn_from : Value}
    {f_are_one : Addr} {od_are_one an_are_one : Option Addr} {sl_are_one : Array (Option Value)} {oc_are_one kV_are_one dc_are_one pm_are_one ct_are_one cd_are_one : Value}
    {f_tries : Addr} {od_tries an_tries : Option Addr} {sl_tries : Array (Option Value)} {oc_tries kV_tries dc_tries pm_tries ct_tries cd_tries : Value}
    {f_fraction : Addr} {od_fraction an_fraction : Option Addr} {sl_fraction : Array (Option Value)} {oc_fraction kV_fraction dc_fraction pm_fraction ct_fraction cd_fraction : Value}
    {f_solved : Addr} {od_solved an_solved : Option Addr} {sl_solved : Array (Option Value)} {oc_solved kV_solved dc_solved pm_solved ct_solved cd_solved : Value}
    {f_bring_up : Addr} {od_bring_up an_bring_up : Option Addr} {sl_bring_up : Array (Option Value)} {oc_bring_up kV_bring_up dc_bring_up pm_bring_up ct_bring_up cd_bring_up : Value}
    {f_without : Addr} {od_without an_without : Option Addr} {sl_without : Array (Option Value)} {oc_without kV_without dc_without pm_without ct_without cd_without : Value}
    {f_everywhere : Addr} {od_everywhere an_everywhere : Option Addr} {sl_everywhere : Array (Option Value)} {oc_everywhere kV_everywhere dc_everywhere pm_everywhere ct_everywhere cd_everywhere : Value}
    {f_groups_from : Addr} {od_groups_from an_groups_from : Option Addr} {sl_groups_from : Array (Option Value)} {oc_groups_from kV_groups_from dc_groups_from pm_groups_from ct_groups_from cd_groups_from : Value}
    {f_led_to : Addr} {od_led_to an_led_to : Option Addr} {sl_led_to : Array (Option Value)} {oc_led_to kV_led_to dc_led_to pm_led_to ct_led_to cd_led_to : Value}
    {f_is_move : Addr} {od_is_move an_is_move : Option Addr} {sl_is_move : Array (Option Value)} {oc_is_move kV_is_move dc_is_move pm_is_move ct_is_move : Value}
    {cM_is_move tM_is_move : Addr} {eM_is_move : Value} {ddM_is_move : Option Addr} {vsM_is_move : Array Value} {slM_is_move : Array (Option Value)}
    {f_chances : Addr} {od_chances an_chances : Option Addr} {sl_chances : Array (Option Value)} {oc_chances kV_chances dc_chances pm_chances ct_chances cd_chances : Value}
    {f_weights : Addr} {od_weights an_weights : Option Addr} {sl_weights : Array (Option Value)} {oc_weights kV_weights dc_weights pm_weights ct_weights cd_weights : Value}
    {f_closed : Addr} {od_closed an_closed : Option Addr} {sl_closed : Array (Option Value)} {oc_closed kV_closed dc_closed pm_closed ct_closed cd_closed : Value}
    {f_reached : Addr} {od_reached an_reached : Option Addr} {sl_reached : Array (Option Value)} {oc_reached kV_reached dc_reached pm_reached ct_reached cd_reached : Value}
    {f_is_closed : Addr} {od_is_closed an_is_closed : Option Addr} {sl_is_closed : Array (Option Value)} {oc_is_closed kV_is_closed dc_is_closed pm_is_closed ct_is_closed : Value}
    {cM_is_closed tM_is_closed : Addr} {eM_is_closed : Value} {ddM_is_closed : Option Addr} {vsM_is_closed : Array Value} {slM_is_closed : Array (Option Value)}
    {f_own : Addr} {od_own an_own : Option Addr} {sl_own : Array (Option Value)} {oc_own kV_own dc_own pm_own ct_own cd_own : Value}
    {f_balance : Addr} {od_balance an_balance : Option Addr} {sl_balance : Array (Option Value)} {oc_balance kV_balance dc_balance pm_balance ct_balance cd_balance : Value}
    {f_meeting : Addr} {od_meeting an_meeting : Option Addr} {sl_meeting : Array (Option Value)} {oc_meeting kV_meeting dc_meeting pm_meeting ct_meeting cd_meeting : Value}
    {f_first_apart : Addr} {od_first_apart an_first_apart : Option Addr} {sl_first_apart : Array (Option Value)} {oc_first_apart kV_first_apart dc_first_apart pm_first_apart ct_first_apart cd_first_apart : Value}
    {f_row_to_one : Addr} {od_row_to_one an_row_to_one : Option Addr} {sl_row_to_one : Array (Option Value)} {oc_row_to_one kV_row_to_one dc_row_to_one pm_row_to_one ct_row_to_one cd_row_to_one : Value}
    {f_keeps_order : Addr} {od_keeps_order an_keeps_order : Option Addr} {sl_keeps_order : Array (Option Value)} {oc_keeps_order kV_keeps_order dc_keeps_order pm_keeps_order ct_keeps_order cd_keeps_order : Value}
    {f_first_order : Addr} {od_first_order an_first_order : Option Addr} {sl_first_order : Array (Option Value)} {oc_first_order kV_first_order dc_first_order pm_first_order ct_first_order cd_first_order : Value}
    {f_first_breaking : Addr} {od_first_breaking an_first_breaking : Option Addr} {sl_first_breaking : Array (Option Value)} {oc_first_breaking kV_first_breaking dc_first_breaking pm_first_breaking ct_first_breaking cd_first_breaking : Value}
    {f_keeps : Addr} {od_keeps an_keeps : Option Addr} {sl_keeps : Array (Option Value)} {oc_keeps kV_keeps dc_keeps pm_keeps ct_keeps cd_keeps : Value}
    {f_shares : Addr} {od_shares an_shares : Option Addr} {sl_shares : Array (Option Value)} {oc_shares kV_shares dc_shares pm_shares ct_shares cd_shares : Value}
    {f_behind_a_step : Addr} {od_behind_a_step an_behind_a_step : Option Addr} {sl_behind_a_step : Array (Option Value)} {oc_behind_a_step kV_behind_a_step dc_behind_a_step pm_behind_a_step ct_behind_a_step cd_behind_a_step : Value}
    {f_law_cell : Addr} {od_law_cell an_law_cell : Option Addr} {sl_law_cell : Array (Option Value)} {oc_law_cell kV_law_cell dc_law_cell pm_law_cell ct_law_cell cd_law_cell : Value}
    {f_law_dice : Addr} {od_law_dice an_law_dice : Option Addr} {sl_law_dice : Array (Option Value)} {oc_law_dice kV_law_dice dc_law_dice pm_law_dice ct_law_dice cd_law_dice : Value}
    {f_law_off : Addr} {od_law_off an_law_off : Option Addr} {sl_law_off : Array (Option Value)} {oc_law_off kV_law_off dc_law_off pm_law_off ct_law_off cd_law_off : Value}
    {f_law_chain : Addr} {od_law_chain an_law_chain : Option Addr} {sl_law_chain : Array (Option Value)} {oc_law_chain kV_law_chain dc_law_chain pm_law_chain ct_law_chain cd_law_chain : Value}
    {f_law_made : Addr} {od_law_made an_law_made : Option Addr} {sl_law_made : Array (Option Value)} {oc_law_made kV_law_made dc_law_made pm_law_made ct_law_made cd_law_made : Value}
    {f_law_numbers : Addr} {od_law_numbers an_law_numbers : Option Addr} {sl_law_numbers : Array (Option Value)} {oc_law_numbers kV_law_numbers dc_law_numbers pm_law_numbers ct_law_numbers cd_law_numbers : Value}
    {f_law_told : Addr} {od_law_told an_law_told : Option Addr} {sl_law_told : Array (Option Value)} {oc_law_told kV_law_told dc_law_told pm_law_told ct_law_told cd_law_told : Value}
    {f_law_spoil : Addr} {od_law_spoil an_law_spoil : Option Addr} {sl_law_spoil : Array (Option Value)} {oc_law_spoil kV_law_spoil dc_law_spoil pm_law_spoil ct_law_spoil cd_law_spoil : Value}
    {f_law : Addr} {od_law an_law : Option Addr} {sl_law : Array (Option Value)} {oc_law kV_law dc_law pm_law ct_law cd_law : Value}
    {C : Addr}
    {f_minit : Addr} {od_minit an_minit : Option Addr} {sl_minit : Array (Option Value)} {oc_minit kV_minit dc_minit pm_minit cd_minit ct_minit : Value}
    {f_mplaces : Addr} {od_mplaces an_mplaces : Option Addr} {sl_mplaces : Array (Option Value)} {oc_mplaces kV_mplaces dc_mplaces pm_mplaces cd_mplaces ct_mplaces : Value}
    {f_mtold : Addr} {od_mtold an_mtold : Option Addr} {sl_mtold : Array (Option Value)} {oc_mtold kV_mtold dc_mtold pm_mtold cd_mtold ct_mtold : Value}
    {tMOST_PLACES : Tok}
    {tMOST_MOVES : Tok}
    {tMOST_WEIGHT : Tok}
    {tMOST_FAR : Tok}
    (a_steps_of : PySem.W.nsIn K mainGlobals "steps_of" = some (some (.ref f_steps_of)))
    (l_steps_of : K.lookup f_steps_of = some ⟨oc_steps_of, od_steps_of, .func (PySem.W.fnOf "steps_of" "steps_of" (defArgs sStepsOf) (defBody sStepsOf) (defScope sStepsOf) .none kV_steps_of dc_steps_of pm_steps_of an_steps_of cd_steps_of ct_steps_of), sl_steps_of⟩)
    (c_steps_of : PySem.W.codeIn K cd_steps_of "steps_of" = true)
    (k_steps_of : PySem.W.keepIn K (.ref f_steps_of) = true)
    (a_together : PySem.W.nsIn K mainGlobals "together" = some (some (.ref f_together)))
    (l_together : K.lookup f_together = some ⟨oc_together, od_together, .func (PySem.W.fnOf "together" "together" (defArgs sTogether) (defBody sTogether) (defScope sTogether) .none kV_together dc_together pm_together an_together cd_together ct_together), sl_together⟩)
    (c_together : PySem.W.codeIn K cd_together "together" = true)
    (k_together : PySem.W.keepIn K (.ref f_together) = true)
    (a_ends : PySem.W.nsIn K mainGlobals "_ends" = some (some (.ref f_ends)))
    (l_ends : K.lookup f_ends = some ⟨oc_ends, od_ends, .func (PySem.W.fnOf "_ends" "_ends" (defArgs sEnds) (defBody sEnds) (defScope sEnds) .none kV_ends dc_ends pm_ends an_ends cd_ends ct_ends), sl_ends⟩)
    (c_ends : PySem.W.codeIn K cd_ends "_ends" = true)
    (k_ends : PySem.W.keepIn K (.ref f_ends) = true)
    (a_drawn : PySem.W.nsIn K mainGlobals "drawn" = some (some (.ref f_drawn)))
    (l_drawn : K.lookup f_drawn = some ⟨oc_drawn, od_drawn, .func (PySem.W.fnOf "drawn" "drawn" (defArgs sDrawn) (defBody sDrawn) (defScope sDrawn) .none kV_drawn dc_drawn pm_drawn an_drawn cd_drawn ct_drawn), sl_drawn⟩)
    (c_drawn : PySem.W.codeIn K cd_drawn "drawn" = true)
    (k_drawn : PySem.W.keepIn K (.ref f_drawn) = true)
    (a_drawn_from : PySem.W.nsIn K mainGlobals "drawn_from" = some (some (.ref f_drawn_from)))
    (l_drawn_from : K.lookup f_drawn_from = some ⟨oc_drawn_from, od_drawn_from, .func (PySem.W.fnOf "drawn_from" "drawn_from" (defArgs sDrawnFrom) (defBody sDrawnFrom) (defScope sDrawnFrom) .none kV_drawn_from dc_drawn_from pm_drawn_from an_drawn_from cd_drawn_from ct_drawn_from), sl_drawn_from⟩)
    (c_drawn_from : PySem.W.codeIn K cd_drawn_from "drawn_from" = true)
    (k_drawn_from : PySem.W.keepIn K (.ref f_drawn_from) = true)
    (a_are_one : PySem.W.nsIn K mainGlobals "_are_one" = some (some (.ref f_are_one)))
    (l_are_one : K.lookup f_are_one = some ⟨oc_are_one, od_are_one, .func (PySem.W.fnOf "_are_one" "_are_one" (defArgs sAreOne) (defBody sAreOne) (defScope sAreOne) .none kV_are_one dc_are_one pm_are_one an_are_one cd_are_one ct_are_one), sl_are_one⟩)
    (c_are_one : PySem.W.codeIn K cd_are_one "_are_one" = true)
    (k_are_one : PySem.W.keepIn K (.ref f_are_one) = true)
    (a_tries : PySem.W.nsIn K mainGlobals "tries" = some (some (.ref f_tries)))
    (l_tries : K.lookup f_tries = some ⟨oc_tries, od_tries, .func (PySem.W.fnOf "tries" "tries" (defArgs sTries) (defBody sTries) (defScope sTries) .none kV_tries dc_tries pm_tries an_tries cd_tries ct_tries), sl_tries⟩)
    (c_tries : PySem.W.codeIn K cd_tries "tries" = true)
    (k_tries : PySem.W.keepIn K (.ref f_tries) = true)
    (a_fraction : PySem.W.nsIn K mainGlobals "fraction" = some (some (.ref f_fraction)))
    (l_fraction : K.lookup f_fraction = some ⟨oc_fraction, od_fraction, .func (PySem.W.fnOf "fraction" "fraction" (defArgs sFraction) (defBody sFraction) (defScope sFraction) .none kV_fraction dc_fraction pm_fraction an_fraction cd_fraction ct_fraction), sl_fraction⟩)
    (c_fraction : PySem.W.codeIn K cd_fraction "fraction" = true)
    (k_fraction : PySem.W.keepIn K (.ref f_fraction) = true)
    (a_solved : PySem.W.nsIn K mainGlobals "solved" = some (some (.ref f_solved)))
    (l_solved : K.lookup f_solved = some ⟨oc_solved, od_solved, .func (PySem.W.fnOf "solved" "solved" (defArgs sSolved) (defBody sSolved) (defScope sSolved) .none kV_solved dc_solved pm_solved an_solved cd_solved ct_solved), sl_solved⟩)
    (c_solved : PySem.W.codeIn K cd_solved "solved" = true)
    (k_solved : PySem.W.keepIn K (.ref f_solved) = true)
    (a_bring_up : PySem.W.nsIn K mainGlobals "_bring_up" = some (some (.ref f_bring_up)))
    (l_bring_up : K.lookup f_bring_up = some ⟨oc_bring_up, od_bring_up, .func (PySem.W.fnOf "_bring_up" "_bring_up" (defArgs sBringUp) (defBody sBringUp) (defScope sBringUp) .none kV_bring_up dc_bring_up pm_bring_up an_bring_up cd_bring_up ct_bring_up), sl_bring_up⟩)
    (c_bring_up : PySem.W.codeIn K cd_bring_up "_bring_up" = true)
    (k_bring_up : PySem.W.keepIn K (.ref f_bring_up) = true)
    (a_without : PySem.W.nsIn K mainGlobals "_without" = some (some (.ref f_without)))
    (l_without : K.lookup f_without = some ⟨oc_without, od_without, .func (PySem.W.fnOf "_without" "_without" (defArgs sWithout) (defBody sWithout) (defScope sWithout) .none kV_without dc_without pm_without an_without cd_without ct_without), sl_without⟩)
    (c_without : PySem.W.codeIn K cd_without "_without" = true)
    (k_without : PySem.W.keepIn K (.ref f_without) = true)
    (a_everywhere : PySem.W.nsIn K mainGlobals "everywhere" = some (some (.ref f_everywhere)))
    (l_everywhere : K.lookup f_everywhere = some ⟨oc_everywhere, od_everywhere, .func (PySem.W.fnOf "everywhere" "everywhere" (defArgs sEverywhere) (defBody sEverywhere) (defScope sEverywhere) .none kV_everywhere dc_everywhere pm_everywhere an_everywhere cd_everywhere ct_everywhere), sl_everywhere⟩)
    (c_everywhere : PySem.W.codeIn K cd_everywhere "everywhere" = true)
    (k_everywhere : PySem.W.keepIn K (.ref f_everywhere) = true)
    (a_groups_from : PySem.W.nsIn K mainGlobals "groups_from" = some (some (.ref f_groups_from)))
    (l_groups_from : K.lookup f_groups_from = some ⟨oc_groups_from, od_groups_from, .func (PySem.W.fnOf "groups_from" "groups_from" (defArgs sGroupsFrom) (defBody sGroupsFrom) (defScope sGroupsFrom) .none kV_groups_from dc_groups_from pm_groups_from an_groups_from cd_groups_from ct_groups_from), sl_groups_from⟩)
    (c_groups_from : PySem.W.codeIn K cd_groups_from "groups_from" = true)
    (k_groups_from : PySem.W.keepIn K (.ref f_groups_from) = true)
    (a_led_to : PySem.W.nsIn K mainGlobals "led_to" = some (some (.ref f_led_to)))
    (l_led_to : K.lookup f_led_to = some ⟨oc_led_to, od_led_to, .func (PySem.W.fnOf "led_to" "led_to" (defArgs sLedTo) (defBody sLedTo) (defScope sLedTo) .none kV_led_to dc_led_to pm_led_to an_led_to cd_led_to ct_led_to), sl_led_to⟩)
    (c_led_to : PySem.W.codeIn K cd_led_to "led_to" = true)
    (k_led_to : PySem.W.keepIn K (.ref f_led_to) = true)
    (a_is_move : PySem.W.nsIn K mainGlobals "_is_move" = some (some (.ref f_is_move)))
    (l_is_move : K.lookup f_is_move = some ⟨oc_is_move, od_is_move, .func (PySem.W.fnOf "_is_move" "_is_move" (defArgs sIsMove) (defBody sIsMove) (defScope sIsMove) .none kV_is_move dc_is_move pm_is_move an_is_move (.ref cM_is_move) ct_is_move), sl_is_move⟩)
    (c_is_move : PySem.W.codeIn K (.ref cM_is_move) "_is_move" = true)
    (k_is_move : PySem.W.keepIn K (.ref f_is_move) = true)
    (a_chances : PySem.W.nsIn K mainGlobals "chances" = some (some (.ref f_chances)))
    (l_chances : K.lookup f_chances = some ⟨oc_chances, od_chances, .func (PySem.W.fnOf "chances" "chances" (defArgs sChances) (defBody sChances) (defScope sChances) .none kV_chances dc_chances pm_chances an_chances cd_chances ct_chances), sl_chances⟩)
    (c_chances : PySem.W.codeIn K cd_chances "chances" = true)
    (k_chances : PySem.W.keepIn K (.ref f_chances) = true)
    (a_weights : PySem.W.nsIn K mainGlobals "_weights" = some (some (.ref f_weights)))
    (l_weights : K.lookup f_weights = some ⟨oc_weights, od_weights, .func (PySem.W.fnOf "_weights" "_weights" (defArgs sWeights) (defBody sWeights) (defScope sWeights) .none kV_weights dc_weights pm_weights an_weights cd_weights ct_weights), sl_weights⟩)
    (c_weights : PySem.W.codeIn K cd_weights "_weights" = true)
    (k_weights : PySem.W.keepIn K (.ref f_weights) = true)
    (a_closed : PySem.W.nsIn K mainGlobals "closed" = some (some (.ref f_closed)))
    (l_closed : K.lookup f_closed = some ⟨oc_closed, od_closed, .func (PySem.W.fnOf "closed" "closed" (defArgs sClosed) (defBody sClosed) (defScope sClosed) .none kV_closed dc_closed pm_closed an_closed cd_closed ct_closed), sl_closed⟩)
    (c_closed : PySem.W.codeIn K cd_closed "closed" = true)
    (k_closed : PySem.W.keepIn K (.ref f_closed) = true)
    (a_reached : PySem.W.nsIn K mainGlobals "_reached" = some (some (.ref f_reached)))
    (l_reached : K.lookup f_reached = some ⟨oc_reached, od_reached, .func (PySem.W.fnOf "_reached" "_reached" (defArgs sReached) (defBody sReached) (defScope sReached) .none kV_reached dc_reached pm_reached an_reached cd_reached ct_reached), sl_reached⟩)
    (c_reached : PySem.W.codeIn K cd_reached "_reached" = true)
    (k_reached : PySem.W.keepIn K (.ref f_reached) = true)
    (a_is_closed : PySem.W.nsIn K mainGlobals "_is_closed" = some (some (.ref f_is_closed)))
    (l_is_closed : K.lookup f_is_closed = some ⟨oc_is_closed, od_is_closed, .func (PySem.W.fnOf "_is_closed" "_is_closed" (defArgs sIsClosed) (defBody sIsClosed) (defScope sIsClosed) .none kV_is_closed dc_is_closed pm_is_closed an_is_closed (.ref cM_is_closed) ct_is_closed), sl_is_closed⟩)
    (c_is_closed : PySem.W.codeIn K (.ref cM_is_closed) "_is_closed" = true)
    (k_is_closed : PySem.W.keepIn K (.ref f_is_closed) = true)
    (a_own : PySem.W.nsIn K mainGlobals "own" = some (some (.ref f_own)))
    (l_own : K.lookup f_own = some ⟨oc_own, od_own, .func (PySem.W.fnOf "own" "own" (defArgs sOwn) (defBody sOwn) (defScope sOwn) .none kV_own dc_own pm_own an_own cd_own ct_own), sl_own⟩)
    (c_own : PySem.W.codeIn K cd_own "own" = true)
    (k_own : PySem.W.keepIn K (.ref f_own) = true)
    (a_balance : PySem.W.nsIn K mainGlobals "_balance" = some (some (.ref f_balance)))
    (l_balance : K.lookup f_balance = some ⟨oc_balance, od_balance, .func (PySem.W.fnOf "_balance" "_balance" (defArgs sBalance) (defBody sBalance) (defScope sBalance) .none kV_balance dc_balance pm_balance an_balance cd_balance ct_balance), sl_balance⟩)
    (c_balance : PySem.W.codeIn K cd_balance "_balance" = true)
    (k_balance : PySem.W.keepIn K (.ref f_balance) = true)
    (a_meeting : PySem.W.nsIn K mainGlobals "meeting" = some (some (.ref f_meeting)))
    (l_meeting : K.lookup f_meeting = some ⟨oc_meeting, od_meeting, .func (PySem.W.fnOf "meeting" "meeting" (defArgs sMeeting) (defBody sMeeting) (defScope sMeeting) .none kV_meeting dc_meeting pm_meeting an_meeting cd_meeting ct_meeting), sl_meeting⟩)
    (c_meeting : PySem.W.codeIn K cd_meeting "meeting" = true)
    (k_meeting : PySem.W.keepIn K (.ref f_meeting) = true)
    (a_first_apart : PySem.W.nsIn K mainGlobals "_first_apart" = some (some (.ref f_first_apart)))
    (l_first_apart : K.lookup f_first_apart = some ⟨oc_first_apart, od_first_apart, .func (PySem.W.fnOf "_first_apart" "_first_apart" (defArgs sFirstApart) (defBody sFirstApart) (defScope sFirstApart) .none kV_first_apart dc_first_apart pm_first_apart an_first_apart cd_first_apart ct_first_apart), sl_first_apart⟩)
    (c_first_apart : PySem.W.codeIn K cd_first_apart "_first_apart" = true)
    (k_first_apart : PySem.W.keepIn K (.ref f_first_apart) = true)
    (a_row_to_one : PySem.W.nsIn K mainGlobals "_row_to_one" = some (some (.ref f_row_to_one)))
    (l_row_to_one : K.lookup f_row_to_one = some ⟨oc_row_to_one, od_row_to_one, .func (PySem.W.fnOf "_row_to_one" "_row_to_one" (defArgs sRowToOne) (defBody sRowToOne) (defScope sRowToOne) .none kV_row_to_one dc_row_to_one pm_row_to_one an_row_to_one cd_row_to_one ct_row_to_one), sl_row_to_one⟩)
    (c_row_to_one : PySem.W.codeIn K cd_row_to_one "_row_to_one" = true)
    (k_row_to_one : PySem.W.keepIn K (.ref f_row_to_one) = true)
    (a_keeps_order : PySem.W.nsIn K mainGlobals "keeps_order" = some (some (.ref f_keeps_order)))
    (l_keeps_order : K.lookup f_keeps_order = some ⟨oc_keeps_order, od_keeps_order, .func (PySem.W.fnOf "keeps_order" "keeps_order" (defArgs sKeepsOrder) (defBody sKeepsOrder) (defScope sKeepsOrder) .none kV_keeps_order dc_keeps_order pm_keeps_order an_keeps_order cd_keeps_order ct_keeps_order), sl_keeps_order⟩)
    (c_keeps_order : PySem.W.codeIn K cd_keeps_order "keeps_order" = true)
    (k_keeps_order : PySem.W.keepIn K (.ref f_keeps_order) = true)
    (a_first_order : PySem.W.nsIn K mainGlobals "first_order" = some (some (.ref f_first_order)))
    (l_first_order : K.lookup f_first_order = some ⟨oc_first_order, od_first_order, .func (PySem.W.fnOf "first_order" "first_order" (defArgs sFirstOrder) (defBody sFirstOrder) (defScope sFirstOrder) .none kV_first_order dc_first_order pm_first_order an_first_order cd_first_order ct_first_order), sl_first_order⟩)
    (c_first_order : PySem.W.codeIn K cd_first_order "first_order" = true)
    (k_first_order : PySem.W.keepIn K (.ref f_first_order) = true)
    (a_first_breaking : PySem.W.nsIn K mainGlobals "_first_breaking" = some (some (.ref f_first_breaking)))
    (l_first_breaking : K.lookup f_first_breaking = some ⟨oc_first_breaking, od_first_breaking, .func (PySem.W.fnOf "_first_breaking" "_first_breaking" (defArgs sFirstBreaking) (defBody sFirstBreaking) (defScope sFirstBreaking) .none kV_first_breaking dc_first_breaking pm_first_breaking an_first_breaking cd_first_breaking ct_first_breaking), sl_first_breaking⟩)
    (c_first_breaking : PySem.W.codeIn K cd_first_breaking "_first_breaking" = true)
    (k_first_breaking : PySem.W.keepIn K (.ref f_first_breaking) = true)
    (a_keeps : PySem.W.nsIn K mainGlobals "_keeps" = some (some (.ref f_keeps)))
    (l_keeps : K.lookup f_keeps = some ⟨oc_keeps, od_keeps, .func (PySem.W.fnOf "_keeps" "_keeps" (defArgs sKeeps) (defBody sKeeps) (defScope sKeeps) .none kV_keeps dc_keeps pm_keeps an_keeps cd_keeps ct_keeps), sl_keeps⟩)
    (c_keeps : PySem.W.codeIn K cd_keeps "_keeps" = true)
    (k_keeps : PySem.W.keepIn K (.ref f_keeps) = true)
    (a_shares : PySem.W.nsIn K mainGlobals "shares" = some (some (.ref f_shares)))
    (l_shares : K.lookup f_shares = some ⟨oc_shares, od_shares, .func (PySem.W.fnOf "shares" "shares" (defArgs sShares) (defBody sShares) (defScope sShares) .none kV_shares dc_shares pm_shares an_shares cd_shares ct_shares), sl_shares⟩)
    (c_shares : PySem.W.codeIn K cd_shares "shares" = true)
    (k_shares : PySem.W.keepIn K (.ref f_shares) = true)
    (a_behind_a_step : PySem.W.nsIn K mainGlobals "_behind_a_step" = some (some (.ref f_behind_a_step)))
    (l_behind_a_step : K.lookup f_behind_a_step = some ⟨oc_behind_a_step, od_behind_a_step, .func (PySem.W.fnOf "_behind_a_step" "_behind_a_step" (defArgs sBehindAStep) (defBody sBehindAStep) (defScope sBehindAStep) .none kV_behind_a_step dc_behind_a_step pm_behind_a_step an_behind_a_step cd_behind_a_step ct_behind_a_step), sl_behind_a_step⟩)
    (c_behind_a_step : PySem.W.codeIn K cd_behind_a_step "_behind_a_step" = true)
    (k_behind_a_step : PySem.W.keepIn K (.ref f_behind_a_step) = true)
    (a_law_cell : PySem.W.nsIn K mainGlobals "_law_cell" = some (some (.ref f_law_cell)))
    (l_law_cell : K.lookup f_law_cell = some ⟨oc_law_cell, od_law_cell, .func (PySem.W.fnOf "_law_cell" "_law_cell" (defArgs sCell) (defBody sCell) (defScope sCell) .none kV_law_cell dc_law_cell pm_law_cell an_law_cell cd_law_cell ct_law_cell), sl_law_cell⟩)
    (c_law_cell : PySem.W.codeIn K cd_law_cell "_law_cell" = true)
    (k_law_cell : PySem.W.keepIn K (.ref f_law_cell) = true)
    (a_law_dice : PySem.W.nsIn K mainGlobals "_law_dice" = some (some (.ref f_law_dice)))
    (l_law_dice : K.lookup f_law_dice = some ⟨oc_law_dice, od_law_dice, .func (PySem.W.fnOf "_law_dice" "_law_dice" (defArgs sDice) (defBody sDice) (defScope sDice) .none kV_law_dice dc_law_dice pm_law_dice an_law_dice cd_law_dice ct_law_dice), sl_law_dice⟩)
    (c_law_dice : PySem.W.codeIn K cd_law_dice "_law_dice" = true)
    (k_law_dice : PySem.W.keepIn K (.ref f_law_dice) = true)
    (a_law_off : PySem.W.nsIn K mainGlobals "_law_off" = some (some (.ref f_law_off)))
    (l_law_off : K.lookup f_law_off = some ⟨oc_law_off, od_law_off, .func (PySem.W.fnOf "_law_off" "_law_off" (defArgs sOff) (defBody sOff) (defScope sOff) .none kV_law_off dc_law_off pm_law_off an_law_off cd_law_off ct_law_off), sl_law_off⟩)
    (c_law_off : PySem.W.codeIn K cd_law_off "_law_off" = true)
    (k_law_off : PySem.W.keepIn K (.ref f_law_off) = true)
    (a_law_chain : PySem.W.nsIn K mainGlobals "_law_chain" = some (some (.ref f_law_chain)))
    (l_law_chain : K.lookup f_law_chain = some ⟨oc_law_chain, od_law_chain, .func (PySem.W.fnOf "_law_chain" "_law_chain" (defArgs sChain) (defBody sChain) (defScope sChain) .none kV_law_chain dc_law_chain pm_law_chain an_law_chain cd_law_chain ct_law_chain), sl_law_chain⟩)
    (c_law_chain : PySem.W.codeIn K cd_law_chain "_law_chain" = true)
    (k_law_chain : PySem.W.keepIn K (.ref f_law_chain) = true)
    (a_law_made : PySem.W.nsIn K mainGlobals "_law_made" = some (some (.ref f_law_made)))
    (l_law_made : K.lookup f_law_made = some ⟨oc_law_made, od_law_made, .func (PySem.W.fnOf "_law_made" "_law_made" (defArgs sMade) (defBody sMade) (defScope sMade) .none kV_law_made dc_law_made pm_law_made an_law_made cd_law_made ct_law_made), sl_law_made⟩)
    (c_law_made : PySem.W.codeIn K cd_law_made "_law_made" = true)
    (k_law_made : PySem.W.keepIn K (.ref f_law_made) = true)
    (a_law_numbers : PySem.W.nsIn K mainGlobals "_law_numbers" = some (some (.ref f_law_numbers)))
    (l_law_numbers : K.lookup f_law_numbers = some ⟨oc_law_numbers, od_law_numbers, .func (PySem.W.fnOf "_law_numbers" "_law_numbers" (defArgs sNumbers) (defBody sNumbers) (defScope sNumbers) .none kV_law_numbers dc_law_numbers pm_law_numbers an_law_numbers cd_law_numbers ct_law_numbers), sl_law_numbers⟩)
    (c_law_numbers : PySem.W.codeIn K cd_law_numbers "_law_numbers" = true)
    (k_law_numbers : PySem.W.keepIn K (.ref f_law_numbers) = true)
    (a_law_told : PySem.W.nsIn K mainGlobals "_law_told" = some (some (.ref f_law_told)))
    (l_law_told : K.lookup f_law_told = some ⟨oc_law_told, od_law_told, .func (PySem.W.fnOf "_law_told" "_law_told" (defArgs sLawTold) (defBody sLawTold) (defScope sLawTold) .none kV_law_told dc_law_told pm_law_told an_law_told cd_law_told ct_law_told), sl_law_told⟩)
    (c_law_told : PySem.W.codeIn K cd_law_told "_law_told" = true)
    (k_law_told : PySem.W.keepIn K (.ref f_law_told) = true)
    (a_law_spoil : PySem.W.nsIn K mainGlobals "_law_spoil" = some (some (.ref f_law_spoil)))
    (l_law_spoil : K.lookup f_law_spoil = some ⟨oc_law_spoil, od_law_spoil, .func (PySem.W.fnOf "_law_spoil" "_law_spoil" (defArgs sLawSpoil) (defBody sLawSpoil) (defScope sLawSpoil) .none kV_law_spoil dc_law_spoil pm_law_spoil an_law_spoil cd_law_spoil ct_law_spoil), sl_law_spoil⟩)
    (c_law_spoil : PySem.W.codeIn K cd_law_spoil "_law_spoil" = true)
    (k_law_spoil : PySem.W.keepIn K (.ref f_law_spoil) = true)
    (a_law : PySem.W.nsIn K mainGlobals "law" = some (some (.ref f_law)))
    (l_law : K.lookup f_law = some ⟨oc_law, od_law, .func (PySem.W.fnOf "law" "law" (defArgs sLaw) (defBody sLaw) (defScope sLaw) .none kV_law dc_law pm_law an_law cd_law ct_law), sl_law⟩)
    (c_law : PySem.W.codeIn K cd_law "law" = true)
    (k_law : PySem.W.keepIn K (.ref f_law) = true)
    (aC : PySem.W.nsIn K mainGlobals "Chain" = some (some (.ref C)))
    (a_minit : PySem.W.findIn K (.ref C) "__init__" = some (some (.ref f_minit)))
    (i_minit : PySem.W.isFn K (.ref f_minit) = true)
    (l_minit : K.lookup f_minit = some ⟨oc_minit, od_minit, .func (PySem.W.fnOf "__init__" "Chain.__init__" (defArgs (inClass cChain 0)) (defBody (inClass cChain 0)) (defScope (inClass cChain 0)) .none kV_minit dc_minit pm_minit an_minit cd_minit ct_minit), sl_minit⟩)
    (c_minit : PySem.W.codeIn K cd_minit "Chain.__init__" = true)
    (k_minit : PySem.W.keepIn K (.ref f_minit) = true)
    (a_mplaces : PySem.W.findIn K (.ref C) "places" = some (some (.ref f_mplaces)))
    (i_mplaces : PySem.W.isFn K (.ref f_mplaces) = true)
    (l_mplaces : K.lookup f_mplaces = some ⟨oc_mplaces, od_mplaces, .func (PySem.W.fnOf "places" "Chain.places" (defArgs (inClass cChain 1)) (defBody (inClass cChain 1)) (defScope (inClass cChain 1)) .none kV_mplaces dc_mplaces pm_mplaces an_mplaces cd_mplaces ct_mplaces), sl_mplaces⟩)
    (c_mplaces : PySem.W.codeIn K cd_mplaces "Chain.places" = true)
    (k_mplaces : PySem.W.keepIn K (.ref f_mplaces) = true)
    (a_mtold : PySem.W.findIn K (.ref C) "told" = some (some (.ref f_mtold)))
    (i_mtold : PySem.W.isFn K (.ref f_mtold) = true)
    (l_mtold : K.lookup f_mtold = some ⟨oc_mtold, od_mtold, .func (PySem.W.fnOf "told" "Chain.told" (defArgs (inClass cChain 2)) (defBody (inClass cChain 2)) (defScope (inClass cChain 2)) .none kV_mtold dc_mtold pm_mtold an_mtold cd_mtold ct_mtold), sl_mtold⟩)
    (c_mtold : PySem.W.codeIn K cd_mtold "Chain.told" = true)
    (k_mtold : PySem.W.keepIn K (.ref f_mtold) = true)
    (pg : PySem.W.plainGet K C Str.empty = true)
    (hd : PySem.W.hasDictIn K C = true)
    (po : PySem.W.plainOver K C = true)
    (sa : PySem.W.findIn K (.ref C) "__setattr__" = some (some (.builtin "object.__setattr__")))
    (mk : PySem.W.makesIn K C = true)
    (kc : PySem.W.keepIn K (.ref C) = true)
    (nM : PySem.W.findIn K (.ref C) "_many" = some none)
    (nV : PySem.W.findIn K (.ref C) "_moves" = some none)
    (gMOST_PLACES : PySem.W.nsIn K mainGlobals "MOST_PLACES" = some (some (.int 6 tMOST_PLACES)))
    (gMOST_MOVES : PySem.W.nsIn K mainGlobals "MOST_MOVES" = some (some (.int 8 tMOST_MOVES)))
    (gMOST_WEIGHT : PySem.W.nsIn K mainGlobals "MOST_WEIGHT" = some (some (.int 99 tMOST_WEIGHT)))
    (gMOST_FAR : PySem.W.nsIn K mainGlobals "MOST_FAR" = some (some (.int 20 tMOST_FAR)))
    (zlen : PySem.W.nsIn K mainGlobals "len" = some none)
    (zabs : PySem.W.nsIn K mainGlobals "abs" = some none)
    (zmax : PySem.W.nsIn K mainGlobals "max" = some none)
    (zmin : PySem.W.nsIn K mainGlobals "min" = some none)
    (zint : PySem.W.nsIn K mainGlobals "int" = some none)
    (zrange : PySem.W.nsIn K mainGlobals "range" = some none)
    (zsorted : PySem.W.nsIn K mainGlobals "sorted" = some none)
    (ztuple : PySem.W.nsIn K mainGlobals "tuple" = some none)
    (zisinstance : PySem.W.nsIn K mainGlobals "isinstance" = some none)
    (zall : PySem.W.nsIn K mainGlobals "all" = some none)
    (zenumerate : PySem.W.nsIn K mainGlobals "enumerate" = some none)
    (zlist : PySem.W.nsIn K mainGlobals "list" = some none)
    (zset : PySem.W.nsIn K mainGlobals "set" = some none)
    (zsum : PySem.W.nsIn K mainGlobals "sum" = some none)
    (zValueError : PySem.W.nsIn K mainGlobals "ValueError" = some none)
    (zzip : PySem.W.nsIn K mainGlobals "zip" = some none)
    (ggcd : PySem.W.nsIn K mainGlobals "gcd" = some (some (.builtin "math.gcd")))
    (gcomb : PySem.W.nsIn K mainGlobals "combinations" = some (some (.type "itertools.combinations")))
    (gperm : PySem.W.nsIn K mainGlobals "permutations" = some (some (.type "itertools.permutations")))
    (lM_is_move : K.lookup cM_is_move = some ⟨eM_is_move, ddM_is_move, .fields vsM_is_move, slM_is_move⟩)
    (vM_is_move : vsM_is_move[11]? = some (.ref tM_is_move))
    (hM_is_move : PySem.W.codeHdIn K cM_is_move tM_is_move = true)
    (nT_is_move : K.lookup tM_is_move = none)
    (lM_is_closed : K.lookup cM_is_closed = some ⟨eM_is_closed, ddM_is_closed, .fields vsM_is_closed, slM_is_closed⟩)
    (vM_is_closed : vsM_is_closed[11]? = some (.ref tM_is_closed))
    (hM_is_closed : PySem.W.codeHdIn K cM_is_closed tM_is_closed = true)
    (nT_is_closed : K.lookup tM_is_closed = none) :
    LamX.LawAtS l w K CX0 7 63 "_law_script" mg fa h := by
  have e := hfa.symm.trans (PySem.W.mg_of X G a_law)
  cases e
  have F_steps_of := fun_mk (st := sStepsOf) l_steps_of c_steps_of k_steps_of
  have b_steps_of := F_steps_of.binds (ps := ["chain", "numbers"]) fun _ _ _ _ _ _ us hl => match us, hl with | [_, _], _ => rfl
  have g_steps_of := PySem.W.mg_of X G a_steps_of
  have D_steps_of : Df K mg "steps_of" sStepsOf ["chain", "numbers"] f_steps_of _ := ⟨F_steps_of, b_steps_of, g_steps_of⟩
  have F_together := fun_mk (st := sTogether) l_together c_together k_together
  have b_together := F_together.binds (ps := ["chain", "numbers"]) fun _ _ _ _ _ _ us hl => match us, hl with | [_, _], _ => rfl
  have g_together := PySem.W.mg_of X G a_together
  have D_together : Df K mg "together" sTogether ["chain", "numbers"] f_together _ := ⟨F_together, b_together, g_together⟩
  have F_ends := fun_mk (st := sEnds) l_ends c_ends k_ends
  have b_ends := F_ends.binds (ps := ["chain", "steps"]) fun _ _ _ _ _ _ us hl => match us, hl with | [_, _], _ => rfl
  have g_ends := PySem.W.mg_of X G a_ends
  have D_ends : Df K mg "_ends" sEnds ["chain", "steps"] f_ends _ := ⟨F_ends, b_ends, g_ends⟩
  have F_drawn := fun_mk (st := sDrawn) l_drawn c_drawn k_drawn
  have b_drawn := F_drawn.binds (ps := ["chain", "numbers"]) fun _ _ _ _ _ _ us hl => match us, hl with | [_, _], _ => rfl
  have g_drawn := PySem.W.mg_of X G a_drawn
  have D_drawn : Df K mg "drawn" sDrawn ["chain", "numbers"] f_drawn _ := ⟨F_drawn, b_drawn, g_drawn⟩
  have F_drawn_from := fun_mk (st := sDrawnFrom) l_drawn_from c_drawn_from k_drawn_from
  have b_drawn_from := F_drawn_from.binds (ps := ["chain", "begins", "numbers"]) fun _ _ _ _ _ _ us hl => match us, hl with | [_, _, _], _ => rfl
  have g_drawn_from := PySem.W.mg_of X G a_drawn_from
  have D_drawn_from : Df K mg "drawn_from" sDrawnFrom ["chain", "begins", "numbers"] f_drawn_from _ := ⟨F_drawn_from, b_drawn_from, g_drawn_from⟩
  have F_are_one := fun_mk (st := sAreOne) l_are_one c_are_one k_are_one
  have b_are_one := F_are_one.binds (ps := ["ends"]) fun _ _ _ _ _ _ us hl => match us, hl with | [_], _ => rfl
  have g_are_one := PySem.W.mg_of X G a_are_one
  have D_are_one : Df K mg "_are_one" sAreOne ["ends"] f_are_one _ := ⟨F_are_one, b_are_one, g_are_one⟩
  have F_tries := fun_mk (st := sTries) l_tries c_tries k_tries
  have b_tries := F_tries.binds (ps := ["chain", "numbers"]) fun _ _ _ _ _ _ us hl => match us, hl with | [_, _], _ => rfl
  have g_tries := PySem.W.mg_of X G a_tries
  have D_tries : Df K mg "tries" sTries ["chain", "numbers"] f_tries _ := ⟨F_tries, b_tries, g_tries⟩
  have F_fraction := fun_mk (st := sFraction) l_fraction c_fraction k_fraction
  have b_fraction := F_fraction.binds (ps := ["top", "bottom"]) fun _ _ _ _ _ _ us hl => match us, hl with | [_, _], _ => rfl
  have g_fraction := PySem.W.mg_of X G a_fraction
  have D_fraction : Df K mg "fraction" sFraction ["top", "bottom"] f_fraction _ := ⟨F_fraction, b_fraction, g_fraction⟩
  have F_solved := fun_mk (st := sSolved) l_solved c_solved k_solved
  have b_solved := F_solved.binds (ps := ["equations"]) fun _ _ _ _ _ _ us hl => match us, hl with | [_], _ => rfl
  have g_solved := PySem.W.mg_of X G a_solved
  have D_solved : Df K mg "solved" sSolved ["equations"] f_solved _ := ⟨F_solved, b_solved, g_solved⟩
  have F_bring_up := fun_mk (st := sBringUp) l_bring_up c_bring_up k_bring_up
  have b_bring_up := F_bring_up.binds (ps := ["rows", "at"]) fun _ _ _ _ _ _ us hl => match us, hl with | [_, _], _ => rfl
  have g_bring_up := PySem.W.mg_of X G a_bring_up
  have D_bring_up : Df K mg "_bring_up" sBringUp ["rows", "at"] f_bring_up _ := ⟨F_bring_up, b_bring_up, g_bring_up⟩
  have F_without := fun_mk (st := sWithout) l_without c_without k_without
  have b_without := F_without.binds (ps := ["row", "lead", "at", "before"]) fun _ _ _ _ _ _ us hl => match us, hl with | [_, _, _, _], _ => rfl
  have g_without := PySem.W.mg_of X G a_without
  have D_without : Df K mg "_without" sWithout ["row", "lead", "at", "before"] f_without _ := ⟨F_without, b_without, g_without⟩
  have F_everywhere := fun_mk (st := sEverywhere) l_everywhere c_everywhere k_everywhere
  have b_everywhere := F_everywhere.binds (ps := ["chain"]) fun _ _ _ _ _ _ us hl => match us, hl with | [_], _ => rfl
  have g_everywhere := PySem.W.mg_of X G a_everywhere
  have D_everywhere : Df K mg "everywhere" sEverywhere ["chain"] f_everywhere _ := ⟨F_everywhere, b_everywhere, g_everywhere⟩
  have F_groups_from := fun_mk (st := sGroupsFrom) l_groups_from c_groups_from k_groups_from
  have b_groups_from := F_groups_from.binds (ps := ["moves", "begin"]) fun _ _ _ _ _ _ us hl => match us, hl with | [_, _], _ => rfl
  have g_groups_from := PySem.W.mg_of X G a_groups_from
  have D_groups_from : Df K mg "groups_from" sGroupsFrom ["moves", "begin"] f_groups_from _ := ⟨F_groups_from, b_groups_from, g_groups_from⟩
  have F_led_to := fun_mk (st := sLedTo) l_led_to c_led_to k_led_to
  have b_led_to := F_led_to.binds (ps := ["whither", "group"]) fun _ _ _ _ _ _ us hl => match us, hl with | [_, _], _ => rfl
  have g_led_to := PySem.W.mg_of X G a_led_to
  have D_led_to : Df K mg "led_to" sLedTo ["whither", "group"] f_led_to _ := ⟨F_led_to, b_led_to, g_led_to⟩
  have FM_is_move : FunT K "_is_move" "_is_move" sIsMove f_is_move _ cM_is_move := ⟨⟨_, _, _, _, _, _, _, _, rfl, l_is_move, c_is_move⟩, k_is_move⟩
  have F_is_move := fun_mk (st := sIsMove) l_is_move c_is_move k_is_move
  have b_is_move := F_is_move.binds (ps := ["many", "move"]) fun _ _ _ _ _ _ us hl => match us, hl with | [_, _], _ => rfl
  have g_is_move := PySem.W.mg_of X G a_is_move
  have D_is_move : Df K mg "_is_move" sIsMove ["many", "move"] f_is_move _ := ⟨F_is_move, b_is_move, g_is_move⟩
  have F_chances := fun_mk (st := sChances) l_chances c_chances k_chances
  have b_chances := F_chances.binds (ps := ["chain"]) fun _ _ _ _ _ _ us hl => match us, hl with | [_], _ => rfl
  have g_chances := PySem.W.mg_of X G a_chances
  have D_chances : Df K mg "chances" sChances ["chain"] f_chances _ := ⟨F_chances, b_chances, g_chances⟩
  have F_weights := fun_mk (st := sWeights) l_weights c_weights k_weights
  have b_weights := F_weights.binds (ps := ["chain"]) fun _ _ _ _ _ _ us hl => match us, hl with | [_], _ => rfl
  have g_weights := PySem.W.mg_of X G a_weights
  have D_weights : Df K mg "_weights" sWeights ["chain"] f_weights _ := ⟨F_weights, b_weights, g_weights⟩
  have F_closed := fun_mk (st := sClosed) l_closed c_closed k_closed
  have b_closed := F_closed.binds (ps := ["chain"]) fun _ _ _ _ _ _ us hl => match us, hl with | [_], _ => rfl
  have g_closed := PySem.W.mg_of X G a_closed
  have D_closed : Df K mg "closed" sClosed ["chain"] f_closed _ := ⟨F_closed, b_closed, g_closed⟩
  have F_reached := fun_mk (st := sReached) l_reached c_reached k_reached
  have b_reached := F_reached.binds (ps := ["moves", "begin"]) fun _ _ _ _ _ _ us hl => match us, hl with | [_, _], _ => rfl
  have g_reached := PySem.W.mg_of X G a_reached
  have D_reached : Df K mg "_reached" sReached ["moves", "begin"] f_reached _ := ⟨F_reached, b_reached, g_reached⟩
  have FM_is_closed : FunT K "_is_closed" "_is_closed" sIsClosed f_is_closed _ cM_is_closed := ⟨⟨_, _, _, _, _, _, _, _, rfl, l_is_closed, c_is_closed⟩, k_is_closed⟩
  have F_is_closed := fun_mk (st := sIsClosed) l_is_closed c_is_closed k_is_closed
  have b_is_closed := F_is_closed.binds (ps := ["reached", "group"]) fun _ _ _ _ _ _ us hl => match us, hl with | [_, _], _ => rfl
  have g_is_closed := PySem.W.mg_of X G a_is_closed
  have D_is_closed : Df K mg "_is_closed" sIsClosed ["reached", "group"] f_is_closed _ := ⟨F_is_closed, b_is_closed, g_is_closed⟩
  have F_own := fun_mk (st := sOwn) l_own c_own k_own
  have b_own := F_own.binds (ps := ["chain"]) fun _ _ _ _ _ _ us hl => match us, hl with | [_], _ => rfl
  have g_own := PySem.W.mg_of X G a_own
  have D_own : Df K mg "own" sOwn ["chain"] f_own _ := ⟨F_own, b_own, g_own⟩
  have F_balance := fun_mk (st := sBalance) l_balance c_balance k_balance
  have b_balance := F_balance.binds (ps := ["chain"]) fun _ _ _ _ _ _ us hl => match us, hl with | [_], _ => rfl
  have g_balance := PySem.W.mg_of X G a_balance
  have D_balance : Df K mg "_balance" sBalance ["chain"] f_balance _ := ⟨F_balance, b_balance, g_balance⟩
  have F_meeting := fun_mk (st := sMeeting) l_meeting c_meeting k_meeting
  have b_meeting := F_meeting.binds (ps := ["chain"]) fun _ _ _ _ _ _ us hl => match us, hl with | [_], _ => rfl
  have g_meeting := PySem.W.mg_of X G a_meeting
  have D_meeting : Df K mg "meeting" sMeeting ["chain"] f_meeting _ := ⟨F_meeting, b_meeting, g_meeting⟩
  have F_first_apart := fun_mk (st := sFirstApart) l_first_apart c_first_apart k_first_apart
  have b_first_apart := F_first_apart.binds (ps := ["chain"]) fun _ _ _ _ _ _ us hl => match us, hl with | [_], _ => rfl
  have g_first_apart := PySem.W.mg_of X G a_first_apart
  have D_first_apart : Df K mg "_first_apart" sFirstApart ["chain"] f_first_apart _ := ⟨F_first_apart, b_first_apart, g_first_apart⟩
  have F_row_to_one := fun_mk (st := sRowToOne) l_row_to_one c_row_to_one k_row_to_one
  have b_row_to_one := F_row_to_one.binds (ps := ["moves", "group"]) fun _ _ _ _ _ _ us hl => match us, hl with | [_, _], _ => rfl
  have g_row_to_one := PySem.W.mg_of X G a_row_to_one
  have D_row_to_one : Df K mg "_row_to_one" sRowToOne ["moves", "group"] f_row_to_one _ := ⟨F_row_to_one, b_row_to_one, g_row_to_one⟩
  have F_keeps_order := fun_mk (st := sKeepsOrder) l_keeps_order c_keeps_order k_keeps_order
  have b_keeps_order := F_keeps_order.binds (ps := ["chain", "order"]) fun _ _ _ _ _ _ us hl => match us, hl with | [_, _], _ => rfl
  have g_keeps_order := PySem.W.mg_of X G a_keeps_order
  have D_keeps_order : Df K mg "keeps_order" sKeepsOrder ["chain", "order"] f_keeps_order _ := ⟨F_keeps_order, b_keeps_order, g_keeps_order⟩
  have F_first_order := fun_mk (st := sFirstOrder) l_first_order c_first_order k_first_order
  have b_first_order := F_first_order.binds (ps := ["chain"]) fun _ _ _ _ _ _ us hl => match us, hl with | [_], _ => rfl
  have g_first_order := PySem.W.mg_of X G a_first_order
  have D_first_order : Df K mg "first_order" sFirstOrder ["chain"] f_first_order _ := ⟨F_first_order, b_first_order, g_first_order⟩
  have F_first_breaking := fun_mk (st := sFirstBreaking) l_first_breaking c_first_breaking k_first_breaking
  have b_first_breaking := F_first_breaking.binds (ps := ["chain", "order"]) fun _ _ _ _ _ _ us hl => match us, hl with | [_, _], _ => rfl
  have g_first_breaking := PySem.W.mg_of X G a_first_breaking
  have D_first_breaking : Df K mg "_first_breaking" sFirstBreaking ["chain", "order"] f_first_breaking _ := ⟨F_first_breaking, b_first_breaking, g_first_breaking⟩
  have F_keeps := fun_mk (st := sKeeps) l_keeps c_keeps k_keeps
  have b_keeps := F_keeps.binds (ps := ["whither", "order"]) fun _ _ _ _ _ _ us hl => match us, hl with | [_, _], _ => rfl
  have g_keeps := PySem.W.mg_of X G a_keeps
  have D_keeps : Df K mg "_keeps" sKeeps ["whither", "order"] f_keeps _ := ⟨F_keeps, b_keeps, g_keeps⟩
  have F_shares := fun_mk (st := sShares) l_shares c_shares k_shares
  have b_shares := F_shares.binds (ps := ["chain", "far"]) fun _ _ _ _ _ _ us hl => match us, hl with | [_, _], _ => rfl
  have g_shares := PySem.W.mg_of X G a_shares
  have D_shares : Df K mg "shares" sShares ["chain", "far"] f_shares _ := ⟨F_shares, b_shares, g_shares⟩
  have F_behind_a_step := fun_mk (st := sBehindAStep) l_behind_a_step c_behind_a_step k_behind_a_step
  have b_behind_a_step := F_behind_a_step.binds (ps := ["moves", "weights"]) fun _ _ _ _ _ _ us hl => match us, hl with | [_, _], _ => rfl
  have g_behind_a_step := PySem.W.mg_of X G a_behind_a_step
  have D_behind_a_step : Df K mg "_behind_a_step" sBehindAStep ["moves", "weights"] f_behind_a_step _ := ⟨F_behind_a_step, b_behind_a_step, g_behind_a_step⟩
  have F_law_cell := fun_mk (st := sCell) l_law_cell c_law_cell k_law_cell
  have b_law_cell := F_law_cell.binds (ps := ["_law_script", "_law_k"]) fun _ _ _ _ _ _ us hl => match us, hl with | [_, _], _ => rfl
  have g_law_cell := PySem.W.mg_of X G a_law_cell
  have D_law_cell : Df K mg "_law_cell" sCell ["_law_script", "_law_k"] f_law_cell _ := ⟨F_law_cell, b_law_cell, g_law_cell⟩
  have F_law_dice := fun_mk (st := sDice) l_law_dice c_law_dice k_law_dice
  have b_law_dice := F_law_dice.binds (ps := ["_law_script", "_law_k"]) fun _ _ _ _ _ _ us hl => match us, hl with | [_, _], _ => rfl
  have g_law_dice := PySem.W.mg_of X G a_law_dice
  have D_law_dice : Df K mg "_law_dice" sDice ["_law_script", "_law_k"] f_law_dice _ := ⟨F_law_dice, b_law_dice, g_law_dice⟩
  have F_law_off := fun_mk (st := sOff) l_law_off c_law_off k_law_off
  have b_law_off := F_law_off.binds (ps := ["_law_d", "_law_most"]) fun _ _ _ _ _ _ us hl => match us, hl with | [_, _], _ => rfl
  have g_law_off := PySem.W.mg_of X G a_law_off
  have D_law_off : Df K mg "_law_off" sOff ["_law_d", "_law_most"] f_law_off _ := ⟨F_law_off, b_law_off, g_law_off⟩
  have F_law_chain := fun_mk (st := sChain) l_law_chain c_law_chain k_law_chain
  have b_law_chain := F_law_chain.binds (ps := ["_law_d", "_law_most"]) fun _ _ _ _ _ _ us hl => match us, hl with | [_, _], _ => rfl
  have g_law_chain := PySem.W.mg_of X G a_law_chain
  have D_law_chain : Df K mg "_law_chain" sChain ["_law_d", "_law_most"] f_law_chain _ := ⟨F_law_chain, b_law_chain, g_law_chain⟩
  have F_law_made := fun_mk (st := sMade) l_law_made c_law_made k_law_made
  have b_law_made := F_law_made.binds (ps := ["_law_told_here"]) fun _ _ _ _ _ _ us hl => match us, hl with | [_], _ => rfl
  have g_law_made := PySem.W.mg_of X G a_law_made
  have D_law_made : Df K mg "_law_made" sMade ["_law_told_here"] f_law_made _ := ⟨F_law_made, b_law_made, g_law_made⟩
  have F_law_numbers := fun_mk (st := sNumbers) l_law_numbers c_law_numbers k_law_numbers
  have b_law_numbers := F_law_numbers.binds (ps := ["_law_d", "_law_moves", "_law_most"]) fun _ _ _ _ _ _ us hl => match us, hl with | [_, _, _], _ => rfl
  have g_law_numbers := PySem.W.mg_of X G a_law_numbers
  have D_law_numbers : Df K mg "_law_numbers" sNumbers ["_law_d", "_law_moves", "_law_most"] f_law_numbers _ := ⟨F_law_numbers, b_law_numbers, g_law_numbers⟩
  have F_law_told := fun_mk (st := sLawTold) l_law_told c_law_told k_law_told
  have b_law_told := F_law_told.binds (ps := ["_law_chain_here", "_law_numbers_here"]) fun _ _ _ _ _ _ us hl => match us, hl with | [_, _], _ => rfl
  have g_law_told := PySem.W.mg_of X G a_law_told
  have D_law_told : Df K mg "_law_told" sLawTold ["_law_chain_here", "_law_numbers_here"] f_law_told _ := ⟨F_law_told, b_law_told, g_law_told⟩
  have F_law_spoil := fun_mk (st := sLawSpoil) l_law_spoil c_law_spoil k_law_spoil
  have b_law_spoil := F_law_spoil.binds (ps := ["_law_told_here"]) fun _ _ _ _ _ _ us hl => match us, hl with | [_], _ => rfl
  have g_law_spoil := PySem.W.mg_of X G a_law_spoil
  have D_law_spoil : Df K mg "_law_spoil" sLawSpoil ["_law_told_here"] f_law_spoil _ := ⟨F_law_spoil, b_law_spoil, g_law_spoil⟩
  have F_law := fun_mk (st := sLaw) l_law c_law k_law
  have g_law := PySem.W.mg_of X G a_law
  have F_minit := fun_mk (st := inClass cChain 0) l_minit c_minit k_minit
  have b_minit := F_minit.binds (ps := ["self", "many", "moves"]) fun _ _ _ _ _ _ us hl => match us, hl with | [_, _, _], _ => rfl
  have F_mplaces := fun_mk (st := inClass cChain 1) l_mplaces c_mplaces k_mplaces
  have b_mplaces := F_mplaces.binds (ps := ["self"]) fun _ _ _ _ _ _ us hl => match us, hl with | [_], _ => rfl
  have F_mtold := fun_mk (st := inClass cChain 2) l_mtold c_mtold k_mtold
  have b_mtold := F_mtold.binds (ps := ["self"]) fun _ _ _ _ _ _ us hl => match us, hl with | [_], _ => rfl
  have gC := PySem.W.mg_of X G aC
  have GMOST_PLACES := PySem.W.mg_of X G gMOST_PLACES
  have GMOST_MOVES := PySem.W.mg_of X G gMOST_MOVES
  have GMOST_WEIGHT := PySem.W.mg_of X G gMOST_WEIGHT
  have GMOST_FAR := PySem.W.mg_of X G gMOST_FAR
  have Zlen := PySem.W.mg_none_of X G zlen
  have Zabs := PySem.W.mg_none_of X G zabs
  have Zmax := PySem.W.mg_none_of X G zmax
  have Zmin := PySem.W.mg_none_of X G zmin
  have Zint := PySem.W.mg_none_of X G zint
  have Zrange := PySem.W.mg_none_of X G zrange
  have Zsorted := PySem.W.mg_none_of X G zsorted
  have Ztuple := PySem.W.mg_none_of X G ztuple
  have Zisinstance := PySem.W.mg_none_of X G zisinstance
  have Zall := PySem.W.mg_none_of X G zall
  have Zenumerate := PySem.W.mg_none_of X G zenumerate
  have Zlist := PySem.W.mg_none_of X G zlist
  have Zset := PySem.W.mg_none_of X G zset
  have Zsum := PySem.W.mg_none_of X G zsum
  have ZValueError := PySem.W.mg_none_of X G zValueError
  have Zzip := PySem.W.mg_none_of X G zzip
  have tabE_is_move : h.get? tM_is_move = some { cls := .none, data := .fields #[] } := by
    obtain ⟨a', o', fd', c', P', oc, vc, g1, g2, g3, g4, e1, e3, e4, e5⟩ := TO_is_move
    rw [g_is_move] at g1
    cases g1
    have q1 := X _ _ l_is_move
    rw [q1] at g2
    cases g2
    cases g3
    cases g4
    have q2 := X _ _ lM_is_move
    rw [q2] at e1
    cases e1
    cases e3
    rw [vM_is_move] at e4
    cases e4
    exact e5
  have tabE_is_closed : h.get? tM_is_closed = some { cls := .none, data := .fields #[] } := by
    obtain ⟨a', o', fd', c', P', oc, vc, g1, g2, g3, g4, e1, e3, e4, e5⟩ := TO_is_closed
    rw [g_is_closed] at g1
    cases g1
    have q1 := X _ _ l_is_closed
    rw [q1] at g2
    cases g2
    cases g3
    cases g4
    have q2 := X _ _ lM_is_closed
    rw [q2] at e1
    cases e1
    cases e3
    rw [vM_is_closed] at e4
    cases e4
    exact e5
  have LT : LawTxt K mg f_law_cell f_law_dice f_law_off _ _ _ := ⟨F_law_cell, b_law_cell, g_law_cell, F_law_dice, b_law_dice, g_law_dice, F_law_off, b_law_off, g_law_off, Zlen, Zabs, Zmax, Zmin, Zint, Zrange, Zsorted, Ztuple⟩
  have CL' : Cls K C := ⟨pg, hd, po, sa⟩
  have CH : ChTxt K mg f_is_move cM_is_move tM_is_move _ C f_minit _ := ⟨FM_is_move, b_is_move, g_is_move, F_minit, b_minit, ⟨mk, a_minit, i_minit, kc⟩, CL', nM, nV, gC, ⟨_, GMOST_PLACES⟩, ⟨_, GMOST_MOVES⟩, ⟨_, GMOST_WEIGHT⟩, Zlen, Zisinstance, Ztuple, Zrange, Zall, Zenumerate, Zlist⟩
  have CM : ChM K C f_mplaces f_mtold _ _ := ⟨F_mplaces, b_mplaces, ⟨a_mplaces, i_mplaces, k_mplaces⟩, F_mtold, b_mtold, ⟨a_mtold, i_mtold, k_mtold⟩, CL', nM, nV⟩
  refine ⟨PySem.W.fnOf "law" "law" (defArgs sLaw) (defBody sLaw) (defScope sLaw) .none kV_law dc_law pm_law an_law cd_law ct_law, [(cM_is_move, tM_is_move), (cM_is_closed, tM_is_closed)], spLaw2 K tM_is_move tM_is_closed, fun p hp => ?_, fun p hp => ?_, fun p hp => ?_, fun s v => .of_eq rfl, fun H a ns hl hbits hT hS => ?_, fun base hK hG hTB => ?_⟩
  · rcases List.mem_cons.mp hp with e | hp
    · rw [e]
      exact tabE_is_move
    rcases List.mem_cons.mp hp with e | hp
    · rw [e]
      exact tabE_is_closed
    · cases hp
  · rcases List.mem_cons.mp hp with e | hp
    · rw [e]
      exact nT_is_move
    rcases List.mem_cons.mp hp with e | hp
    · rw [e]
      exact nT_is_closed
    · cases hp
  · rcases List.mem_cons.mp hp with e | hp
    · rw [e]
      exact PySem.W.codeHd_of_K X hM_is_move
    rcases List.mem_cons.mp hp with e | hp
    · rw [e]
      exact PySem.W.codeHd_of_K X hM_is_closed
    · cases hp
  · exact ⟨a, ns, rfl, hS, hl, ⟨#[], hT (cM_is_move, tM_is_move) (by simp), by simp [TriplesOk]⟩, ⟨#[], hT (cM_is_closed, tM_is_closed) (by simp), by simp [TriplesOk]⟩, fun _ => rfl⟩
  · have TBx_is_move := hTB (cM_is_move, tM_is_move) (by simp)
    have TB_is_move : GxR.TabB base mg cM_is_move tM_is_move := ⟨TBx_is_move.code, TBx_is_move.bm, TBx_is_move.gP⟩
    have TBx_is_closed := hTB (cM_is_closed, tM_is_closed) (by simp)
    have TB_is_closed : GxR.TabB base mg cM_is_closed tM_is_closed := ⟨TBx_is_closed.code, TBx_is_closed.bm, TBx_is_closed.gP⟩
    have TB := TB_is_move
    have TI := TB_is_closed
    have GG : FnOk l.prog w K mg base CX0 2 f_groups_from _ ["moves", "begin"] spGfF := ok_gfF F_groups_from D_led_to Zlen Zenumerate Ztuple Zsorted
    have GG0 : FnOk l.prog w K mg base CX0 2 f_groups_from _ ["moves", "begin"] spGf := ok_gf F_groups_from D_led_to Zlen Zenumerate Ztuple Zsorted
    have GCl : FnOk l.prog w K mg base CX0 4 f_closed _ ["chain"] (spCl C tM_is_closed) := ok_closed F_closed D_reached D_is_closed FM_is_closed TI D_groups_from D_led_to CM Zrange Zlen Zenumerate Ztuple Zsorted Zall Zlist
    have GSv : FnOk l.prog w K mg base CX0 2 f_solved _ ["equations"] spSv := ok_solved F_solved D_bring_up D_without D_fraction (PySem.W.mg_of X G ggcd) Zlist Zlen Zrange Zenumerate Zzip
    have GBa : FnOk l.prog w K mg base CX0 3 f_balance _ ["chain"] (spBa C) := ok_balance F_balance D_weights CM Zrange Zenumerate Zlist Zsum
    have GOw : FnOk l.prog w K mg base CX0 5 f_own _ ["chain"] (spOwn C tM_is_closed) := ok_own F_own D_closed D_solved D_balance GCl GSv GBa Zlen
    have GEv : FnOk l.prog w K mg base CX0 2 f_everywhere _ ["chain"] (spEv C) := ok_ev F_everywhere CM Ztuple Zrange
    have GSh : FnOk l.prog w K mg base CX0 3 f_shares _ ["chain", "far"] (spSh C) := ok_shares F_shares CM D_everywhere GEv D_behind_a_step D_led_to D_fraction (PySem.W.mg_of X G ggcd) GMOST_FAR Ztuple Zsorted Zrange Zsum Zlist
    have GRt : FnOk l.prog w K mg base CX0 3 f_row_to_one _ ["moves", "group"] spRtF := ok_rtF F_row_to_one D_groups_from GG Zlen
    have GFa : FnOk l.prog w K mg base CX0 4 f_first_apart _ ["chain"] (spFa C) := ok_fa F_first_apart D_row_to_one GRt CM Zlist Zrange (PySem.W.mg_of X G gcomb)
    have GMt : FnOk l.prog w K mg base CX0 5 f_meeting _ ["chain"] (spMt C) := ok_mt F_meeting D_row_to_one GRt D_groups_from GG0 D_everywhere GEv D_first_apart GFa CM Zlist Zsorted
    have GB : FnOk l.prog w K mg base CX0 2 f_first_breaking _ ["chain", "order"] (spFb C) := ok_fb F_first_breaking D_keeps CM Zsorted Zlist Zrange Zenumerate
    have GKo : FnOk l.prog w K mg base CX0 3 f_keeps_order _ ["chain", "order"] (spKo C) := ok_ko F_keeps_order D_first_breaking GB
    have GFo : FnOk l.prog w K mg base CX0 4 f_first_order _ ["chain"] (spFo C) := ok_fo F_first_order D_keeps_order GKo CM Zlist Zrange (PySem.W.mg_of X G gperm)
    have GDr : FnOk l.prog w K mg base CX0 4 f_drawn _ ["chain", "numbers"] (spDrawn C) := ok_drawn F_drawn F_drawn_from b_drawn_from g_drawn_from F_steps_of b_steps_of g_steps_of F_are_one b_are_one g_are_one CM Zrange Zlen Zlist Zset
    have GTr : FnOk l.prog w K mg base CX0 3 f_tries _ ["chain", "numbers"] (spTries C) := ok_tries F_tries F_steps_of b_steps_of g_steps_of F_are_one b_are_one g_are_one F_ends b_ends g_ends CM Zrange Zlen Zlist Zset Zsorted
    have GTo : FnOk l.prog w K mg base CX0 3 f_together _ ["chain", "numbers"] (spTo C) := ok_together F_together F_steps_of b_steps_of g_steps_of F_ends b_ends g_ends CM Zrange Zlen Zlist
    have GCh : FnOk l.prog w K mg base CX0 3 f_chances _ ["chain"] (spChances C) := ok_chances F_chances F_weights b_weights g_weights F_fraction b_fraction g_fraction (PySem.W.mg_of X G ggcd) CM Zrange Zenumerate Zlist Zsum
    have GTd : FnOk l.prog w K mg base CX0 6 f_law_told _ ["_law_chain_here", "_law_numbers_here"] (spTd C tM_is_closed) := ok_td F_law_told D_chances D_closed D_tries D_together D_meeting D_shares D_first_order D_drawn D_own GCh GCl GTr GTo GMt GSh GFo GDr GOw Zlen
    exact ok_law F_law LT D_law_chain CH TB D_law_made D_law_numbers D_law_told D_law_spoil GTd Zlist
end Lg
open PySem PySem.W PyProof.Rows
set_option maxRecDepth 100000 in
set_option maxHeartbeats 0 in
theorem PySem.Challenge.cw_longago_k21_asked_again_holds : PySem.Challenge.rw_longago_k21_asked_again.Holds := by
  w_on; o_law; k_head; (case hw => w_witness2)
  k_fill
  refine Lg.walk_tab2 (l := PySem.Challenge.rw_longago_k21_asked_again) (n := 63) (k := 7) (x := "_law_script") (CX := fun _ => L2.CX0) "_is_move" "_is_closed" rfl (by decide) rfl ⟨rfl, by decide, by decide⟩ (by decide +kernel) (by decide +kernel) (fun w h Y => PySem.W.kIn_of Y) ?F (fun _ _ _ _ _ z => z)
  case F =>
    intro w mg fa h KX G hmg TO0 TO1
    refine' Lg.all_mk KX G hmg TO0 TO1 ?a_steps_of ?l_steps_of ?c_steps_of ?k_steps_of ?a_together ?l_together ?c_together ?k_together ?a_ends ?l_ends ?c_ends ?k_ends ?a_drawn ?l_drawn ?c_drawn ?k_drawn ?a_drawn_from ?l_drawn_from ?c_drawn_from ?k_drawn_from ?a_are_one ?l_are_one ?c_are_one ?k_are_one ?a_tries ?l_tries ?c_tries ?k_tries ?a_fraction ?l_fraction ?c_fraction ?k_fraction ?a_solved ?l_solved ?c_solved ?k_solved ?a_bring_up ?l_bring_up ?c_bring_up ?k_bring_up ?a_without ?l_without ?c_without ?k_without ?a_everywhere ?l_everywhere ?c_everywhere ?k_everywhere ?a_groups_from ?l_groups_from ?c_groups_from ?k_groups_from ?a_led_to ?l_led_to ?c_led_to ?k_led_to ?a_is_move ?l_is_move ?c_is_move ?k_is_move ?a_chances ?l_chances ?c_chances ?k_chances ?a_weights ?l_weights ?c_weights ?k_weights ?a_closed ?l_closed ?c_closed ?k_closed ?a_reached ?l_reached ?c_reached ?k_reached ?a_is_closed ?l_is_closed ?c_is_closed ?k_is_closed ?a_own ?l_own ?c_own ?k_own ?a_balance ?l_balance ?c_balance ?k_balance ?a_meeting ?l_meeting ?c_meeting ?k_meeting ?a_first_apart ?l_first_apart ?c_first_apart ?k_first_apart ?a_row_to_one ?l_row_to_one ?c_row_to_one ?k_row_to_one ?a_keeps_order ?l_keeps_order ?c_keeps_order ?k_keeps_order ?a_first_order ?l_first_order ?c_first_order ?k_first_order ?a_first_breaking ?l_first_breaking ?c_first_breaking ?k_first_breaking ?a_keeps ?l_keeps ?c_keeps ?k_keeps ?a_shares ?l_shares ?c_shares ?k_shares ?a_behind_a_step ?l_behind_a_step ?c_behind_a_step ?k_behind_a_step ?a_law_cell ?l_law_cell ?c_law_cell ?k_law_cell ?a_law_dice ?l_law_dice ?c_law_dice ?k_law_dice ?a_law_off ?l_law_off ?c_law_off ?k_law_off ?a_law_chain ?l_law_chain ?c_law_chain ?k_law_chain ?a_law_made ?l_law_made ?c_law_made ?k_law_made ?a_law_numbers ?l_law_numbers ?c_law_numbers ?k_law_numbers ?a_law_told ?l_law_told ?c_law_told ?k_law_told ?a_law_spoil ?l_law_spoil ?c_law_spoil ?k_law_spoil ?a_law ?l_law ?c_law ?k_law ?aC ?a_minit ?i_minit ?l_minit ?c_minit ?k_minit ?a_mplaces ?i_mplaces ?l_mplaces ?c_mplaces ?k_mplaces ?a_mtold ?i_mtold ?l_mtold ?c_mtold ?k_mtold ?pg ?hd ?po ?sa ?mk ?kc ?nM ?nV ?gMOST_PLACES ?gMOST_MOVES ?gMOST_WEIGHT ?gMOST_FAR ?zlen ?zabs ?zmax ?zmin ?zint ?zrange ?zsorted ?ztuple ?zisinstance ?zall ?zenumerate ?zlist ?zset ?zsum ?zValueError ?zzip ?ggcd ?gcomb ?gperm ?lM_is_move ?vM_is_move ?hM_is_move ?nT_is_move ?lM_is_closed ?vM_is_closed ?hM_is_closed ?nT_is_closed
    (case a_steps_of => k_is)
    (case l_steps_of => k_is)
    (case c_steps_of => k_is)
    (case k_steps_of => k_is)
    (case a_together => k_is)
    (case l_together => k_is)
    (case c_together => k_is)
    (case k_together => k_is)
    (case a_ends => k_is)
    (case l_ends => k_is)
    (case c_ends => k_is)
    (case k_ends => k_is)
    (case a_drawn => k_is)
    (case l_drawn => k_is)
    (case c_drawn => k_is)
    (case k_drawn => k_is)
    (case a_drawn_from => k_is)
    (case l_drawn_from => k_is)
    (case c_drawn_from => k_is)
    (case k_drawn_from => k_is)
    (case a_are_one => k_is)
    (case l_are_one => k_is)
    (case c_are_one => k_is)
    (case k_are_one => k_is)
    (case a_tries => k_is)
    (case l_tries => k_is)
    (case c_tries => k_is)
    (case k_tries => k_is)
    (case a_fraction => k_is)
    (case l_fraction => k_is)
    (case c_fraction => k_is)
    (case k_fraction => k_is)
    (case a_solved => k_is)
    (case l_solved => k_is)
    (case c_solved => k_is)
    (case k_solved => k_is)
    (case a_bring_up => k_is)
    (case l_bring_up => k_is)
    (case c_bring_up => k_is)
    (case k_bring_up => k_is)
    (case a_without => k_is)
    (case l_without => k_is)
    (case c_without => k_is)
    (case k_without => k_is)
    (case a_everywhere => k_is)
    (case l_everywhere => k_is)
    (case c_everywhere => k_is)
    (case k_everywhere => k_is)
    (case a_groups_from => k_is)
    (case l_groups_from => k_is)
    (case c_groups_from => k_is)
    (case k_groups_from => k_is)
    (case a_led_to => k_is)
    (case l_led_to => k_is)
    (case c_led_to => k_is)
    (case k_led_to => k_is)
    (case a_is_move => k_is)
    (case l_is_move => k_is)
    (case c_is_move => k_is)
    (case k_is_move => k_is)
    (case a_chances => k_is)
    (case l_chances => k_is)
    (case c_chances => k_is)
    (case k_chances => k_is)
    (case a_weights => k_is)
    (case l_weights => k_is)
    (case c_weights => k_is)
    (case k_weights => k_is)
    (case a_closed => k_is)
    (case l_closed => k_is)
    (case c_closed => k_is)
    (case k_closed => k_is)
    (case a_reached => k_is)
    (case l_reached => k_is)
    (case c_reached => k_is)
    (case k_reached => k_is)
    (case a_is_closed => k_is)
    (case l_is_closed => k_is)
    (case c_is_closed => k_is)
    (case k_is_closed => k_is)
    (case a_own => k_is)
    (case l_own => k_is)
    (case c_own => k_is)
    (case k_own => k_is)
    (case a_balance => k_is)
    (case l_balance => k_is)
    (case c_balance => k_is)
    (case k_balance => k_is)
    (case a_meeting => k_is)
    (case l_meeting => k_is)
    (case c_meeting => k_is)
    (case k_meeting => k_is)
    (case a_first_apart => k_is)
    (case l_first_apart => k_is)
    (case c_first_apart => k_is)
    (case k_first_apart => k_is)
    (case a_row_to_one => k_is)
    (case l_row_to_one => k_is)
    (case c_row_to_one => k_is)
    (case k_row_to_one => k_is)
    (case a_keeps_order => k_is)
    (case l_keeps_order => k_is)
    (case c_keeps_order => k_is)
    (case k_keeps_order => k_is)
    (case a_first_order => k_is)
    (case l_first_order => k_is)
    (case c_first_order => k_is)
    (case k_first_order => k_is)
    (case a_first_breaking => k_is)
    (case l_first_breaking => k_is)
    (case c_first_breaking => k_is)
    (case k_first_breaking => k_is)
    (case a_keeps => k_is)
    (case l_keeps => k_is)
    (case c_keeps => k_is)
    (case k_keeps => k_is)
    (case a_shares => k_is)
    (case l_shares => k_is)
    (case c_shares => k_is)
    (case k_shares => k_is)
    (case a_behind_a_step => k_is)
    (case l_behind_a_step => k_is)
    (case c_behind_a_step => k_is)
    (case k_behind_a_step => k_is)
    (case a_law_cell => k_is)
    (case l_law_cell => k_is)
    (case c_law_cell => k_is)
    (case k_law_cell => k_is)
    (case a_law_dice => k_is)
    (case l_law_dice => k_is)
    (case c_law_dice => k_is)
    (case k_law_dice => k_is)
    (case a_law_off => k_is)
    (case l_law_off => k_is)
    (case c_law_off => k_is)
    (case k_law_off => k_is)
    (case a_law_chain => k_is)
    (case l_law_chain => k_is)
    (case c_law_chain => k_is)
    (case k_law_chain => k_is)
    (case a_law_made => k_is)
    (case l_law_made => k_is)
    (case c_law_made => k_is)
    (case k_law_made => k_is)
    (case a_law_numbers => k_is)
    (case l_law_numbers => k_is)
    (case c_law_numbers => k_is)
    (case k_law_numbers => k_is)
    (case a_law_told => k_is)
    (case l_law_told => k_is)
    (case c_law_told => k_is)
    (case k_law_told => k_is)
    (case a_law_spoil => k_is)
    (case l_law_spoil => k_is)
    (case c_law_spoil => k_is)
    (case k_law_spoil => k_is)
    (case a_law => k_is)
    (case l_law => k_is)
    (case c_law => k_is)
    (case k_law => k_is)
    (case aC => k_is)
    (case a_minit => k_is)
    (case i_minit => k_is)
    (case l_minit => k_is)
    (case c_minit => k_is)
    (case k_minit => k_is)
    (case a_mplaces => k_is)
    (case i_mplaces => k_is)
    (case l_mplaces => k_is)
    (case c_mplaces => k_is)
    (case k_mplaces => k_is)
    (case a_mtold => k_is)
    (case i_mtold => k_is)
    (case l_mtold => k_is)
    (case c_mtold => k_is)
    (case k_mtold => k_is)
    (case pg => k_is)
    (case hd => k_is)
    (case po => k_is)
    (case sa => k_is)
    (case mk => k_is)
    (case kc => k_is)
    (case nM => k_is)
    (case nV => k_is)
    (case gMOST_PLACES => k_is)
    (case gMOST_MOVES => k_is)
    (case gMOST_WEIGHT => k_is)
    (case gMOST_FAR => k_is)
    (case zlen => k_is)
    (case zabs => k_is)
    (case zmax => k_is)
    (case zmin => k_is)
    (case zint => k_is)
    (case zrange => k_is)
    (case zsorted => k_is)
    (case ztuple => k_is)
    (case zisinstance => k_is)
    (case zall => k_is)
    (case zenumerate => k_is)
    (case zlist => k_is)
    (case zset => k_is)
    (case zsum => k_is)
    (case zValueError => k_is)
    (case zzip => k_is)
    (case ggcd => k_is)
    (case gcomb => k_is)
    (case gperm => k_is)
    (case lM_is_move => k_is)
    (case vM_is_move => first | rfl | k_is)
    (case hM_is_move => first | k_is | rfl | decide +kernel)
    (case nT_is_move => first | k_is | rfl | decide +kernel)
    (case lM_is_closed => k_is)
    (case vM_is_closed => first | rfl | k_is)
    (case hM_is_closed => first | k_is | rfl | decide +kernel)
    (case nT_is_closed => first | k_is | rfl | decide +kernel)

