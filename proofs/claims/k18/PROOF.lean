import PyProof.Rows.All
import Wide.All
import OpenK.AllK
import Wide.FinOn
import PyProof.EqAt
import PyProof.EqKinds
import PyProof.TupleCall
import HandS.ForMost
import HandS.RepeatKit
import HandS.Conv
import KE.KSuperObj
import HandS.Iter
import KE.KDictWalk
import HandS.TupSets
import KE.KDictSum
import HandS.SortInts
import HandS.Sort
import KE.KDictCopyH
import HandS.TupMul
import HandS.Wide
import HandS.Gcd
import HandS.Walk
import KE.GoesEnum
import KE.GoesMore
import KE.KExcSuper
import HandS.Nested
import HandS.ExcInit
import HandS.ExcIs
import HandS.IsInst
import HandS.ExcField
import KE.KExcIs
import HandS.WordsExc
import HandS.ExcOwn
import HandS.RaiseMore
import HandS.FStr
import HandS.Codes
import HandS.AnyAll
import HandS.Zip
import KE.KEqSeq
import HandS.SetFor
import HandS.Strs
import HandS.TupAny
import HandS.SetBool
import KE.KDictDisplayH
import PyProof.GenCompD
import HandS.Deep
import KE.KEqDeep
import HandS.FStrTup
import KE.KDictZip
import KE.KTurns
import HandS.EndTab
import PySem.Challenge.RW_longago_k18_whole_places_named_otherwise
set_option Elab.async false
set_option linter.all false
set_option maxRecDepth 100000
set_option maxHeartbeats 4000000
namespace Lg
open PySem PySem.Spec PyProof.Rows L2
def topS (i : Nat) : Stmt := PySem.Challenge.pw_longago_k18_whole_places_named_otherwise.main.body.getD i (.Pass ⟨0, 0, 0, 0⟩)
abbrev cLongError : Stmt := topS 3
abbrev cBadChain : Stmt := topS 4
abbrev cNoSuch : Stmt := topS 5
abbrev cNotOne : Stmt := topS 6
abbrev cNeverOne : Stmt := topS 7
abbrev cTooMany : Stmt := topS 8
abbrev sFraction : Stmt := topS 10
abbrev sAdded : Stmt := topS 11
abbrev sSolved : Stmt := topS 12
abbrev sBringUp : Stmt := topS 13
abbrev sWithout : Stmt := topS 14
abbrev sEverywhere : Stmt := topS 16
abbrev sGroupsFrom : Stmt := topS 17
abbrev sLedTo : Stmt := topS 18
abbrev cChain : Stmt := topS 23
abbrev sIsMove : Stmt := topS 24
abbrev sWeights : Stmt := topS 25
abbrev sClosed : Stmt := topS 26
abbrev sReached : Stmt := topS 27
abbrev sIsClosed : Stmt := topS 28
abbrev sOwn : Stmt := topS 29
abbrev sBalance : Stmt := topS 30
abbrev sWantMeeting : Stmt := topS 32
abbrev sFirstApart : Stmt := topS 33
abbrev sRowToOne : Stmt := topS 34
abbrev sShares : Stmt := topS 38
abbrev sBehindAStep : Stmt := topS 39
abbrev sLongShares : Stmt := topS 40
abbrev sHasTooManyMaps : Stmt := topS 41
abbrev sFarMean : Stmt := topS 42
abbrev sFirstMet : Stmt := topS 43
abbrev sStays : Stmt := topS 44
abbrev sFlow : Stmt := topS 45
abbrev sCell : Stmt := topS 47
abbrev sDice : Stmt := topS 48
abbrev sOff : Stmt := topS 49
abbrev sChain : Stmt := topS 50
abbrev sMade : Stmt := topS 51
abbrev sNumbers : Stmt := topS 52
abbrev sLawApart : Stmt := topS 53
abbrev sLawOther : Stmt := topS 54
abbrev sLawTurned : Stmt := topS 55
abbrev sLawLong : Stmt := topS 56
abbrev sLaw : Stmt := topS 57
/-! ### itertools.combinations(range, 2), walked -/
section
open PySem PySem.Spec PySem.Builtin PySem.Builtin.Itertools
namespace Cm
theorem mro_cm : mroOf (.type "itertools.combinations") = pure [.type "itertools.combinations", .type "object"] := by rw [mroOf_type]; kernel_rfl
theorem lookup_cm_new : typeLookup (.type "itertools.combinations") "__new__" = pure (some (.builtin "itertools.combinations.__new__")) := by rw [typeLookup_type, builtinLookup_eq_fast]; kernel_rfl
theorem slot_cm_init : Slot "itertools.combinations" "__init__" "object.__init__" :=
  .of (owner := "object") (n := "__init__") (by rw [typeLookup_type, builtinLookup_eq_fast]; kernel_rfl) (by decide +kernel) (by decide +kernel) (by decide +kernel)
    (by first | exact .inl (by decide +kernel) | exact .inr (by decide +kernel)) (by rw [isSubtype_type]; kernel_rfl)
theorem sub_cm : isSubtype (.type "itertools.combinations") (.type "itertools.combinations") = pure true := by rw [isSubtype_type]; kernel_rfl
theorem called_cm : TypeCalled "itertools.combinations" "itertools.combinations.__new__" "object.__init__" :=
  ⟨by decide +kernel, by decide +kernel, ⟨_, _, mro_cm⟩, madeBy_type mro_cm lookup_cm_new (by decide +kernel), by decide +kernel, sub_cm, slot_cm_init⟩
theorem typeCall_cm (a b : Value) : checkTypeCall "itertools.combinations" ⟨[a, b], []⟩ = pure () := by kernel_rfl
theorem newCall_cm (a b : Value) : checkBuiltinCall "itertools.combinations.__new__" ⟨[.type "itertools.combinations", a, b], []⟩ = pure () := by kernel_rfl
theorem entry_cm_new : entryFor table "itertools.combinations.__new__" = some Builtin.«itertools.combinations.__new__» := entryFor_of_tree (by kernel_rfl)
theorem plain_cm_new : plainId "itertools.combinations.__new__" = true := by decide +kernel
theorem slot_cm_iter : Slot "itertools.combinations" "__iter__" "itertools.combinations.__iter__" :=
  .of (owner := "itertools.combinations") (n := "__iter__") (by rw [typeLookup_type, builtinLookup_eq_fast]; kernel_rfl) (by decide +kernel) (by decide +kernel) (by decide +kernel)
    (by first | exact .inl (by decide +kernel) | exact .inr (by decide +kernel)) sub_cm
theorem slot_cm_next : Slot "itertools.combinations" "__next__" "itertools.combinations.__next__" :=
  .of (owner := "itertools.combinations") (n := "__next__") (by rw [typeLookup_type, builtinLookup_eq_fast]; kernel_rfl) (by decide +kernel) (by decide +kernel) (by decide +kernel)
    (by first | exact .inl (by decide +kernel) | exact .inr (by decide +kernel)) sub_cm
theorem entry_cm_iter : entryFor table "itertools.combinations.__iter__" = some Builtin.«dict_keyiterator.__iter__» :=
  entryFor_alias (id' := "dict_keyiterator.__iter__") (by kernel_rfl) (by first | rfl | decide +kernel | (unfold String.splitOn; simp +decide [String.splitOnAux])) (by decide +kernel) (by kernel_rfl)
theorem entry_cm_next : entryFor table "itertools.combinations.__next__" = some Builtin.«itertools.combinations.__next__» := entryFor_of_tree (by kernel_rfl)
theorem noDict_cm : typeHasDict (.type "itertools.combinations") = false := by decide +kernel
theorem noClose_cm : typeLookup (.type "itertools.combinations") "close" = pure none := by rw [typeLookup_type, builtinLookup_eq_fast]; kernel_rfl
theorem owner_cm : Manifest.owners.lookup (String.ofList ['s', 'n', 'o', 'i', 't', 'a', 'n', 'i', 'b', 'm', 'o', 'c', '.', 's', 'l', 'o', 'o', 't', 'r', 'e', 't', 'i'].reverse) = some Manifest.sig_itertools_combinations := by kernel_rfl
theorem args_cm_iter (a : Value) : argsOk "itertools.combinations.__iter__" ⟨[a], []⟩ := by
  unfold argsOk; rw [signature?_of (id := "itertools.combinations.__iter__") (n := ['_', '_', 'r', 'e', 't', 'i', '_', '_']) (o := ['s', 'n', 'o', 'i', 't', 'a', 'n', 'i', 'b', 'm', 'o', 'c', '.', 's', 'l', 'o', 'o', 't', 'r', 'e', 't', 'i']) (by kernel_rfl) owner_cm]; kernel_rfl
theorem args_cm_next (a : Value) : argsOk "itertools.combinations.__next__" ⟨[a], []⟩ := by
  unfold argsOk; rw [signature?_of (id := "itertools.combinations.__next__") (n := ['_', '_', 't', 'x', 'e', 'n', '_', '_']) (o := ['s', 'n', 'o', 'i', 't', 'a', 'n', 'i', 'b', 'm', 'o', 'c', '.', 's', 'l', 'o', 'o', 't', 'r', 'e', 't', 'i']) (by kernel_rfl) owner_cm]; kernel_rfl
abbrev poolO (acc : Array Value) : Obj := { cls := .type "tuple", dict := none, data := .seq acc, slots := #[] }
abbrev cmO (pt : Addr) (st : Int) (old : Value) (ns : List Nat) : Obj := { cls := .type "itertools.combinations", dict := none, data := .fields ([.ref pt, rawInt st, old] ++ ns.map fun (i : Nat) => rawInt i).toArray, slots := #[] }
/-- a combinations object: its pool, how far it is, what it told last, its numbers -/
abbrev IsCm (h : Heap) (it pt : Addr) (st : Int) (old : Value) (ns : List Nat) : Prop := h.get? it = some (cmO pt st old ns)
section
variable {prog : Program} {w : World} {A : Around} {E : Value → Shared → Prop} {s : Shared} {r : Addr} {t u v t2 : Tok} {n : Nat}
theorem code_cm_new {Q₁ : Value → Shared → Prop} (hh : A.handled = none) (hr : IsRange s.heap r 0 (n : Int) 1 t u v) (hsmall : Builtin.Range.small 0 (n : Int) 1 = true) (hn : Builtin.Range.rangeSize 0 (n : Int) 1 = n) (hlen : n ≤ 100)
    (h : ∀ (hm : Heap) (tk : Nat) (acc : Array Value), (∀ b o, s.heap.get? b = some o → hm.get? b = some o) → ItemsOf (fun i v => ∃ t, v = .int (0 + i * 1) t) acc n → Q₁ (.ref (hm.objs.size + 1)) { s with heap := (hm.push (poolO acc)).push (cmO hm.objs.size (if 2 > n then 2 else 0) .none [0, 1]), toks := tk }) :
    codeAny (model prog w) A (.call (.builtin "itertools.combinations.__new__") ⟨[.type "itertools.combinations", .ref r, .int 2 t2], []⟩) (wants Q₁ E) s := by
  refine codeAny_of_tree ?_
  show wpAny _ A.in1 (do checkBuiltinCall "itertools.combinations.__new__" ⟨[.type "itertools.combinations", .ref r, .int 2 t2], []⟩; again (.builtin "itertools.combinations.__new__" ⟨[.type "itertools.combinations", .ref r, .int 2 t2], []⟩)) _ _ s
  refine wpAny_bind (wpAny_of_eq (newCall_cm _ _) (wpAny_pure ⟨plainId_quiet plain_cm_new _, codeAny_builtin entry_cm_new ?_⟩))
  rw [Around.under_plainId plain_cm_new _]
  have hsub : isSubtype (.type "itertools.combinations") (.type ("itertools." ++ "combinations")) = pure true := sub_cm
  have hd := noDict_cm
  have hTI : s.TypeIs (.ref r) "range" := ⟨_, hr, rfl⟩
  have hh1 : A.in1.handled = none := hh
  have hlen2 : n ≤ 2 ^ 24 := Nat.le_trans hlen (by decide)
  wp_walk using wpAny_typeOf hTI, L2.collect_range (A := A.in1) hh1 hr hsmall hn hlen2
  intro h' tk acc hk hacc
  have hl : acc.toList.length = n := by rw [Array.length_toList]; exact hacc.1
  refine wpAny_ite_false (by decide) ?_
  refine wpAny_ite_false (by decide) ?_
  unfold newTuple
  refine wpAny_bind (wpAny_newObj_type ?_ ?_)
  · refine wpAny_pure ?_
    show wpAny _ _ (itNewRecord _ _ >>= _) _ _ _
    unfold itNewRecord
    rw [hd]
    refine wpAny_bind ?_
    refine wpAny_ite_true rfl ?_
    refine wpAny_newObj_type (wpAny_pure ?_) ?_
    · have e1 : (h'.push (poolO acc)).objs.size = h'.objs.size + 1 := by simp [Heap.push]
      have q := h h' tk acc hk hacc
      rw [← e1] at q
      rw [hl]
      exact q
    · show _ ≤ sizeLine + 2
      simp only [List.size_toArray, List.length_append, List.length_map, List.length_range, List.length_cons, List.length_nil]
      rw [sizeLine_eq]
      decide
  · show _ ≤ sizeLine
    rw [List.size_toArray, hl, sizeLine_eq]
    omega
end
/-! the numbers behind -/
def nxtC (n : Nat) (indices : List Nat) : Option (List Nat) :=
  let r := indices.length
  match (List.range r).reverse.find? fun i => indices.getD i 0 != i + n - r with
  | none => none
  | some i => some (indices.take i ++ (List.range (r - i)).map (indices.getD i 0 + 1 + ·))
section
variable {prog : Program} {w : World} {A : Around} {E : Value → Shared → Prop} {s : Shared} {it pt : Addr} {n : Nat} {old : Value} {ns : List Nat} {acc : Array Value}
/-- what is told: a new tuple -/
abbrev toldO (acc : Array Value) (ix : List Nat) : Obj := { cls := .type "tuple", dict := none, data := .seq (ix.map fun i => acc.getD i .none).toArray, slots := #[] }
theorem nums_back (ns : List Nat) (a b c : Value) : ((([a, b, c] ++ ns.map fun (i : Nat) => rawInt i).toArray.toList.drop 3).map fun | .int n _ => n.toNat | _ => 0) = ns := by
  show ((ns.map fun (i : Nat) => rawInt i).map _) = ns
  rw [List.map_map]
  refine (List.map_congr_left fun i _ => ?_).trans (List.map_id ns)
  show (rawInt (i : Int) |> fun | .int n _ => n.toNat | _ => 0) = i
  exact Int.toNat_natCast i
theorem set_num (pt st old : Value) (ns : List Nat) (v : Value) : ([pt, st, old] ++ ns.map fun (i : Nat) => rawInt i).toArray.setIfInBounds 1 v = ([pt, v, old] ++ ns.map fun (i : Nat) => rawInt i).toArray := by
  simp
theorem set_old (pt st old : Value) (ns : List Nat) (v : Value) : ([pt, st, old] ++ ns.map fun (i : Nat) => rawInt i).toArray.setIfInBounds 2 v = ([pt, st, v] ++ ns.map fun (i : Nat) => rawInt i).toArray := by
  simp
theorem set_nums (pt st old : Value) (ns ms : List Nat) : ([pt, st, old] ++ ns.map fun (i : Nat) => rawInt i).toArray.extract 0 3 ++ (ms.map fun (i : Nat) => rawInt i).toArray = ([pt, st, old] ++ ms.map fun (i : Nat) => rawInt i).toArray := by
  simp
/-- what is handed out -/
theorem cm_result {st : Int} {ix : List Nat} {Q : PySem.Fin → Shared → Prop} (hit : IsCm s.heap it pt st old ns) (hp : s.heap.get? pt = some (poolO acc)) (hl : ix.length ≤ 1000)
    (hQ : ∀ h', IsCm h' it pt st (.ref s.heap.objs.size) ns → h'.get? s.heap.objs.size = some (toldO acc ix) → (∀ b o, b ≠ it → s.heap.get? b = some o → h'.get? b = some o) → Q (.done (.ret (.ref s.heap.objs.size))) { s with heap := h' }) :
    wpAny (model prog w) A (do
      let result ← (do
        let items ← itPoolItems (.ref pt)
        newTuple (ix.map fun i => items.getD i .none))
      let before ← field (.ref it) 2
      setField (.ref it) 2 result
      letGo [before] [result]
      ret result) Q E s := by
  unfold newTuple itPoolItems
  refine wpAny_bind (wpAny_bind (wpAny_bind (wpAny_seqItems hp rfl (wpAny_pure ?_))))
  refine wpAny_newObj_type ?_ (by show _ ≤ sizeLine; rw [List.size_toArray, List.length_map, sizeLine_eq]; omega)
  have hit2 : IsCm (s.heap.push (toldO acc ix)) it pt st old ns := Heap.get?_push_of_some _ hit
  refine wpAny_bind (wpAny_field hit2 rfl (x := old) rfl ?_)
  refine wpAny_bind (wpAny_setField hit2 rfl (by simp) ?_)
  have hit3 : IsCm ((s.heap.push (toldO acc ix)).update it (Obj.mapFields (·.setIfInBounds 2 (.ref s.heap.objs.size)))) it pt st (.ref s.heap.objs.size) ns := by
    unfold IsCm
    rw [Heap.get?_update_self _ hit2 rfl]
    show some (Obj.mapFields _ (cmO pt st old ns)) = _
    unfold Obj.mapFields
    show some _ = _
    simp only [set_old]
  have ne : s.heap.objs.size ≠ it := Nat.ne_of_gt (Heap.lt_size hit)
  refine wpAny_bind ?_
  unfold letGo
  refine wpAny_bind (wpAny_holding (wpAny_point ?_))
  unfold letGo
  refine wpAny_pure (wpAny_pure ?_)
  refine hQ _ hit3 ?_ fun b o hb e => ?_
  · rw [Heap.get?_update_ne _ _ _ _ ne]
    exact Heap.get?_push_size _ rfl
  · rw [Heap.get?_update_ne _ _ _ _ hb]
    exact Heap.get?_push_of_some _ e
theorem cm_first {Q : Option Value → Shared → Prop} (hit : IsCm s.heap it pt 0 old ns) (hp : s.heap.get? pt = some (poolO acc)) (hpt : pt ≠ it) (hl : ns.length ≤ 1000)
    (hQ : ∀ h', IsCm h' it pt 1 (.ref s.heap.objs.size) ns → h'.get? s.heap.objs.size = some (toldO acc ns) → (∀ b o, b ≠ it → s.heap.get? b = some o → h'.get? b = some o) → Q (some (.ref s.heap.objs.size)) { s with heap := h' }) :
    wpAny (model prog w) A (pyNext (.ref it)) Q E s := by
  have hT : s.TypeIs (.ref it) "itertools.combinations" := ⟨_, hit, rfl⟩
  unfold pyNext
  refine wpAny_bind (wpAny_attempt (wpAny_callSpecial?_slot (name := Str.ofString "__next__") hT slot_cm_next (wpAny_call_entry slot_cm_next hT entry_cm_next ?_ (args_cm_next _))))
  show wpAny _ _ (field (.ref it) 0 >>= _) _ _ s
  refine wpAny_bind (wpAny_field hit rfl (x := .ref pt) rfl ?_)
  show wpAny _ _ (itNumbersFrom (.ref it) 3 >>= _) _ _ s
  refine wpAny_bind ?_
  unfold itNumbersFrom
  refine wpAny_bind (wpAny_load hit (wpAny_pure ?_))
  have nb := nums_back ns (.ref pt) (rawInt 0) old
  generalize hz : (List.map _ (List.drop 3 _) : List Nat) = numbers
  have ez : numbers = ns := hz.symm.trans nb
  rw [ez]
  clear hz nb ez
  unfold itIntField
  refine wpAny_bind (wpAny_bind (wpAny_field hit rfl (x := rawInt 0) rfl (wpAny_pure ?_)))
  refine wpAny_bind (wpAny_setField hit rfl (by simp) ?_)
  have hit2 : IsCm (s.heap.update it (Obj.mapFields (·.setIfInBounds 1 (rawInt 1)))) it pt 1 old ns := by
    unfold IsCm
    rw [Heap.get?_update_self _ hit rfl]
    show some (Obj.mapFields _ (cmO pt 0 old ns)) = _
    unfold Obj.mapFields
    show some _ = _
    simp only [set_num]
  have sz : (s.heap.update it (Obj.mapFields (·.setIfInBounds 1 (rawInt 1)))).objs.size = s.heap.objs.size := Heap.size_update ..
  have hp2 : (s.heap.update it (Obj.mapFields (·.setIfInBounds 1 (rawInt 1)))).get? pt = some (poolO acc) := by rw [Heap.get?_update_ne _ _ _ _ hpt]; exact hp
  refine cm_result (acc := acc) (ix := ns) hit2 hp2 (by omega) fun h' h1 h2 h3 => ?_
  rw [sz] at h1 h2
  refine ⟨_, rfl, wpAny_pure ?_⟩
  rw [sz]
  exact hQ h' h1 h2 fun b o hb e => h3 b o hb (by rw [Heap.get?_update_ne _ _ _ _ hb]; exact e)
theorem cm_more {Q : Option Value → Shared → Prop} {ix : List Nat} (hit : IsCm s.heap it pt 1 old ns) (hp : s.heap.get? pt = some (poolO acc)) (hn : acc.size = n) (hpt : pt ≠ it) (hz : nxtC n ns = some ix) (hl : ix.length ≤ 1000)
    (hQ : ∀ h', IsCm h' it pt 1 (.ref s.heap.objs.size) ix → h'.get? s.heap.objs.size = some (toldO acc ix) → (∀ b o, b ≠ it → s.heap.get? b = some o → h'.get? b = some o) → Q (some (.ref s.heap.objs.size)) { s with heap := h' }) :
    wpAny (model prog w) A (pyNext (.ref it)) Q E s := by
  have hT : s.TypeIs (.ref it) "itertools.combinations" := ⟨_, hit, rfl⟩
  unfold pyNext
  refine wpAny_bind (wpAny_attempt (wpAny_callSpecial?_slot (name := Str.ofString "__next__") hT slot_cm_next (wpAny_call_entry slot_cm_next hT entry_cm_next ?_ (args_cm_next _))))
  show wpAny _ _ (field (.ref it) 0 >>= _) _ _ s
  refine wpAny_bind (wpAny_field hit rfl (x := .ref pt) rfl ?_)
  show wpAny _ _ (itNumbersFrom (.ref it) 3 >>= _) _ _ s
  refine wpAny_bind ?_
  unfold itNumbersFrom
  refine wpAny_bind (wpAny_load hit (wpAny_pure ?_))
  have nb := nums_back ns (.ref pt) (rawInt 1) old
  generalize hz' : (List.map _ (List.drop 3 _) : List Nat) = numbers
  have ez : numbers = ns := hz'.symm.trans nb
  rw [ez]
  clear hz' nb ez
  unfold itIntField
  refine wpAny_bind (wpAny_bind (wpAny_field hit rfl (x := rawInt 1) rfl (wpAny_pure ?_)))
  show wpAny _ _ (itPoolItems (.ref pt) >>= _) _ _ s
  unfold itPoolItems
  refine wpAny_bind (wpAny_bind (wpAny_seqItems hp rfl (wpAny_pure ?_)))
  show wpAny _ _ (match (_ : Option (List Nat)) with | some i => _ | none => _) _ _ _
  subst hn
  split
  · rename_i i heq
    have e : nxtC acc.size ns = some i := Eq.trans (by kernel_rfl) heq
    rw [hz] at e
    cases e
    refine wpAny_bind ?_
    unfold itSetNumbersFrom
    refine wpAny_updateFields hit rfl ?_ ?_
    · have hit2 : IsCm (s.heap.update it (Obj.mapFields fun fs => fs.extract 0 3 ++ (ix.map fun (n : Nat) => rawInt n).toArray)) it pt 1 old ix := by
        unfold IsCm
        rw [Heap.get?_update_self _ hit rfl]
        show some (Obj.mapFields _ (cmO pt 1 old ns)) = _
        unfold Obj.mapFields
        show some _ = _
        simp only [set_nums]
      have sz : (s.heap.update it (Obj.mapFields fun fs => fs.extract 0 3 ++ (ix.map fun (n : Nat) => rawInt n).toArray)).objs.size = s.heap.objs.size := Heap.size_update ..
      have hp2 : (s.heap.update it (Obj.mapFields fun fs => fs.extract 0 3 ++ (ix.map fun (n : Nat) => rawInt n).toArray)).get? pt = some (poolO acc) := by rw [Heap.get?_update_ne _ _ _ _ hpt]; exact hp
      refine cm_result (acc := acc) (ix := ix) hit2 hp2 hl fun h' h1 h2 h3 => ?_
      rw [sz] at h1 h2
      refine ⟨_, rfl, wpAny_pure ?_⟩
      rw [sz]
      exact hQ h' h1 h2 fun b o hb e => h3 b o hb (by rw [Heap.get?_update_ne _ _ _ _ hb]; exact e)
    · show (_ ++ _ : Array Value).size ≤ _
      rw [set_nums, List.size_toArray, List.length_append, List.length_map, sizeLine_eq]
      show 3 + _ ≤ _
      omega
  · rename_i heq
    have e : nxtC acc.size ns = none := Eq.trans (by kernel_rfl) heq
    rw [hz] at e
    cases e
theorem cm_end {Q : Option Value → Shared → Prop} (hh : A.handled = none) (hit : IsCm s.heap it pt 1 old ns) (hp : s.heap.get? pt = some (poolO acc)) (hn : acc.size = n) (hz : nxtC n ns = none)
    (hQ : ∀ h', (∀ b o, b ≠ it → s.heap.get? b = some o → h'.get? b = some o) → Q none { s with heap := h' }) :
    wpAny (model prog w) A (pyNext (.ref it)) Q E s := by
  have hT : s.TypeIs (.ref it) "itertools.combinations" := ⟨_, hit, rfl⟩
  unfold pyNext
  refine wpAny_bind (wpAny_attempt (wpAny_callSpecial?_slot (name := Str.ofString "__next__") hT slot_cm_next (wpAny_call_entry slot_cm_next hT entry_cm_next ?_ (args_cm_next _))))
  show wpAny _ _ (field (.ref it) 0 >>= _) _ _ s
  refine wpAny_bind (wpAny_field hit rfl (x := .ref pt) rfl ?_)
  show wpAny _ _ (itNumbersFrom (.ref it) 3 >>= _) _ _ s
  refine wpAny_bind ?_
  unfold itNumbersFrom
  refine wpAny_bind (wpAny_load hit (wpAny_pure ?_))
  have nb := nums_back ns (.ref pt) (rawInt 1) old
  generalize hz' : (List.map _ (List.drop 3 _) : List Nat) = numbers
  have ez : numbers = ns := hz'.symm.trans nb
  rw [ez]
  clear hz' nb ez
  unfold itIntField
  refine wpAny_bind (wpAny_bind (wpAny_field hit rfl (x := rawInt 1) rfl (wpAny_pure ?_)))
  show wpAny _ _ (itPoolItems (.ref pt) >>= _) _ _ s
  unfold itPoolItems
  refine wpAny_bind (wpAny_bind (wpAny_seqItems hp rfl (wpAny_pure ?_)))
  show wpAny _ _ (match (_ : Option (List Nat)) with | some i => _ | none => _) _ _ _
  subst hn
  split
  · rename_i i heq
    have e : nxtC acc.size ns = some i := Eq.trans (by kernel_rfl) heq
    rw [hz] at e
    cases e
  · refine wpAny_bind (wpAny_setField hit rfl (by simp) ?_)
    unfold itStop
    simp only [newExc, newTuple]
    refine wpAny_bind ?_
    refine wpAny_bind (wpAny_newObj_type ?_ (by size_fits))
    refine wpAny_bind (m := firstArgMember _ _) (wpAny_of_eq (a := Value.none) (by first | rfl | (simp only [firstArgMember]; rfl)) ?_)
    refine wpAny_newObj_type ?_ (by size_fits)
    simp only [raiseNew]
    refine wpAny_bind (wpAny_handled ?_)
    first | rw [show A.in1.handled = none from hh] | rw [hh]
    refine wpAny_bind (wpAny_pure (wpAny_throw ?_))
    refine wpAny_bind (wpAny_isInstance (T := "StopIteration") (b := true) ⟨_, Heap.get?_push_size _ rfl, rfl⟩ isSubtype_stop ?_)
    refine wpAny_pure (hQ _ fun b o hb e => ?_)
    exact Heap.get?_push_of_some _ (Heap.get?_push_of_some _ (by rw [Heap.get?_update_ne _ _ _ _ hb]; exact e))
theorem cm_over {Q : Option Value → Shared → Prop} (hh : A.handled = none) (hit : IsCm s.heap it pt 2 old ns)
    (hQ : ∀ h', (∀ b o, b ≠ it → s.heap.get? b = some o → h'.get? b = some o) → Q none { s with heap := h' }) :
    wpAny (model prog w) A (pyNext (.ref it)) Q E s := by
  have hT : s.TypeIs (.ref it) "itertools.combinations" := ⟨_, hit, rfl⟩
  unfold pyNext
  refine wpAny_bind (wpAny_attempt (wpAny_callSpecial?_slot (name := Str.ofString "__next__") hT slot_cm_next (wpAny_call_entry slot_cm_next hT entry_cm_next ?_ (args_cm_next _))))
  show wpAny _ _ (field (.ref it) 0 >>= _) _ _ s
  refine wpAny_bind (wpAny_field hit rfl (x := .ref pt) rfl ?_)
  show wpAny _ _ (itNumbersFrom (.ref it) 3 >>= _) _ _ s
  refine wpAny_bind ?_
  unfold itNumbersFrom
  refine wpAny_bind (wpAny_load hit (wpAny_pure ?_))
  unfold itIntField
  refine wpAny_bind (wpAny_bind (wpAny_field hit rfl (x := rawInt 2) rfl (wpAny_pure ?_)))
  refine wpAny_bind (wpAny_rule ?_)
  unfold itStop
  simp only [newExc, newTuple]
  refine wpAny_bind ?_
  refine wpAny_bind (wpAny_newObj_type ?_ (by size_fits))
  refine wpAny_bind (m := firstArgMember _ _) (wpAny_of_eq (a := Value.none) (by first | rfl | (simp only [firstArgMember]; rfl)) ?_)
  refine wpAny_newObj_type ?_ (by size_fits)
  simp only [raiseNew]
  refine wpAny_bind (wpAny_handled ?_)
  first | rw [show A.in1.handled = none from hh] | rw [hh]
  refine wpAny_bind (wpAny_pure (wpAny_throw ?_))
  refine wpAny_bind (wpAny_isInstance (T := "StopIteration") (b := true) ⟨_, Heap.get?_push_size _ rfl, rfl⟩ isSubtype_stop ?_)
  refine wpAny_pure (hQ _ fun b o hb e => ?_)
  exact Heap.get?_push_of_some _ (Heap.get?_push_of_some _ e)
end
end Cm
end
section
open PySem PySem.Spec PySem.Builtin PySem.Builtin.Itertools
namespace Cm
section
variable {prog : Program} {w : World} {A : Around} {E : Value → Shared → Prop} {s : Shared} {it pt r : Addr} {n : Nat} {old : Value} {ns : List Nat} {acc : Array Value} {t u v t2 : Tok}
theorem iter_cm {st : Int} {Q : Value → Shared → Prop} (hit : IsCm s.heap it pt st old ns) (h : Q (.ref it) s) : wpAny (model prog w) A (pyIter (.ref it)) Q E s := by
  have hT : s.TypeIs (.ref it) "itertools.combinations" := ⟨_, hit, rfl⟩
  refine wpAny_pyIter_slot hT slot_cm_iter (wpAny_call_entry slot_cm_iter hT entry_cm_iter ?_ (args_cm_iter _))
  show wpAny _ _ (ret (.ref it)) _ _ s
  exact wpAny_pure ⟨_, rfl, "itertools.combinations", _, hT, slot_cm_next.lookup, h⟩
theorem call_cm {Q : Value → Shared → Prop} (hh : A.handled = none) (hr : IsRange s.heap r 0 (n : Int) 1 t u v) (hsmall : Builtin.Range.small 0 (n : Int) 1 = true) (hn : Builtin.Range.rangeSize 0 (n : Int) 1 = n) (hlen : n ≤ 100)
    (h : ∀ (hm : Heap) (tk : Nat) (acc : Array Value), (∀ b o, s.heap.get? b = some o → hm.get? b = some o) → ItemsOf (fun i v => ∃ t, v = .int (0 + i * 1) t) acc n → Q (.ref (hm.objs.size + 1)) { s with heap := (hm.push (poolO acc)).push (cmO hm.objs.size (if 2 > n then 2 else 0) .none [0, 1]), toks := tk }) :
    wpAny (model prog w) A (call (.type "itertools.combinations") [.ref r, .int 2 t2]) Q E s := by
  have hh1 : A.in1.handled = none := hh
  refine PySem.ks_callType_codesW (Q₁ := fun obj s1 => s1.TypeIs obj "itertools.combinations" ∧ Q obj s1) called_cm (fun {Q'} {E'} hq => wpAny_of_eq (typeCall_cm _ _) hq) F.entry_object_init (code_cm_new hh1 hr hsmall hn hlen fun hm tk acc hk hi => ?_) fun obj s1 h1 => ?_
  · refine ⟨⟨cmO hm.objs.size (if 2 > n then 2 else 0) .none [0, 1], ?_, rfl⟩, h hm tk acc hk hi⟩
    have e1 : (hm.push (poolO acc)).objs.size = hm.objs.size + 1 := by simp [Heap.push]
    rw [← e1]
    exact Heap.get?_push_size _ rfl
  · exact ⟨h1.1, PySem.F.args_object_init_3 obj _ _, object_init_meets called_cm.init.lookup called_cm.made (by decide +kernel) _ _ _ _ _ ⟨h1.1, rfl, h1.2⟩⟩
end
/-! the numbers at each turn -/
def runC (n : Nat) : Nat → List Nat → List (List Nat)
  | 0, ns => [ns]
  | k + 1, ns => ns :: match nxtC n ns with
    | none => []
    | some i => runC n k i
def combsN (n : Nat) : List (List Nat) := if 2 > n then [] else runC n 15 [0, 1]
theorem runC_zero (n : Nat) : ∀ k ns, (runC n k ns)[0]? = some ns
  | 0, _ => rfl
  | _ + 1, _ => rfl
theorem runC_next (n : Nat) : ∀ (k i : Nat) (ns ms : List Nat), (runC n k ns)[i]? = some ms → i < k →
    (match nxtC n ms with | none => (runC n k ns)[i + 1]? = none | some a => (runC n k ns)[i + 1]? = some a)
  | 0, i, ns, ms, _, h => absurd h (Nat.not_lt_zero _)
  | k + 1, 0, ns, ms, e, _ => by
    have e1 : ns = ms := Option.some.inj e
    subst e1
    unfold runC
    cases hn : nxtC n ns with
    | none => rfl
    | some a =>
      show (runC n k a)[0]? = _
      exact runC_zero n k _
  | k + 1, i + 1, ns, ms, e, h => by
    unfold runC at e ⊢
    cases hn : nxtC n ns with
    | none =>
      rw [hn] at e
      simp at e
    | some a =>
      rw [hn] at e
      have e' : (runC n k a)[i]? = some ms := e
      exact runC_next n k i a ms e' (by omega)
def combOk (n : Nat) : Bool := decide ((combsN n).length ≤ 15) && (combsN n).all fun ns => decide (ns.length = 2) && ns.all fun i => decide (i < n)
theorem combOk_small : ∀ n, n ≤ 6 → combOk n = true := by
  intro n hn
  match n, hn with
  | 0, _ => decide +kernel
  | 1, _ => decide +kernel
  | 2, _ => decide +kernel
  | 3, _ => decide +kernel
  | 4, _ => decide +kernel
  | 5, _ => decide +kernel
  | 6, _ => decide +kernel
end Cm
end
section
open Cm
theorem combOk_len {n : Nat} (h : combOk n = true) : (combsN n).length ≤ 15 := by
  unfold combOk at h
  rw [Bool.and_eq_true, decide_eq_true_iff] at h
  exact h.1
theorem combOk_at {n : Nat} (h : combOk n = true) {ns : List Nat} (hn : ns ∈ combsN n) : ns.length = 2 ∧ ∀ i ∈ ns, i < n := by
  unfold combOk at h
  rw [Bool.and_eq_true] at h
  have h2 := List.all_eq_true.mp h.2 ns hn
  rw [Bool.and_eq_true, decide_eq_true_iff] at h2
  exact ⟨h2.1, fun i hi => of_decide_eq_true (List.all_eq_true.mp h2.2 i hi)⟩
/-- the pairs of 0 .. n - 1, each in a new tuple -/
def ItC (n : Nat) : It :=
  ⟨fun i _ => i < (combsN n).length, fun i H v H' => ∃ T ns, v = .ref T ∧ H T = none ∧ H' = upd H T (.tup (ns.map fun (j : Nat) => V.int j)) ∧ (combsN n)[i]? = some ns, fun i _ => (combsN n).length ≤ i⟩
def CmAt (n : Nat) (it pt : Addr) (i : Nat) (h : Heap) : Prop := ∃ (st : Int) (old : Value) (ns : List Nat) (acc : Array Value), IsCm h it pt st old ns ∧ h.get? pt = some (poolO acc) ∧ ItemsOf (fun i v => ∃ t, v = .int (0 + i * 1) t) acc n ∧ it ≠ pt ∧
  ((st = 2 ∧ (combsN n).length = 0) ∨ (i = 0 ∧ st = 0 ∧ (combsN n)[0]? = some ns) ∨ ∃ j, i = j + 1 ∧ st = 1 ∧ (combsN n)[j]? = some ns)
theorem told_relC {n : Nat} {acc : Array Value} (hi : ItemsOf (fun i v => ∃ t, v = .int (0 + i * 1) t) acc n) : ∀ {ix : List Nat}, (∀ i ∈ ix, i < n) → Vals (ix.map fun (j : Nat) => V.int j) (ix.map fun i => acc.getD i .none)
  | [], _ => .nil
  | i :: ix, h => by
    refine .cons ?_ (told_relC hi fun z hz => h z (List.mem_cons_of_mem _ hz))
    have hlt : i < acc.size := by
      rw [hi.1]
      exact h i List.mem_cons_self
    obtain ⟨t, e⟩ := hi.2 i acc[i] (Array.getElem?_eq_getElem hlt)
    refine ⟨t, ?_⟩
    show acc.getD i .none = .int (i : Int) t
    have : acc.getD i .none = acc[i] := by simp [Array.getD, hlt]
    rw [this, e]
    congr 1
    omega
theorem combs_next {n j : Nat} {ns : List Nat} (ok : combOk n = true) (e : (combsN n)[j]? = some ns) :
    (match nxtC n ns with | none => (combsN n)[j + 1]? = none | some a => (combsN n)[j + 1]? = some a) := by
  have hj := (List.getElem?_eq_some_iff.mp e).1
  have := combOk_len ok
  unfold combsN at e ⊢
  by_cases c : 2 > n
  · rw [if_pos c] at e
    simp at e
  · rw [if_neg c] at e ⊢
    exact runC_next n 15 j _ ns e (by omega)
theorem turn_comb {P : Program} {w : World} {K : PySem.W.Frag} {tg : Expr} {n : Nat} (it pt : Addr) (ok : combOk n = true) : Turn P w K tg (ItC n) [it, pt] it (CmAt n it pt) where
  mem := by simp
  obj := fun i h st b hb => by
    obtain ⟨st, old, ns, acc, h1, h2, _⟩ := st
    have e' : b = it ∨ b = pt := by simpa using hb
    rcases e' with z | z
    · rw [z]; exact ⟨_, h1, fun v q => nomatch q⟩
    · rw [z]; exact ⟨_, h2, fun v q => nomatch q⟩
  keep := fun i h h' st k => by
    obtain ⟨st, old, ns, acc, h1, h2, r⟩ := st
    exact ⟨st, old, ns, acc, k it (by simp) _ h1, k pt (by simp) _ h2, r⟩
  item := by
    intro X hP hw hK hc i pins s σ H E I hf st hg
    subst hP hw hK
    obtain ⟨st, old, ns, acc, hit, hp, hi, hne, hcase⟩ := st
    have hg : i < (combsN n).length := hg
    have l15 := combOk_len ok
    have fin : ∀ (ms : List Nat) (h' : Heap), (combsN n)[i]? = some ms → IsCm h' it pt 1 (.ref s.heap.objs.size) ms → h'.get? s.heap.objs.size = some (toldO acc ms) → (∀ b o, b ≠ it → s.heap.get? b = some o → h'.get? b = some o) →
        ∃ u, some (Value.ref s.heap.objs.size) = some u ∧ wpAny (model X.prog X.w) X.A (letOwnedTupleGo tg (.ref it) u) (fun _ s2 => ∃ x H', Inv X pins σ H' s2 ∧ RelV x u ∧ (ItC n).yld i H x H' ∧ CmAt n it pt (i + 1) s2.heap ∧ ∀ b ∈ [it, pt], H' b = none) E { s with heap := h' } := by
      intro ms h' e h1 h2 h3
      have hin := combOk_at ok (List.mem_of_getElem? e)
      refine ⟨_, rfl, go_of (s := { s with heap := h' }) h1 rfl rfl (by decide) ?_⟩
      have new : ObjOk X.prog X.w (upd H s.heap.objs.size (.tup (ms.map fun (j : Nat) => V.int j))) h' s.heap.objs.size (.tup (ms.map fun (j : Nat) => V.int j)) :=
        ⟨by rw [List.length_map, hin.1, sizeLine_eq]; decide, ms.map fun i => acc.getD i .none, told_relC hi hin.2, ⟨_, h2, rfl, _, rfl⟩⟩
      have I1 : Inv X pins σ (upd H s.heap.objs.size (.tup (ms.map fun (j : Nat) => V.int j))) { s with heap := h', toks := s.toks } :=
        I.turnedNew (ch := [it, pt]) (fun b ob hb q => h3 b ob (fun z => hb (by simp [z])) q) hf (Nat.le_refl _) new
      refine ⟨.ref s.heap.objs.size, _, I1, rfl, ⟨_, ms, rfl, I.hok.fresh (Nat.le_refl _), rfl, e⟩, ⟨1, _, ms, acc, h1, h3 pt _ (Ne.symm hne) hp, hi, hne, .inr (.inr ⟨i, rfl, rfl, e⟩)⟩, fun b hb => ?_⟩
      have e' : b = it ∨ b = pt := by simpa using hb
      have hlt : b < s.heap.objs.size := by
        rcases e' with z | z
        · rw [z]; exact Heap.lt_size hit
        · rw [z]; exact Heap.lt_size hp
      rw [upd_ne (Nat.ne_of_lt hlt)]
      exact (hf b hb).1
    rcases hcase with ⟨_, z⟩ | ⟨rfl, rfl, e⟩ | ⟨j, rfl, rfl, e⟩
    · omega
    · have hin := combOk_at ok (List.mem_of_getElem? e)
      exact cm_first hit hp (Ne.symm hne) (by omega) fun h' h1 h2 h3 => fin ns h' e h1 h2 h3
    · have nx := combs_next ok e
      cases hn : nxtC n ns with
      | none =>
        rw [hn] at nx
        have nx : (combsN n)[j + 1]? = none := nx
        rw [List.getElem?_eq_getElem hg] at nx
        cases nx
      | some ix =>
        rw [hn] at nx
        have nx : (combsN n)[j + 1]? = some ix := nx
        have hin := combOk_at ok (List.mem_of_getElem? nx)
        exact cm_more hit hp hi.1 (Ne.symm hne) hn (by omega) fun h' h1 h2 h3 => fin ix h' nx h1 h2 h3
  done := by
    intro X hP hw hK hc i pins s σ H E I hf st hg
    subst hP hw hK
    obtain ⟨st, old, ns, acc, hit, hp, hi, hne, hcase⟩ := st
    have hg : (combsN n).length ≤ i := hg
    obtain ⟨f0, f1, f2, f3, f4, f5⟩ := hf it (by simp)
    rcases hcase with ⟨rfl, z⟩ | ⟨rfl, rfl, e⟩ | ⟨j, rfl, rfl, e⟩
    · exact cm_over (I.ok.hd hc) hit fun h' k => ⟨rfl, I.turned (t' := s.toks) (fun b o hb q => k b o hb q) f0 f1 f3 f4 f5⟩
    · rw [List.getElem?_eq_none_iff.mpr hg] at e
      cases e
    · have nx := combs_next ok e
      cases hn : nxtC n ns with
      | none => exact cm_end (I.ok.hd hc) hit hp hi.1 hn fun h' k => ⟨rfl, I.turned (t' := s.toks) (fun b o hb q => k b o hb q) f0 f1 f3 f4 f5⟩
      | some ix =>
        rw [hn] at nx
        have nx : (combsN n)[j + 1]? = some ix := nx
        rw [List.getElem?_eq_none_iff.mpr hg] at nx
        cases nx
  self := fun A i s Q E st h => by
    obtain ⟨st, old, ns, acc, hit, _⟩ := st
    exact iter_cm hit h
def iComb (te : L2.St → Hp → (Int → Int → Hp → Prop) → Prop) : TI := fun σ H R => te σ H fun a b H1 => ∃ n : Nat, a = 0 ∧ b = (n : Int) ∧ n ≤ 6 ∧ R (ItC n) H1
theorem pi_comb {X : Cx} {tg e : Expr} {te : L2.St → Hp → (Int → Int → Hp → Prop) → Prop} {p pos p3 : Pos} {p2 : Nat} (hc : X.calm = true) (hg : Gl X "combinations") (hm : X.mg "combinations" = some (.type "itertools.combinations")) (he : PRg X e te)
    (na : starEach [e, .Constant (.int 2) p2 p3] X.env = (false, eval e X.env) :: starEach [.Constant (.int 2) p2 p3] X.env := by rfl) (nb : starEach [.Constant (.int 2) p2 p3] X.env = (false, eval (.Constant (.int 2) p2 p3) X.env) :: starEach [] X.env := by rfl) : PI X tg (.Call (.Name "combinations" p) [e, .Constant (.int 2) p2 p3] [] pos) (iComb te) := by
  refine ⟨fun pins s σ H R I h => ?_⟩
  refine Call_ (ld_glob I hg hm (PyProof.Rows.callWith_type1 (PyProof.Rows.args_cons (thn (he pins s σ H _ I h) fun x s1 ⟨r, a, b, t, u, v, H1, ex, hr, I1, n, ea, eb, n6, q⟩ => PyProof.Rows.args_cons (wpAny_Constant_int (PyProof.Rows.args_nil ?_)) nb) na) na rfl))
  subst ex ea eb
  have rs := rangeSize_nat 0 (n : Int)
  rw [show ((n : Int) - 0).toNat = n by omega] at rs
  have I1' : Inv X pins σ H1 { s1 with toks := s1.toks + 1 } := I1.tok _
  refine call_cm (I1.ok.hd hc) hr (small_one (by omega) (by omega) (by omega) (by omega)) rs (by omega) fun hmm tk acc hk hi => ?_
  have I2 : Inv X pins σ H1 { s1 with heap := hmm, toks := tk } := I1.kept hk
  have e1 : (hmm.push (poolO acc)).objs.size = hmm.objs.size + 1 := by simp [Heap.push]
  have hit : ((hmm.push (poolO acc)).push (cmO hmm.objs.size (if 2 > n then 2 else 0) .none [0, 1])).get? (hmm.objs.size + 1) = some (cmO hmm.objs.size (if 2 > n then 2 else 0) .none [0, 1]) := by
    rw [← e1]
    exact Heap.get?_push_size _ rfl
  have hp : ((hmm.push (poolO acc)).push (cmO hmm.objs.size (if 2 > n then 2 else 0) .none [0, 1])).get? hmm.objs.size = some (poolO acc) := Heap.get?_push_of_some _ (Heap.get?_push_size _ rfl)
  have I3 : Inv X pins σ H1 { s1 with heap := (hmm.push (poolO acc)).push (cmO hmm.objs.size (if 2 > n then 2 else 0) .none [0, 1]), toks := tk } := I2.kept fun b o e => Heap.get?_push_of_some _ (Heap.get?_push_of_some _ e)
  refine iter_cm hit ⟨hmm.objs.size + 1, [hmm.objs.size + 1, hmm.objs.size], _, _, H1, rfl, I3, turn_comb _ hmm.objs.size (combOk_small n n6), ⟨_, .none, _, acc, hit, hp, hi, Nat.succ_ne_self _, ?_⟩, fun b hb => ?_, q⟩
  · by_cases c : 2 > n
    · refine .inl ⟨if_pos c, ?_⟩
      unfold combsN
      rw [if_pos c]
      rfl
    · refine .inr (.inl ⟨rfl, if_neg c, ?_⟩)
      unfold combsN
      rw [if_neg c]
      exact runC_zero n 15 _
  · have e' : b = hmm.objs.size + 1 ∨ b = hmm.objs.size := by simpa using hb
    have hle : hmm.objs.size ≤ b := by
      rcases e' with z | z
      · rw [z]; exact Nat.le_add_right _ _
      · rw [z]; exact Nat.le_refl _
    exact I2.fpOk hle (I2.hok.fresh hle)
end
/-! ### for k, v in d.items(), the dict's keys tuples -/
section
open PySem.Spec
variable {X : Cx} {pins : List (Addr × Obj)} {σ : L2.St} {H : Hp} {s : Shared} {d : Addr} {o : Obj}
theorem Inv.frzTv {kvs : List (List L2.Key × V)} (I : Inv X pins σ H s) (h : H d = some (.frz o (.dT kvs))) :
    (d == sysModules) = false ∧ s.heap.get? d = some o ∧ o.ExactDict ∧ ∃ (es : Array DictEntry) (ep : Nat), o.data = .dict es ep ∧ es.size = kvs.length ∧
      ∀ (i : Nat) (k : List L2.Key) (v : V), kvs[i]? = some (k, v) → ∃ (en : DictEntry) (q : Addr), es[i]? = some en ∧ en.key = .ref q ∧ H q = some (.tup (k.map kV)) ∧ RelV v en.val := by
  obtain ⟨hd, z, hs, xs, pr, o', es, ep, ho, hx, hdt, he, _⟩ := I.hok d _ h
  rw [hd] at ho
  cases ho
  refine ⟨hs, hd, hx, es, ep, hdt, ?_, fun i k v e => ?_⟩
  · have l1 : es.size = xs.length := size_of_entries he
    have l2 : kvs.length = xs.length := pr.length
    omega
  · obtain ⟨b, hb, e1, e2, e3⟩ := paired_get pr e
    have q := entry_at he i
    rw [hb] at q
    exact ⟨_, b.2.1, q, rfl, e2, e3⟩
/-- the pairs, each a new tuple -/
def ItiT (d : Addr) (o : Obj) (kvs : List (List L2.Key × V)) : It :=
  ⟨fun i H => H d = some (.frz o (.dT kvs)) ∧ i < kvs.length, fun i H x H' => ∃ (T q : Addr) (k : List L2.Key) (v : V), kvs[i]? = some (k, v) ∧ x = .ref T ∧ H T = none ∧ H q = some (.tup (k.map kV)) ∧ H' = upd H T (.tup [.ref q, v]), fun i H => H d = some (.frz o (.dT kvs)) ∧ kvs.length ≤ i⟩
theorem turn_itemsT {P : Program} {w : World} {K : PySem.W.Frag} {es : Array DictEntry} {ep : Nat} {kvs : List (List L2.Key × V)} {elts : List Expr} {kk : Nat} {tpos : Pos} (it : Addr) (hod : o.data = .dict es ep) :
    Turn P w K (.Tuple elts kk tpos) (ItiT d o kvs) [it] it (fun i h => ∃ ok ov, IsItemIter h it d i kvs.length ep ok ov) where
  mem := by simp
  obj := fun i h st b hb => by
    have e : b = it := by simpa using hb
    subst e
    obtain ⟨ok, ov, e⟩ := st
    exact ⟨_, e, fun v z => nomatch z⟩
  keep := fun i h h' st k => let ⟨ok, ov, e⟩ := st; ⟨ok, ov, k it (by simp) _ e⟩
  item := by
    intro X hP hw hK hc i pins s σ H E I hf st hg
    subst hP hw hK
    obtain ⟨hd, hi⟩ := hg
    obtain ⟨hs, hgd, hx, es', ep', hdt, hsz, ent⟩ := Inv.frzTv I hd
    obtain ⟨rfl, rfl⟩ := dict_ep hod hdt
    obtain ⟨⟨k, v⟩, hkv⟩ : ∃ p, kvs[i]? = some p := ⟨kvs[i], List.getElem?_eq_getElem hi⟩
    obtain ⟨en, q, hen, hkey, hq, rv⟩ := ent i k v hkv
    obtain ⟨ok, ov, he⟩ := st
    rw [← hsz] at he
    have hlt : it < s.heap.objs.size := Heap.lt_size he
    have hie : i < es'.size := by omega
    have een : es'[i] = en := by
      rw [Array.getElem?_eq_getElem hie] at hen
      exact Option.some.inj hen
    refine wpAny_pyNext_items_item_raw he ⟨o, hgd, hx, hdt⟩ hie fun h' ho hT hz hk => ?_
    refine ⟨_, rfl, wpAny_letOwnedTupleGo_items (s := { s with heap := h' }) ho fun h'' he' sb => ?_⟩
    rw [een] at hT
    have hT2 : h''.get? s.heap.objs.size = some { cls := .type "tuple", data := .seq #[en.key, en.val] } := (sb.2 _ (Nat.ne_of_gt hlt)).trans hT
    rw [hkey] at hT2
    have new : ObjOk X.prog X.w (upd H s.heap.objs.size (.tup [.ref q, v])) h'' s.heap.objs.size (.tup [.ref q, v]) :=
      ⟨by show 2 ≤ sizeLine; decide, [.ref q, en.val], .cons rfl (.cons rv .nil), ⟨_, hT2, rfl, _, rfl⟩⟩
    have I1 : Inv X pins σ (upd H s.heap.objs.size (.tup [.ref q, v])) { s with heap := h'' } :=
      I.turnedNew (t' := s.toks) (ch := [it]) (fun b ob hb e => (sb.2 b (by simpa using hb)).trans (hk b ob (by simpa using hb) e)) hf (Nat.le_refl _) new
    refine ⟨.ref s.heap.objs.size, _, I1, rfl, ⟨_, q, k, v, hkv, rfl, I.hok.fresh (Nat.le_refl _), hq, rfl⟩, ⟨es'[i].key, es'[i].val, ?_⟩, fun b hb => ?_⟩
    · rw [← hsz]; exact he'
    · have e : b = it := by simpa using hb
      rw [e, upd_ne (Nat.ne_of_lt hlt)]
      exact (hf it (by simp)).1
  done := by
    intro X hP hw hK hc i pins s σ H E I hf st hg
    subst hP hw hK
    obtain ⟨hd, hi⟩ := hg
    obtain ⟨f0, f1, f2, f3, f4, f5⟩ := hf it (by simp)
    obtain ⟨hs, hgd, hx, es', ep', hdt, hsz, ent⟩ := Inv.frzTv I hd
    obtain ⟨rfl, rfl⟩ := dict_ep hod hdt
    obtain ⟨ok, ov, he⟩ := st
    rw [← hsz] at he
    exact wpAny_pyNext_items_end_raw (I.ok.hd hc) he ⟨o, hgd, hx, hdt⟩ (by omega) fun h' eb => ⟨rfl, I.turned (t' := s.toks) (fun b ob hb e => eb b ob hb e) f0 f1 f3 f4 f5⟩
  self := fun A i s Q E st h => let ⟨_, _, e⟩ := st; PySem.W.kcp_self e h
def iItemsT (td : TE) : TI := fun σ H R => td σ H fun x H1 => ∃ d o kvs, x = .ref d ∧ H1 d = some (.frz o (.dT kvs)) ∧ R (ItiT d o kvs) H1
theorem pi_itemsT {e : Expr} {td : TE} {apos cpos : Pos} {elts : List Expr} {kk : Nat} {tpos : Pos} (he : PE X e td) (hbase : attributeBase e "items" X.env (eval e X.env) = eval e X.env := by rfl) (hline : (apos.endLine == cpos.line) = true := by rfl) :
    PI X (.Tuple elts kk tpos) (.Call (.Attribute e "items" apos) [] [] cpos) (iItemsT td) := by
  refine ⟨fun pins s σ H R I h => ?_⟩
  refine wpAny_Call_method (T := "dict") (id := "dict.items") hbase rfl hline PySem.F.plainAttrs_dict PySem.F.slot_dict_items PySem.F.type_dict_items (thn (he.run pins s σ H _ I h) fun u s1 ⟨x, H1, I1, rx, d, o, kvs, ex, hd, q⟩ => ?_)
  subst ex
  obtain rfl : u = Value.ref d := rx
  obtain ⟨hs, hgd, hx, es, ep, hdt, hsz, ent⟩ := Inv.frzTv I1 hd
  have hraw : s1.heap.DictRaw d es ep := ⟨o, hgd, hx, hdt⟩
  refine ⟨hraw.typeIs, ?_, ?_⟩
  · intro a e
    cases e
    exact ⟨o, hgd, hx.2.1⟩
  have I2 : Inv X pins σ H1 { s1 with heap := s1.heap.push { cls := .type "dict_items", data := .fields #[.ref d] } } := I1.kept (t' := s1.toks) fun b ob q => Heap.get?_push_of_some _ q
  have fin : wpAny (model X.prog X.w) X.A (pyIter (.ref s1.heap.objs.size)) (PIE X pins σ (.Tuple elts kk tpos) R) X.xe { s1 with heap := s1.heap.push { cls := .type "dict_items", data := .fields #[.ref d] } } := by
    refine wpAny_pyIter_items_raw (d := d) ⟨_, Heap.get?_push_size _ rfl, rfl, rfl⟩ (hraw.at fun ob q => Heap.get?_push_of_some _ q) (pi_one (tk := s1.toks) I2 _ (turn_itemsT _ hdt) ⟨.none, .none, ?_⟩ q)
    rw [← hsz]
    exact Heap.get?_push_size _ rfl
  show wpAny _ _ (callWith cpos (.builtin "dict.items") [.ref d] [] []) _ X.xe s1
  exact method_meetsIn PySem.F.slot_dict_items PySem.F.entry_dict_items rfl (PySem.evalArgs_none ⟨rfl, hraw.typeIs, PySem.F.args_dict_items_1 _, _, meets_dict_items_raw d hs, ⟨⟨es, ep, hraw⟩, fin⟩⟩)
end
/-! ### sorted(d), the dict's keys tuples of itx -/
section
open PySem.Spec
variable {P : Program} {w : World} {A : Around} {E : Value → Shared → Prop} {s : Shared}
theorem kdl_rawD {d : Addr} {es : Array DictEntry} {ep : Nat} (lo : (d == sysModules) = false) : PySem.W.KdlSrc P w "dict" d d es.size (fun i v => ∃ hi : i < es.size, v = es[i].key) (fun h => h.DictRaw d es ep) where
  type := fun _ hm => hm.typeIs
  there := fun _ hm => by
    obtain ⟨o, ho, _⟩ := hm
    exact ⟨Heap.lt_size ho, Heap.lt_size ho⟩
  keep := fun _ _ hm hk => hm.at fun o e => hk d (.inl rfl) o e
  notList := by decide
  notTuple := by decide
  hint := fun _ _ _ _ hm hq => PySem.W.kdl_hint_dict hm.typeIs hq
  iter := fun _ s hh hm => ⟨_, _, (fun _ _ hq => wpAny_pyIter_dict_raw lo hm hq), Walks.rawKeys hh _ d (by obtain ⟨o, ho, _⟩ := hm; exact Nat.ne_of_lt (Heap.lt_size ho)) es ep, ⟨⟨_, Heap.get?_push_size _ rfl, rfl, rfl⟩, hm.at fun o e => Heap.get?_push_of_some _ e⟩⟩
theorem paired_getR {α β : Type} {F : α → β → Prop} : ∀ {l₁ : List α} {l₂ : List β} {i : Nat} {b : β}, Paired F l₁ l₂ → l₂[i]? = some b → ∃ a, l₁[i]? = some a ∧ F a b
  | _, _, _, _, .nil, e => by simp at e
  | _, _, 0, _, .cons h _, e => by
    cases e
    exact ⟨_, rfl, h⟩
  | _, _, i + 1, _, .cons _ r, e => paired_getR (i := i) r e
/-- values that are the addresses of rows -/
theorem rows_at : ∀ {vs : List Value} {L : List (Addr × List Int)}, (∀ v ∈ vs, ∃ q ∈ L, v = Value.ref q.1) → ∃ L1 : List (Addr × List Int), vs = L1.map (fun q => Value.ref q.1) ∧ ∀ q ∈ L1, q ∈ L
  | [], _, _ => ⟨[], rfl, fun _ h => nomatch h⟩
  | v :: vs, L, h => by
    obtain ⟨q, hq, e⟩ := h v List.mem_cons_self
    obtain ⟨L1, e1, h1⟩ := rows_at fun u hu => h u (List.mem_cons_of_mem _ hu)
    refine ⟨q :: L1, by rw [e, e1]; rfl, fun r hr => ?_⟩
    rcases List.mem_cons.mp hr with e | hr
    · rw [e]; exact hq
    · exact h1 r hr
theorem keys_all {es : Array DictEntry} {L : List (Addr × List Int)} {acc : Array Value} (hes : es.toList.map (·.key) = L.map fun q => Value.ref q.1) (hacc : ItemsOf (fun i v => ∃ hi : i < es.size, v = es[i].key) acc es.size) : acc.toList = L.map fun q => Value.ref q.1 := by
  rw [← hes]
  refine List.ext_getElem? fun i => ?_
  rw [Array.getElem?_toList, List.getElem?_map, Array.getElem?_toList]
  cases c : acc[i]? with
  | none =>
    have : es.size ≤ i := by rw [← hacc.1]; exact Array.getElem?_eq_none_iff.mp c
    rw [Array.getElem?_eq_none this]
    rfl
  | some v =>
    obtain ⟨hi, e⟩ := hacc.2 i v c
    rw [Array.getElem?_eq_getElem hi, e]
    rfl
theorem sorted_dictT {a : Addr} {L : List (Addr × List Int)} {es : Array DictEntry} {ep : Nat} {Q : Value → Shared → Prop} (lo : (a == sysModules) = false) (hm : s.heap.DictRaw a es ep) (hes : es.toList.map (·.key) = L.map fun q => Value.ref q.1) (hk : ∀ q ∈ L, IsT P w s.heap q.2 q.1)
    (hh : A.handled = none) (few : L.length < 64) {d : Nat} {B : Int} (hd1 : 1 ≤ d) (hB : ∀ p ∈ L, p.2.length = d ∧ TS.Bd B p.2)
    (hQ : ∀ (h1 h' : Heap) (tk : Nat) (out : Array Value) (c : Nat) (L' : List (Addr × List Int)), (∀ b o, s.heap.get? b = some o → h1.get? b = some o) → (∀ b o, h1.get? b = some o → h'.get? b = some o) → h'.get? h1.objs.size = some (seqObj "list" out c) →
      out.toList = L'.map (fun q => Value.ref q.1) → (∀ q ∈ L', q ∈ L) → (L'.map (·.2)).Perm (L.map (·.2)) → L'.Pairwise (fun q r => TS.code B q.2 ≤ TS.code B r.2) → Q (.ref h1.objs.size) { s with heap := h', toks := tk }) :
    wpAny (model P w) A (call (.builtin "sorted") [.ref a]) Q E s := by
  have esz : es.size = L.length := by
    have q := congrArg List.length hes
    rw [List.length_map, List.length_map, Array.length_toList] at q
    exact q
  refine PySem.Calls.call_function_entry kind_sorted plain_sorted entry_sorted (args_sorted1 _) ?_
  unfold Builtin.«sorted»
  refine wpAny_bind (m := checkCount "sorted" 1 1 _) (wpAny_pure ?_)
  refine wpAny_bind (PySem.W.kdu_collect (A := A.in1) (kdl_rawD lo) hh hm (by rw [esz, sizeLine_eq]; omega) fun h1 tk acc kp hacc => ?_)
  have hvs := keys_all hes hacc
  rw [hvs]
  generalize hv : (L.map fun q => Value.ref q.1) = vs
  have hvl : vs.length < 64 := by rw [← hv, List.length_map]; exact few
  refine wpAny_bind (wpAny_newList ?_ (by rw [sizeLine_eq]; omega))
  have hoL : (h1.push (seqObj "list" vs.toArray 0)).get? h1.objs.size = some (seqObj "list" vs.toArray 0) := Heap.get?_push_size _ rfl
  have tks : ∀ q ∈ L, TS.TupInts (h1.push (seqObj "list" vs.toArray 0)) (.ref q.1) q.2 := fun q hq => tupInts_of (P := P) (w := w) (isT_keep (hk q hq) fun b u e => Heap.get?_push_of_some _ (kp b u e))
  have isv : ∀ v ∈ vs, ∃ q ∈ L, v = Value.ref q.1 := fun v hm => by
    rw [← hv] at hm
    obtain ⟨q, hq, e⟩ := List.mem_map.mp hm
    exact ⟨q, hq, e.symm⟩
  have x : TS.TupsOk (h1.push (seqObj "list" vs.toArray 0)) d B vs := fun v hm => by
    obtain ⟨q, hq, e⟩ := isv v hm
    rw [e]
    exact ⟨q.2, tks q hq, (hB q hq).1, (hB q hq).2⟩
  refine wpAny_bind (wpAny_holding (TS.call_sort_tups (s := { s with heap := h1.push (seqObj "list" vs.toArray 0), toks := tk }) hoL hvl hd1 x fun out a1 a2 => ?_))
  obtain ⟨c, hc⟩ := sortedHeap_at (vs := vs) (out := out) hoL
  obtain ⟨L', e', hs'⟩ := rows_at fun v hm => isv v (a1.mem_iff.mp hm)
  have itx : ∀ q ∈ L, TS.intsOf (h1.push (seqObj "list" vs.toArray 0)) (.ref q.1) = q.2 := fun q hq => (tks q hq).ints
  have map2 : ∀ {M : List (Addr × List Int)}, (∀ q ∈ M, q ∈ L) → (M.map fun q => Value.ref q.1).map (TS.intsOf (h1.push (seqObj "list" vs.toArray 0))) = M.map (·.2) := fun {M} hM => by
    rw [List.map_map]
    exact List.map_congr_left fun q hq => itx q (hM q hq)
  have pm : (L'.map (·.2)).Perm (L.map (·.2)) := by
    rw [← map2 hs', ← map2 (fun q h => h), ← e', hv]
    exact a1.map _
  have pw : L'.Pairwise (fun q r => TS.code B q.2 ≤ TS.code B r.2) := by
    rw [e'] at a2
    refine List.Pairwise.imp_of_mem (fun {q r} hq hr hle => ?_) (List.pairwise_map.mp a2)
    rw [← itx q (hs' q hq), ← itx r (hs' r hr)]
    exact hle
  refine wpAny_pure ⟨_, rfl, hQ h1 (sortedHeap (h1.push (seqObj "list" vs.toArray 0)) h1.objs.size vs out) tk out c L' kp (fun b u e => ?_) hc e' hs' pm pw⟩
  have hlt := Heap.lt_size e
  rw [sortedHeap_old (Nat.ne_of_lt hlt) (by rw [size_push']; exact Nat.lt_succ_of_lt hlt)]
  exact Heap.get?_push_of_some _ e
/-- sorted(d): the keys are tuples of d ints in [0, B) -/
def rSortedD (K : PySem.W.Frag) (dd : Nat) (B : Int) : List V → Hp → VK → Prop := fun vs H Q => ∃ (a : Addr) (kvs : List (List L2.Key × V)) (gs : List (List Int)), vs = [V.ref a] ∧ H a = some (.dT kvs) ∧ kvs.map (·.1) = gs.map (fun g => g.map (Sum.inl (β := Str))) ∧ gs.length < 64 ∧
  (∀ g ∈ gs, g.length = dd ∧ TS.Bd B g) ∧
  ∀ (L' : List (Addr × List Int)) (p : Addr), (∀ q ∈ L', H q.1 = some (.tup (q.2.map V.int))) → (L'.map (·.2)).Perm gs → L'.Pairwise (fun q r => TS.code B q.2 ≤ TS.code B r.2) → H p = none → Q (.ref p) (upd H p (.lst (L'.map fun q => V.ref q.1)))
/-- the keys of a dict of tuples, as they lie -/
theorem dT_rows {X : Cx} {pins : List (Addr × Obj)} {σ : L2.St} {H : Hp} {s : Shared} {a : Addr} {kvs : List (List L2.Key × V)} {gs : List (List Int)} (I : Inv X pins σ H s) (ha : H a = some (.dT kvs)) (hkg : kvs.map (·.1) = gs.map (fun g => g.map (Sum.inl (β := Str)))) :
    ∃ (L : List (Addr × List Int)) (es : Array DictEntry) (ep : Nat), (a == sysModules) = false ∧ s.heap.DictRaw a es ep ∧ es.toList.map (·.key) = L.map (fun q => Value.ref q.1) ∧ L.map (·.2) = gs ∧ ∀ p ∈ L, H p.1 = some (.tup (p.2.map V.int)) := by
  obtain ⟨z, lo, xs, pr, o, es, ep, ho, hx, hdt, he, _⟩ := I.hok a _ ha
  have lx : kvs.length = xs.length := pr.length
  have lg : kvs.length = gs.length := by
    have q := congrArg List.length hkg
    rw [List.length_map, List.length_map] at q
    exact q
  have lz : (xs.map fun x => x.2.1).length = gs.length := by rw [List.length_map]; omega
  have hL1 : ((xs.map fun x => x.2.1).zip gs).map (·.1) = xs.map fun x => x.2.1 := List.map_fst_zip (by omega)
  have hL2 : ((xs.map fun x => x.2.1).zip gs).map (·.2) = gs := List.map_snd_zip (by omega)
  generalize (xs.map fun x => x.2.1).zip gs = L at hL1 hL2
  refine ⟨L, es, ep, lo, ⟨o, ho, hx, hdt⟩, ?_, hL2, ?_⟩
  · have : (L.map fun q => Value.ref q.1) = (L.map (·.1)).map Value.ref := by rw [List.map_map]; rfl
    rw [this, hL1, he, List.map_map, List.map_map]
    rfl
  · intro p hp
    obtain ⟨i, hi, e⟩ := List.getElem_of_mem hp
    have e1 : (xs.map fun x => x.2.1)[i]? = some p.1 := by rw [← hL1, List.getElem?_map, List.getElem?_eq_getElem hi, e]; rfl
    have e2 : gs[i]? = some p.2 := by rw [← hL2, List.getElem?_map, List.getElem?_eq_getElem hi, e]; rfl
    rw [List.getElem?_map] at e1
    obtain ⟨x, ex, e1⟩ := Option.map_eq_some_iff.mp e1
    obtain ⟨y, ey, r1, r2, _⟩ := paired_getR pr ex
    have e3 : (gs.map (fun g => g.map (Sum.inl (β := Str))))[i]? = some y.1 := by rw [← hkg, List.getElem?_map, ey]; rfl
    rw [List.getElem?_map, e2] at e3
    have e4 : p.2.map Sum.inl = y.1 := Option.some.inj e3
    rw [← e4, List.map_map] at r2
    rw [← e1]
    exact r2
theorem cr_sortedD {X : Cx} {dd : Nat} {B : Int} (hc : X.calm = true) (h1 : 1 ≤ dd) : CallR X (.builtin "sorted") (rSortedD X.K dd B) := by
  intro pins s σ H vs us Q I r h
  obtain ⟨a, kvs, gs, rfl, ha, hkg, few, hB, q⟩ := h
  rw [Vals.ref1 r]
  obtain ⟨L, es, ep, lo, raw, hes, hL2, sq⟩ := dT_rows I ha hkg
  refine sorted_dictT (P := X.prog) (w := X.w) (L := L) lo raw hes (fun p hp => I.isT (SqT.of (sq p hp))) (I.ok.hd hc) (by have := congrArg List.length hL2; rw [List.length_map] at this; omega) h1 (fun p hp => hB p.2 (by rw [← hL2]; exact List.mem_map.mpr ⟨p, hp, rfl⟩)) fun hm h' tk out c L' k1 k2 hg hout hs' pm pw => ?_
  rw [hL2] at pm
  have I1 : Inv X pins σ H { s with heap := hm } := I.kept (t' := s.toks) k1
  have hn : H hm.objs.size = none := I1.hok.fresh (Nat.le_refl _)
  have hlen : (L'.map fun q => V.ref q.1).length ≤ sizeLine := by
    have := pm.length_eq
    rw [List.length_map] at this
    rw [List.length_map, sizeLine_eq]
    omega
  have hv : Vals (L'.map fun q => V.ref q.1) out.toList := by rw [hout]; exact vals_of_refs L'
  have J : Inv X pins σ (upd H hm.objs.size (.lst (L'.map fun q => V.ref q.1))) { s with heap := h', toks := tk } := I1.laid (t' := tk) k2 (Nat.le_refl _) ⟨hlen, out.toList, c, hv, hg⟩
  exact ⟨.ref hm.objs.size, _, J, rfl, q L' _ (fun p hp => sq p (hs' p hp)) pm pw hn⟩
/-- list(d): its keys, tuples of ints -/
def rListD : List V → Hp → VK → Prop := fun vs H Q => ∃ (a : Addr) (kvs : List (List L2.Key × V)) (gs : List (List Int)), vs = [V.ref a] ∧ H a = some (.dT kvs) ∧ kvs.map (·.1) = gs.map (fun g => g.map (Sum.inl (β := Str))) ∧ gs.length ≤ 1000 ∧
  ∀ (L : List (Addr × List Int)) (p : Addr), (∀ q ∈ L, H q.1 = some (.tup (q.2.map V.int))) → L.map (·.2) = gs → H p = none → Q (.ref p) (upd H p (.lst (L.map fun q => V.ref q.1)))
theorem cr_listD {X : Cx} (hc : X.calm = true) : CallR X (.type "list") rListD := by
  intro pins s σ H vs us Q I r h
  obtain ⟨a, kvs, gs, rfl, ha, hkg, few, q⟩ := h
  rw [Vals.ref1 r]
  obtain ⟨L, es, ep, lo, raw, hes, hL2, sq⟩ := dT_rows I ha hkg
  have esz : es.size = L.length := by
    have q := congrArg List.length hes
    rw [List.length_map, List.length_map, Array.length_toList] at q
    exact q
  have lL : L.length = gs.length := by rw [← hL2, List.length_map]
  refine PySem.W.kdl_call (kdl_rawD lo) (I.ok.hd hc) raw (by rw [esz, sizeLine_eq]; omega) fun h' tk acc c kp hg hacc => ?_
  have hvs := keys_all hes hacc
  have hn : H s.heap.objs.size = none := I.hok.fresh (Nat.le_refl _)
  have hv : Vals (L.map fun q => V.ref q.1) acc.toList := by rw [hvs]; exact vals_of_refs L
  have J : Inv X pins σ (upd H s.heap.objs.size (.lst (L.map fun q => V.ref q.1))) { s with heap := h', toks := tk } := I.laid (t' := tk) kp (Nat.le_refl _) ⟨by rw [List.length_map, sizeLine_eq]; omega, acc.toList, c, hv, by rw [Array.toArray_toList]; exact hg⟩
  exact ⟨.ref s.heap.objs.size, _, J, rfl, q L _ sq hL2 hn⟩
end
section
/-- what e makes is locked for good -/
theorem pe_frz {X : Cx} {e : Expr} {t : TE} (h : PE X e t) : PE X e (fun σ H Q => t σ H fun x H1 => ∃ d u, x = .ref d ∧ H1 d = some u ∧ Mut (some u) ∧ ∀ od, Q x (upd H1 d (.frz od u))) := by
  constructor
  intro pins s σ H Q I hw
  refine thn (h.run pins s σ H _ I hw) fun v s1 got => ?_
  obtain ⟨x, H1, I1, r, d, u, ex, hd, mu, q⟩ := got
  obtain ⟨od, I2⟩ := I1.lock hd mu
  exact ⟨x, _, I2, r, q od⟩
end
/-! ### d.values(), the dict's keys tuples: their sum, a list of them -/
section
open PySem.Spec
theorem preSum_get (is : List Int) : ∀ n, n ≤ is.length → PySem.preSum (fun i => is.getD i 0) n = (is.take n).sum
  | 0, _ => by rw [List.take_zero]; rfl
  | n + 1, h => by
    show PySem.preSum (fun i => is.getD i 0) n + is.getD n 0 = _
    rw [preSum_get is n (by omega), List.take_add_one, List.sum_append, List.getD_eq_getElem?_getD, List.getElem?_eq_getElem (by omega)]
    simp
def tSumVals (td : TE) : TE := fun σ H Q => td σ H fun x H1 => ∃ (a : Addr) (kvs : List (List L2.Key × V)) (is : List Int), x = V.ref a ∧ H1 a = some (.dT kvs) ∧ kvs.map (·.2) = is.map V.int ∧ Q (.int is.sum) H1
def tLstVals (td : TE) : TE := fun σ H Q => td σ H fun x H1 => ∃ (a : Addr) (kvs : List (List L2.Key × V)), x = V.ref a ∧ H1 a = some (.dT kvs) ∧ kvs.length ≤ 1000 ∧ ∀ p, H1 p = none → Q (.ref p) (upd H1 p (.lst (kvs.map (·.2))))
theorem vals_getR {l₁ : List V} {l₂ : List Value} : ∀ {i : Nat} {b : Value}, Vals l₁ l₂ → l₂[i]? = some b → ∃ a, l₁[i]? = some a ∧ RelV a b := by
  intro i b h
  induction h generalizing i with
  | nil => intro e; simp at e
  | cons h t ih =>
    intro e
    cases i with
    | zero => cases e; exact ⟨_, rfl, h⟩
    | succ i => exact ih e
variable {X : Cx} {o : Expr} {p pos apos mpos : Pos} {td : TE}
theorem dT_vals0 {X : Cx} {H : Hp} : ∀ {kvs : List (List L2.Key × V)} {xs : List (List L2.Key × Addr × Value)}, Paired (fun p q => p.fst = q.fst ∧ H q.snd.fst = some (HO.tup (List.map kV p.fst)) ∧ L2.RelV p.snd q.snd.snd) kvs xs →
    Vals (kvs.map (·.2)) (xs.map ((fun x => x.val) ∘ entryOfKey (tupleKind (mixKind X.prog X.w))))
  | _, _, .nil => .nil
  | _, _, .cons h t => .cons h.2.2 (dT_vals0 t)
/-- the entries of a dict of tuples -/
theorem dT_vals {pins : List (Addr × Obj)} {σ : L2.St} {H : Hp} {s : Shared} {a : Addr} {kvs : List (List L2.Key × V)} (I : Inv X pins σ H s) (ha : H a = some (.dT kvs)) :
    ∃ (es : Array DictEntry) (ep : Nat), (a == sysModules) = false ∧ s.heap.DictRaw a es ep ∧ Vals (kvs.map (·.2)) (es.toList.map (·.val)) := by
  obtain ⟨z, lo, xs, pr, ob, es, ep, ho, hx, hdt, he, _⟩ := I.hok a _ ha
  refine ⟨es, ep, lo, ⟨ob, ho, hx, hdt⟩, ?_⟩
  rw [he, List.map_map]
  exact dT_vals0 pr
theorem pe_sumVals (hc : X.calm = true) (hg : Gl X "sum") (hm : X.mg "sum" = none) (hd : PE X o td) (hbase : attributeBase o "values" X.env (eval o X.env) = eval o X.env := by rfl) (hline : (apos.endLine == mpos.line) = true := by rfl)
    (hse : starEach [Expr.Call (.Attribute o "values" apos) [] [] mpos] X.env = [(false, eval (Expr.Call (.Attribute o "values" apos) [] [] mpos) X.env)] := by rfl) :
    PE X (.Call (.Name "sum" p) [.Call (.Attribute o "values" apos) [] [] mpos] [] pos) (tSumVals td) := by
  refine ⟨fun pins s σ H Q I h => ?_⟩
  refine wpAny_Call_Name_kw (ld_blt I hg hm (u := .builtin "sum") (by first | rfl | decide +kernel) ?_ (by first | decide +kernel | decide) (by first | decide +kernel | decide))
  rw [hse]
  refine PySem.callWith_builtin1 (wpAny_Call_method0_late hbase hline (thn (hd.run pins s σ H _ I h) fun v s1 ⟨x, H1, I1, r1, a, kvs, is, ex, ha, hv, q⟩ => ?_))
  subst ex
  obtain rfl : v = Value.ref a := r1
  obtain ⟨es, ep, hsys, raw, vs⟩ := dT_vals I1 ha
  obtain ⟨ob, ho, ex, hdat⟩ := id raw
  refine ⟨"dict", "dict.values", F.plainAttrs_dict, F.slot_dict_values, F.type_dict_values, ⟨ob, ho, ex.1⟩, fun b e => ?_, Calls.callWith_builtin rfl (PySem.evalArgs_none ?_)⟩
  · cases e
    exact ⟨ob, ho, ex.2.1⟩
  refine call_meetsIn F.slot_dict_values ⟨ob, ho, ex.1⟩ F.entry_dict_values (F.args_dict_values_1 _) (meets_dict_values_raw a hsys) ⟨⟨es, ep, raw⟩, ?_⟩
  have I2 : Inv X pins σ H1 { s1 with heap := s1.heap.push { cls := .type "dict_values", data := .fields #[.ref a] } } := I1.kept (t' := s1.toks) fun b ob q => Heap.get?_push_of_some _ q
  have raw2 : (s1.heap.push { cls := .type "dict_values", data := .fields #[.ref a] }).DictRaw a es ep := raw.at fun ob e => Heap.get?_push_of_some _ e
  have hview : (s1.heap.push { cls := .type "dict_values", data := .fields #[.ref a] }).IsValuesView s1.heap.objs.size a := ⟨_, Heap.get?_push_size _ rfl, rfl, rfl⟩
  have lv : es.size = is.length := by
    have e1 := vs.length
    have e2 := congrArg List.length hv
    simp only [List.length_map, Array.length_toList] at e1 e2
    omega
  have src := KdlSrc.rawValues (prog := X.prog) (w := X.w) (r := s1.heap.objs.size) (d := a) (es := es) (ep := ep)
  refine call_sum_walkAnyS ?_
  have hok := And.intro hview raw2
  obtain ⟨oI, St, hit, W, st⟩ := src.iter X.A.in1 { s1 with heap := s1.heap.push { cls := .type "dict_values", data := .fields #[.ref a] } } (I2.ok.hd hc) hok
  have old := src.there _ hok
  refine hit _ _ ⟨_, _, _, _, es.size, _, _, (fun i => is.getD i 0), rfl, W.toS, st, fun b hb => ?_, fun i v hiv => ?_, fun s' t' hm => ?_⟩
  · show b < ((s1.heap.push _).push oI).objs.size
    rw [Heap.size_push]
    rcases List.mem_cons.mp hb with e | hb
    · rw [e]; exact Nat.lt_succ_self _
    · rw [List.mem_singleton.mp hb]; exact Nat.lt_succ_of_lt old.2
  · obtain ⟨hi, ev⟩ := hiv
    rw [hv] at vs
    obtain ⟨x, h1, h2⟩ := vals_getR (i := i) (b := v) vs (by rw [List.getElem?_map, Array.getElem?_toList, Array.getElem?_eq_getElem hi, ev]; rfl)
    rw [List.getElem?_map] at h1
    obtain ⟨z, hz, rfl⟩ := Option.map_eq_some_iff.mp h1
    obtain ⟨t, e⟩ := h2
    refine ⟨t, ?_⟩
    show v = Value.int (is.getD i 0) t
    rw [e, List.getD_eq_getElem?_getD, hz]
    rfl
  · have hk : ∀ b o, s1.heap.get? b = some o → s'.heap.get? b = some o := fun b o e => by
      have e1 : (s1.heap.push { cls := .type "dict_values", data := .fields #[.ref a] }).get? b = some o := Heap.get?_push_of_some _ e
      refine hm.heap b o (fun hI => ?_) (Heap.get?_push_of_some _ e1)
      have := Heap.lt_size e1
      rw [List.mem_singleton.mp hI] at this
      exact Nat.lt_irrefl _ this
    rw [Moved.eq_with hm]
    refine ⟨.int is.sum, H1, I1.kept (t' := s'.toks) hk, ⟨t', ?_⟩, q⟩
    rw [preSum_get is es.size (by omega), lv, List.take_length]
/-- list(d.values()) -/
theorem pe_lstVals (hc : X.calm = true) (hg : Gl X "list") (hm : X.mg "list" = none) (hd : PE X o td) (hbase : attributeBase o "values" X.env (eval o X.env) = eval o X.env := by rfl) (hline : (apos.endLine == mpos.line) = true := by rfl)
    (hse : starEach [Expr.Call (.Attribute o "values" apos) [] [] mpos] X.env = [(false, eval (Expr.Call (.Attribute o "values" apos) [] [] mpos) X.env)] := by rfl) :
    PE X (.Call (.Name "list" p) [.Call (.Attribute o "values" apos) [] [] mpos] [] pos) (tLstVals td) := by
  refine ⟨fun pins s σ H Q I h => ?_⟩
  refine wpAny_Call_Name_kw (ld_blt I hg hm (u := .type "list") (by first | rfl | decide +kernel) ?_ (by first | decide +kernel | decide) (by first | decide +kernel | decide))
  rw [hse]
  refine PySem.callWith_type1 (wpAny_Call_method0_late hbase hline (thn (hd.run pins s σ H _ I h) fun v s1 ⟨x, H1, I1, r1, a, kvs, ex, ha, few, q⟩ => ?_))
  subst ex
  obtain rfl : v = Value.ref a := r1
  obtain ⟨es, ep, hsys, raw, vs⟩ := dT_vals I1 ha
  obtain ⟨ob, ho, ex, hdat⟩ := id raw
  refine ⟨"dict", "dict.values", F.plainAttrs_dict, F.slot_dict_values, F.type_dict_values, ⟨ob, ho, ex.1⟩, fun b e => ?_, Calls.callWith_builtin rfl (PySem.evalArgs_none ?_)⟩
  · cases e
    exact ⟨ob, ho, ex.2.1⟩
  refine call_meetsIn F.slot_dict_values ⟨ob, ho, ex.1⟩ F.entry_dict_values (F.args_dict_values_1 _) (meets_dict_values_raw a hsys) ⟨⟨es, ep, raw⟩, ?_⟩
  have kp0 : ∀ b u, s1.heap.get? b = some u → (s1.heap.push { cls := .type "dict_values", data := .fields #[.ref a] }).get? b = some u := fun b ob q => Heap.get?_push_of_some _ q
  have I2 : Inv X pins σ H1 { s1 with heap := s1.heap.push { cls := .type "dict_values", data := .fields #[.ref a] } } := I1.kept (t' := s1.toks) kp0
  have raw2 : (s1.heap.push { cls := .type "dict_values", data := .fields #[.ref a] }).DictRaw a es ep := raw.at fun ob e => Heap.get?_push_of_some _ e
  have hview : (s1.heap.push { cls := .type "dict_values", data := .fields #[.ref a] }).IsValuesView s1.heap.objs.size a := ⟨_, Heap.get?_push_size _ rfl, rfl, rfl⟩
  have lv : es.size = kvs.length := by
    have e1 := vs.length
    simp only [List.length_map, Array.length_toList] at e1
    omega
  refine PySem.W.kdl_call (KdlSrc.rawValues (es := es) (ep := ep)) (I2.ok.hd hc) ⟨hview, raw2⟩ (by rw [lv, sizeLine_eq]; omega) fun h' tk acc c kp hg hacc => ?_
  have hv : Vals (kvs.map (·.2)) acc.toList := by
    have e : acc.toList = es.toList.map (·.val) := by
      refine List.ext_getElem? fun i => ?_
      rw [Array.getElem?_toList, List.getElem?_map, Array.getElem?_toList]
      cases c : acc[i]? with
      | none =>
        have : es.size ≤ i := by rw [← hacc.1]; exact Array.getElem?_eq_none_iff.mp c
        rw [Array.getElem?_eq_none this]
        rfl
      | some v =>
        obtain ⟨hi, e⟩ := hacc.2 i v c
        rw [Array.getElem?_eq_getElem hi, e]
        rfl
    rw [e]
    exact vs
  have hn : H1 (s1.heap.push { cls := .type "dict_values", data := .fields #[.ref a] }).objs.size = none := I2.hok.fresh (Nat.le_refl _)
  have J : Inv X pins σ (upd H1 (s1.heap.push { cls := .type "dict_values", data := .fields #[.ref a] }).objs.size (.lst (kvs.map (·.2)))) { s1 with heap := h', toks := tk } := I2.laid (t' := tk) kp (Nat.le_refl _) ⟨by rw [List.length_map, sizeLine_eq]; omega, acc.toList, c, hv, by rw [Array.toArray_toList]; exact hg⟩
  exact ⟨.ref (s1.heap.push { cls := .type "dict_values", data := .fields #[.ref a] }).objs.size, _, J, rfl, q _ hn⟩
end
section
/-! ### t * 1: the same tuple -/
theorem tuple_mulSame (l : Addr) (items : Array Value) (n : Nat) (dd : Option Addr) (sl : Array (Option Value)) (u : Tok) :
    Meets (Builtin.«tuple.__mul__» ⟨[.ref l, .int 1 u], []⟩) (fun _ R s => s.heap.get? l = some { cls := .type "tuple", dict := dd, data := .seq items n, slots := sl } ∧ R (.ok (.ret (Value.ref l))) s) :=
  .of_wp fun prog w A R s h => by
    obtain ⟨hp, g, d, tk, os⟩ := s
    obtain ⟨hl, h⟩ := h
    have f1 := AutoSeq1.idx_int
    have c0 : (decide ((1 : Int) < -(2 ^ 63)) || decide ((1 : Int) ≥ 2 ^ 63)) = false := by decide
    have c1 : (items.isEmpty || (1 : Int) == 1) = true := by rw [show ((1 : Int) == 1) = true by decide, Bool.or_true]
    wp_walk using wpAny_loadPart' hl
    repeat (first
      | (refine wpAny_ite_false (decide_eq_false (by rw [c0]; exact Bool.false_ne_true)) ?_; wp_walk using wpAny_loadPart' hl)
      | (refine wpAny_ite_true (decide_eq_true (by rw [c1])) ?_; wp_walk using wpAny_loadPart' hl))
    exact ⟨_, rfl, h⟩
variable {X : Cx}
def rRepSame (K : PySem.W.Frag) : R2 := fun x y H Q => ∃ l xs, x = .ref l ∧ y = .int 1 ∧ SqT K H l xs ∧ xs ≠ [] ∧ Q (.ref l) H
theorem op_repSame : OpR X (binaryOp .Mult) (rRepSame X.K) := by
  intro pins s σ H x y v u Q I rx ry h
  obtain ⟨l, xs, rfl, rfl, hT, hne, q⟩ := h
  cases rx
  obtain ⟨t, rfl⟩ := ry
  obtain ⟨its, r, ⟨⟨cls, dd, data, sl⟩, ho, hc, n, hd⟩, hs⟩ := I.tuple hT
  simp only at hc hd
  subst hc hd
  refine wpAny_binaryOp_repeat_ref (T := "tuple") (U := "int") (by decide) ⟨_, ho, rfl⟩ (fun s' => typeIs_int s' 1 t) noFill_tuple_mul F.fills_int_mul F.slot_int_rmul repeat_tuple F.slot_int_index.lookup
    (call_meets F.slot_int_rmul (typeIs_int s 1 t) F.entry_int_rmul (F.args_int_rmul_2 _ _) (int_rmul_tuple 1 t l its.toArray n dd sl)
      ⟨ho, rfl, ⟨_, ho, rfl⟩, call_meets F.slot_tuple_mul ⟨_, ho, rfl⟩ F.entry_tuple_mul (F.args_tuple_mul_2 _ _) (tuple_mulSame l its.toArray n dd sl t) ⟨ho, ?_⟩⟩)
  exact ⟨.ref l, H, I, rfl, q⟩
theorem op_or {op : Value → Value → Sem Value} {r1 r2 : R2} (h1 : OpR X op r1) (h2 : OpR X op r2) : OpR X op (fun x y H Q => r1 x y H Q ∨ r2 x y H Q) := by
  intro pins s σ H x y v u Q I rx ry h
  rcases h with h | h
  · exact h1 pins s σ H x y v u Q I rx ry h
  · exact h2 pins s σ H x y v u Q I rx ry h
/-- t * k, k from 1 -/
def rRepAny (K : PySem.W.Frag) : R2 := fun x y H Q => rRepSame K x y H Q ∨ rRepT K x y H Q
theorem op_repAny : OpR X (binaryOp .Mult) (rRepAny X.K) := op_or op_repSame op_repT
/-- one int, so many times -/
theorem rep_ints {K : PySem.W.Frag} {H : Hp} {l : Addr} {p : Int} {k : Nat} {Q : VK} (hl : H l = some (.tup [.int p])) (h1 : 1 ≤ k) (h2 : k ≤ 1000) (h : ∀ a H', Same H H' → H' a = some (.tup ((List.replicate k p).map V.int)) → Q (.ref a) H') : rRepAny K (.ref l) (.int (k : Int)) H Q := by
  by_cases e : k = 1
  · subst e
    exact .inl ⟨l, _, rfl, rfl, SqT.of hl, List.cons_ne_nil _ _, h l H (fun b o e => e) hl⟩
  · refine .inr ⟨l, _, _, rfl, rfl, SqT.of hl, List.cons_ne_nil _ _, by omega, by omega, (by show 1 ≤ 1000; decide), fun a na => h a _ (fun b o e => ?_) ?_⟩
    · rw [upd_ne (ne_of_none e na)]
      exact e
    · rw [upd_same, Int.toNat_natCast]
      have : ∀ n : Nat, (List.replicate n [V.int p]).flatten = (List.replicate n p).map V.int := fun n => by
        induction n with
        | zero => rfl
        | succ n ih => rw [List.replicate_succ, List.flatten_cons, ih, List.replicate_succ, List.map_cons]; rfl
      rw [this]
end
/-! ### alternating forms: of so many vectors, at so many places -/
section
/-- a sum over the numbers below n -/
def sumN : Nat → (Nat → Int) → Int
  | 0, _ => 0
  | n + 1, f => sumN n f + f n
theorem sumN_congr {f g : Nat → Int} : ∀ {n : Nat}, (∀ m, m < n → f m = g m) → sumN n f = sumN n g
  | 0, _ => rfl
  | n + 1, h => by
    unfold sumN
    rw [sumN_congr fun m hm => h m (Nat.lt_succ_of_lt hm), h n (Nat.lt_succ_self n)]
theorem sumN_zero : ∀ (n : Nat), sumN n (fun _ => 0) = 0
  | 0 => rfl
  | n + 1 => by unfold sumN; rw [sumN_zero n]; rfl
theorem sumN_none {f : Nat → Int} {n : Nat} (h : ∀ m, m < n → f m = 0) : sumN n f = 0 := (sumN_congr h).trans (sumN_zero n)
theorem sumN_add (f g : Nat → Int) : ∀ (n : Nat), sumN n (fun m => f m + g m) = sumN n f + sumN n g
  | 0 => rfl
  | n + 1 => by
    show sumN n (fun m => f m + g m) + (f n + g n) = (sumN n f + f n) + (sumN n g + g n)
    rw [sumN_add f g n]; omega
theorem sumN_sub (f g : Nat → Int) : ∀ (n : Nat), sumN n (fun m => f m - g m) = sumN n f - sumN n g
  | 0 => rfl
  | n + 1 => by
    show sumN n (fun m => f m - g m) + (f n - g n) = (sumN n f + f n) - (sumN n g + g n)
    rw [sumN_sub f g n]; omega
theorem sumN_mul (k : Int) (f : Nat → Int) : ∀ (n : Nat), sumN n (fun m => k * f m) = k * sumN n f
  | 0 => (Int.mul_zero k).symm
  | n + 1 => by unfold sumN; rw [sumN_mul k f n, Int.mul_add]
theorem sumN_one {f : Nat → Int} {i : Nat} : ∀ {n : Nat}, i < n → (∀ m, m < n → m ≠ i → f m = 0) → sumN n f = f i
  | 0, h, _ => absurd h (Nat.not_lt_zero _)
  | n + 1, h, z => by
    unfold sumN
    by_cases e : i = n
    · rw [sumN_none fun m hm => z m (by omega) (by omega), e]
      exact Int.zero_add _
    · rw [sumN_one (i := i) (by omega) fun m hm => z m (by omega), z n (by omega) (by omega)]
      exact Int.add_zero _
theorem sumN_two {f : Nat → Int} {i k n : Nat} (hi : i < n) (hk : k < n) (ne : i ≠ k) (z : ∀ m, m < n → m ≠ i → m ≠ k → f m = 0) : sumN n f = f i + f k := by
  have e : sumN n f = sumN n (fun m => (if m = i then f i else 0) + (if m = k then f k else 0)) := sumN_congr fun m hm => by
    by_cases a : m = i
    · rw [if_pos a, if_neg (by omega), a]; omega
    · by_cases b : m = k
      · rw [if_neg a, if_pos b, b]; omega
      · rw [if_neg a, if_neg b, z m hm a b]; rfl
  rw [e, sumN_add, sumN_one hi (fun m _ h => if_neg h), sumN_one hk (fun m _ h => if_neg h), if_pos rfl, if_pos rfl]
abbrev Ve := Nat → Int
def vadd (u v : Ve) : Ve := fun c => u c + v c
def vmul (k : Int) (v : Ve) : Ve := fun c => k * v c
def lap (v : Ve) (F : List Nat → Int) : List Nat → Int
  | [] => 0
  | c :: cs => v c * F cs - lap v (fun r => F (c :: r)) cs
theorem lap_congr {u v : Ve} : ∀ {cs : List Nat} {F G : List Nat → Int}, (∀ c ∈ cs, u c = v c) → (∀ r, r ⊆ cs → F r = G r) → lap u F cs = lap v G cs
  | [], _, _, _, _ => rfl
  | c :: cs, F, G, h, hF => by
    unfold lap
    rw [h c List.mem_cons_self, hF cs (List.subset_cons_self c cs), lap_congr (F := fun r => F (c :: r)) (G := fun r => G (c :: r)) (fun x hx => h x (List.mem_cons_of_mem _ hx)) fun r hr => hF _ (List.cons_subset.mpr ⟨List.mem_cons_self, fun x hx => List.mem_cons_of_mem _ (hr hx)⟩)]
theorem lap_addF (v : Ve) : ∀ (cs : List Nat) (F G : List Nat → Int), lap v (fun r => F r + G r) cs = lap v F cs + lap v G cs
  | [], _, _ => rfl
  | c :: cs, F, G => by
    unfold lap
    rw [lap_addF v cs (fun r => F (c :: r)) (fun r => G (c :: r)), Int.mul_add]
    omega
theorem lap_mulF (v : Ve) (k : Int) : ∀ (cs : List Nat) (F : List Nat → Int), lap v (fun r => k * F r) cs = k * lap v F cs
  | [], _ => (Int.mul_zero k).symm
  | c :: cs, F => by
    unfold lap
    rw [lap_mulF v k cs (fun r => F (c :: r))]
    grind
theorem lap_zeroF (v : Ve) (cs : List Nat) : lap v (fun _ => 0) cs = 0 := by
  have h := lap_mulF v 0 cs (fun _ => 0)
  rw [Int.zero_mul] at h
  simpa using h
theorem lap_addv (u v : Ve) : ∀ (cs : List Nat) (F : List Nat → Int), lap (vadd u v) F cs = lap u F cs + lap v F cs
  | [], _ => rfl
  | c :: cs, F => by
    unfold lap
    rw [lap_addv u v cs (fun r => F (c :: r)), show vadd u v c = u c + v c from rfl, Int.add_mul]
    omega
theorem lap_mulv (k : Int) (v : Ve) : ∀ (cs : List Nat) (F : List Nat → Int), lap (vmul k v) F cs = k * lap v F cs
  | [], _ => (Int.mul_zero k).symm
  | c :: cs, F => by
    unfold lap
    rw [lap_mulv k v cs (fun r => F (c :: r)), show vmul k v c = k * v c from rfl]
    grind
theorem lap_subF (v : Ve) (cs : List Nat) (F G : List Nat → Int) : lap v (fun r => F r - G r) cs = lap v F cs - lap v G cs := by
  have e : (fun r => F r - G r) = fun r => F r + (-1) * G r := funext fun r => by omega
  rw [e, lap_addF v cs F (fun r => (-1) * G r), lap_mulF]
  omega
/-- the same vector twice -/
theorem lap_lap (v : Ve) : ∀ (cs : List Nat) (F : List Nat → Int), lap v (lap v F) cs = 0
  | [], _ => rfl
  | c :: cs, F => by
    have e : (fun r => lap v F (c :: r)) = fun r => v c * F r - lap v (fun r' => F (c :: r')) r := rfl
    show v c * lap v F cs - lap v (fun r => lap v F (c :: r)) cs = 0
    rw [e, lap_subF v cs (fun r => v c * F r) (lap v fun r' => F (c :: r')), lap_mulF, lap_lap v cs]
    omega
/-- two vectors exchanged -/
theorem lap_swap (u v : Ve) (cs : List Nat) (F : List Nat → Int) : lap u (lap v F) cs = -lap v (lap u F) cs := by
  have h := lap_lap (vadd u v) cs F
  have e : lap (vadd u v) F = fun r => lap u F r + lap v F r := funext fun r => lap_addv u v r F
  rw [e, lap_addv, lap_addF, lap_addF, lap_lap, lap_lap] at h
  omega
def wed : List Ve → List Nat → Int
  | [] => fun cs => if cs = [] then 1 else 0
  | v :: vs => lap v (wed vs)
theorem wed_mem {v : Ve} : ∀ {vs : List Ve}, v ∈ vs → ∀ cs, lap v (wed vs) cs = 0
  | [], h, _ => nomatch h
  | u :: vs, h, cs => by
    rcases List.mem_cons.mp h with e | h
    · rw [e]; exact lap_lap u cs (wed vs)
    · show lap v (lap u (wed vs)) cs = 0
      rw [lap_swap, show lap v (wed vs) = fun _ => 0 from funext fun r => wed_mem h r, lap_zeroF]
      rfl
/-- a vector stands twice -/
theorem wed_rep : ∀ {vs : List Ve} {i k : Nat} {v : Ve}, i < k → vs[i]? = some v → vs[k]? = some v → ∀ cs, wed vs cs = 0
  | [], _, _, _, _, h, _, _ => by simp at h
  | u :: vs, 0, k + 1, v, _, h1, h2, cs => by
    have e : u = v := by simpa using h1
    rw [← e] at h2
    exact wed_mem (List.mem_of_getElem? (show vs[k]? = some u by simpa using h2)) cs
  | u :: vs, i + 1, k + 1, v, h, h1, h2, cs => by
    show lap u (wed vs) cs = 0
    rw [show wed vs = fun _ => 0 from funext fun r => wed_rep (i := i) (k := k) (by omega) (by simpa using h1) (by simpa using h2) r]
    exact lap_zeroF u cs
theorem wed_rep' {vs : List Ve} {i k : Nat} {v : Ve} (ne : i ≠ k) (h1 : vs[i]? = some v) (h2 : vs[k]? = some v) (cs : List Nat) : wed vs cs = 0 := by
  rcases Nat.lt_or_gt_of_ne ne with h | h
  · exact wed_rep h h1 h2 cs
  · exact wed_rep h h2 h1 cs
theorem wed_add (u v : Ve) : ∀ (vs : List Ve) (i : Nat), i < vs.length → ∀ cs, wed (vs.set i (vadd u v)) cs = wed (vs.set i u) cs + wed (vs.set i v) cs
  | [], _, h, _ => absurd h (Nat.not_lt_zero _)
  | x :: vs, 0, _, cs => lap_addv u v cs (wed vs)
  | x :: vs, i + 1, h, cs => by
    show lap x (wed (vs.set i (vadd u v))) cs = lap x (wed (vs.set i u)) cs + lap x (wed (vs.set i v)) cs
    rw [← lap_addF, show wed (vs.set i (vadd u v)) = fun r => wed (vs.set i u) r + wed (vs.set i v) r from funext fun r => wed_add u v vs i (Nat.lt_of_succ_lt_succ h) r]
theorem wed_mul (k : Int) (v : Ve) : ∀ (vs : List Ve) (i : Nat), i < vs.length → ∀ cs, wed (vs.set i (vmul k v)) cs = k * wed (vs.set i v) cs
  | [], _, h, _ => absurd h (Nat.not_lt_zero _)
  | x :: vs, 0, _, cs => lap_mulv k v cs (wed vs)
  | x :: vs, i + 1, h, cs => by
    show lap x (wed (vs.set i (vmul k v))) cs = k * lap x (wed (vs.set i v)) cs
    rw [← lap_mulF, show wed (vs.set i (vmul k v)) = fun r => k * wed (vs.set i v) r from funext fun r => wed_mul k v vs i (Nat.lt_of_succ_lt_succ h) r]
theorem wed_sum (t : Nat → Int) (u : Nat → Ve) (vs : List Ve) (i : Nat) (h : i < vs.length) (cs : List Nat) : ∀ (n : Nat), wed (vs.set i (fun c => sumN n fun m => t m * u m c)) cs = sumN n fun m => t m * wed (vs.set i (u m)) cs
  | 0 => by
    have := wed_mul 0 (fun _ => 0) vs i h cs
    rw [Int.zero_mul] at this
    have e : (vmul 0 fun _ => 0) = fun _ => (0 : Int) := funext fun c => Int.zero_mul 0
    rw [e] at this
    exact this
  | n + 1 => by
    have e : (fun c => sumN (n + 1) fun m => t m * u m c) = vadd (fun c => sumN n fun m => t m * u m c) (vmul (t n) (u n)) := rfl
    rw [e, wed_add _ _ vs i h, wed_sum t u vs i h cs n, wed_mul _ _ vs i h]
    rfl
theorem wed_congr : ∀ {vs us : List Ve} {cs : List Nat}, vs.length = us.length → (∀ (i : Nat) (u v : Ve), vs[i]? = some v → us[i]? = some u → ∀ c ∈ cs, v c = u c) → wed vs cs = wed us cs
  | [], [], _, _, _ => rfl
  | v :: vs, u :: us, cs, hl, h => lap_congr (fun c hc => h 0 u v rfl rfl c hc) fun r hr => wed_congr (by simpa using hl) fun i a b h1 h2 c hc => h (i + 1) a b (by simpa using h1) (by simpa using h2) c (hr hc)
  | [], _ :: _, _, h, _ => nomatch h
  | _ :: _, [], _, h, _ => nomatch h
theorem wed_setC {vs : List Ve} {i : Nat} {u v : Ve} {cs : List Nat} (h : ∀ c ∈ cs, u c = v c) : wed (vs.set i u) cs = wed (vs.set i v) cs := by
  refine wed_congr (by rw [List.length_set, List.length_set]) fun j a b h1 h2 c hc => ?_
  rw [List.getElem?_set] at h1 h2
  by_cases e : i = j
  · rw [if_pos e] at h1 h2
    by_cases l : i < vs.length
    · rw [if_pos l] at h1 h2
      cases h1; cases h2
      exact h c hc
    · rw [if_neg l] at h1; cases h1
  · rw [if_neg e] at h1 h2
    rw [h1] at h2
    cases h2
    rfl
/-- two vectors exchanged, wherever they stand -/
theorem wed_swap {vs : List Ve} {i k : Nat} (ne : i ≠ k) (hi : i < vs.length) (hk : k < vs.length) (x y : Ve) (cs : List Nat) : wed ((vs.set i x).set k y) cs = -wed ((vs.set i y).set k x) cs := by
  have hk' : ∀ z, k < (vs.set i z).length := fun z => by rw [List.length_set]; exact hk
  have rep : ∀ z, wed ((vs.set i z).set k z) cs = 0 := fun z => by
    refine wed_rep' ne (v := z) ?_ ?_ cs
    · rw [List.getElem?_set_ne (Ne.symm ne), List.getElem?_set_self hi]
    · rw [List.getElem?_set_self (hk' z)]
  have com : ∀ (a b : Ve), (vs.set i a).set k b = (vs.set k b).set i a := fun a b => List.set_comm _ _ ne
  have h := rep (vadd x y)
  rw [wed_add x y _ k (hk' _), com, com, wed_add x y (vs.set k x) i (by rw [List.length_set]; exact hi), wed_add x y (vs.set k y) i (by rw [List.length_set]; exact hi), ← com, ← com, ← com, ← com, rep, rep] at h
  omega
/-! ### so many vectors of so many places -/
/-- every vector is told by these -/
def Cr (n : Nat) (B : List Ve) : Prop := B.length = n ∧ ∀ (y : Ve) (c : Nat), c < n → wed B (List.range n) * y c = sumN n fun m => wed (B.set m y) (List.range n) * (B.getD m (fun _ => 0)) c
theorem set_self {B : List Ve} {m : Nat} : B.set m (B.getD m (fun _ => 0)) = B := by
  apply List.ext_getElem?
  intro j
  rw [List.getElem?_set]
  by_cases e : m = j
  · rw [if_pos e]
    by_cases l : m < B.length
    · rw [if_pos l, ← e, List.getD_eq_getElem?_getD, List.getElem?_eq_getElem l]
      rfl
    · rw [if_neg l, ← e, List.getElem?_eq_none (by omega)]
  · rw [if_neg e]
theorem Cr.ex {n : Nat} {B : List Ve} (C : Cr n B) {i k : Nat} (hi : i < n) (hk : k < n) (ne : i ≠ k) (x y : Ve) :
    wed B (List.range n) * wed ((B.set k x).set i y) (List.range n) = wed (B.set k x) (List.range n) * wed (B.set i y) (List.range n) - wed (B.set i x) (List.range n) * wed (B.set k y) (List.range n) := by
  obtain ⟨hl, C⟩ := C
  have hi' : i < (B.set k x).length := by rw [List.length_set, hl]; exact hi
  rw [← wed_mul _ _ _ i hi', wed_setC (u := vmul (wed B (List.range n)) y) (v := fun c => sumN n fun m => wed (B.set m y) (List.range n) * (B.getD m (fun _ => 0)) c) fun c hc => C y c (List.mem_range.mp hc), wed_sum _ _ _ i hi', sumN_two hi hk ne fun m hm n1 n2 => ?_]
  · have e1 : (B.set k x).set i (B.getD i (fun _ => 0)) = B.set k x := by
      have : (B.set k x).getD i (fun _ => 0) = B.getD i (fun _ => 0) := by
        rw [List.getD_eq_getElem?_getD, List.getD_eq_getElem?_getD, List.getElem?_set_ne (Ne.symm ne)]
      rw [← this]
      exact set_self
    have e2 : wed ((B.set k x).set i (B.getD k (fun _ => 0))) (List.range n) = -wed (B.set i x) (List.range n) := by
      rw [wed_swap (Ne.symm ne) (by omega) (by omega), set_self]
    rw [e1, e2]
    grind
  · have hm' : m < B.length := by omega
    have g : B[m]? = some (B.getD m (fun _ => 0)) := by rw [List.getD_eq_getElem?_getD, List.getElem?_eq_getElem hm']; rfl
    have e : wed ((B.set k x).set i (B.getD m (fun _ => 0))) (List.range n) = 0 := wed_rep' (i := m) (k := i) (v := B.getD m (fun _ => 0)) n1 (by rw [List.getElem?_set_ne (Ne.symm n1), List.getElem?_set_ne (Ne.symm n2)]; exact g) (by rw [List.getElem?_set_self hi']) _
    rw [e, Int.mul_zero]
theorem getD_set {B : List Ve} {k m : Nat} {x : Ve} (hk : k < B.length) : (B.set k x).getD m (fun _ => 0) = if m = k then x else B.getD m (fun _ => 0) := by
  rw [List.getD_eq_getElem?_getD, List.getElem?_set]
  by_cases e : m = k
  · rw [if_pos e, if_pos e.symm, if_pos hk]
    rfl
  · rw [if_neg e, if_neg (Ne.symm e), List.getD_eq_getElem?_getD]
theorem Cr.step {n : Nat} {B : List Ve} (C : Cr n B) {k : Nat} (hk : k < n) (x : Ve) (nz : wed B (List.range n) ≠ 0) : Cr n (B.set k x) := by
  obtain ⟨hl, C'⟩ := id C
  refine ⟨by rw [List.length_set, hl], fun y c hc => ?_⟩
  refine Int.eq_of_mul_eq_mul_left nz ?_
  rw [← sumN_mul]
  have hx := C' x c hc
  have hy := C' y c hc
  have e : (sumN n fun m => wed B (List.range n) * (wed ((B.set k x).set m y) (List.range n) * ((B.set k x).getD m (fun _ => 0)) c)) =
      sumN n fun m => (wed (B.set k x) (List.range n) * (wed (B.set m y) (List.range n) * (B.getD m (fun _ => 0)) c) - wed (B.set k y) (List.range n) * (wed (B.set m x) (List.range n) * (B.getD m (fun _ => 0)) c)) + (if m = k then wed (B.set k y) (List.range n) * (wed B (List.range n) * x c) else 0) := by
    refine sumN_congr fun m hm => ?_
    rw [getD_set (by omega)]
    by_cases a : m = k
    · subst a
      rw [if_pos rfl, if_pos rfl, List.set_set]
      grind
    · rw [if_neg a, if_neg a, ← Int.mul_assoc, C.ex hm hk a x y]
      grind
  rw [e, sumN_add, sumN_sub, sumN_mul, sumN_mul, ← hx, ← hy, sumN_one hk (fun m _ h => if_neg h), if_pos rfl]
  grind
theorem Cr.swap {n : Nat} {B : List Ve} (C : Cr n B) {k f : Nat} (hk : k < n) (hf : f < n) (ne : k ≠ f) : Cr n ((B.set k (B.getD f fun _ => 0)).set f (B.getD k fun _ => 0)) ∧
    (∀ y, wed (((B.set k (B.getD f fun _ => 0)).set f (B.getD k fun _ => 0)).set k y) (List.range n) = -wed (B.set f y) (List.range n)) ∧
    (∀ y, wed (((B.set k (B.getD f fun _ => 0)).set f (B.getD k fun _ => 0)).set f y) (List.range n) = -wed (B.set k y) (List.range n)) ∧
    (∀ m y, m ≠ k → m ≠ f → wed (((B.set k (B.getD f fun _ => 0)).set f (B.getD k fun _ => 0)).set m y) (List.range n) = -wed (B.set m y) (List.range n)) ∧
    wed ((B.set k (B.getD f fun _ => 0)).set f (B.getD k fun _ => 0)) (List.range n) = -wed B (List.range n) := by
  obtain ⟨hl, C'⟩ := id C
  have lk : k < B.length := by omega
  have lf : f < B.length := by omega
  have h1 : ∀ y, wed (((B.set k (B.getD f fun _ => 0)).set f (B.getD k fun _ => 0)).set k y) (List.range n) = -wed (B.set f y) (List.range n) := fun y => by
    rw [List.set_comm _ _ (Ne.symm ne), List.set_set, wed_swap ne lk lf, set_self]
  have h2 : ∀ y, wed (((B.set k (B.getD f fun _ => 0)).set f (B.getD k fun _ => 0)).set f y) (List.range n) = -wed (B.set k y) (List.range n) := fun y => by
    rw [List.set_set, wed_swap ne lk lf, List.set_comm _ _ ne, set_self]
  have h0 : wed ((B.set k (B.getD f fun _ => 0)).set f (B.getD k fun _ => 0)) (List.range n) = -wed B (List.range n) := by
    rw [wed_swap ne lk lf, set_self, set_self]
  have h3 : ∀ m y, m ≠ k → m ≠ f → wed (((B.set k (B.getD f fun _ => 0)).set f (B.getD k fun _ => 0)).set m y) (List.range n) = -wed (B.set m y) (List.range n) := fun m y n1 n2 => by
    rw [List.set_comm _ _ (Ne.symm n2), List.set_comm _ _ (Ne.symm n1), wed_swap ne (by rw [List.length_set]; exact lk) (by rw [List.length_set]; exact lf)]
    have e1 : (B.set m y).getD k (fun _ => 0) = B.getD k fun _ => 0 := by
      rw [List.getD_eq_getElem?_getD, List.getD_eq_getElem?_getD, List.getElem?_set_ne n1]
    have e2 : (B.set m y).getD f (fun _ => 0) = B.getD f fun _ => 0 := by
      rw [List.getD_eq_getElem?_getD, List.getD_eq_getElem?_getD, List.getElem?_set_ne n2]
    rw [← e1, ← e2, set_self, set_self]
  refine ⟨⟨by rw [List.length_set, List.length_set, hl], fun y c hc => ?_⟩, h1, h2, h3, h0⟩
  rw [h0, Int.neg_mul, C' y c hc, ← Int.neg_one_mul, ← sumN_mul]
  have d : ∀ f' g' : Nat → Int, sumN n (fun m => f' m - g' m) = 0 → sumN n f' = sumN n g' := fun f' g' h => by
    rw [sumN_sub] at h
    omega
  apply d
  rw [sumN_two hk hf ne fun m hm n1 n2 => ?_]
  · rw [h1, h2, getD_set (by rw [List.length_set]; exact lf), getD_set lk, if_neg ne, if_pos rfl, getD_set (by rw [List.length_set]; exact lf), if_pos rfl]
    grind
  · rw [h3 m y n1 n2, getD_set (by rw [List.length_set]; exact lf), getD_set lk, if_neg n1, if_neg n2]
    grind
/-! ### the first ones -/
def unit (i : Nat) : Ve := fun c => if c = i then 1 else 0
theorem lap_off {v : Ve} : ∀ {cs : List Nat} {F : List Nat → Int}, (∀ c ∈ cs, v c = 0) → lap v F cs = 0
  | [], _, _ => rfl
  | c :: cs, F, h => by
    unfold lap
    rw [h c List.mem_cons_self, lap_off fun x hx => h x (List.mem_cons_of_mem _ hx), Int.zero_mul]
    rfl
/-- of vectors that are all nought at a place -/
theorem wed_off {k : Nat} : ∀ {vs : List Ve}, (∀ v ∈ vs, v k = 0) → ∀ cs, wed vs (k :: cs) = 0
  | [], _, _ => rfl
  | v :: vs, h, cs => by
    show v k * wed vs cs - lap v (fun r => wed vs (k :: r)) cs = 0
    rw [h v List.mem_cons_self, show (fun r => wed vs (k :: r)) = fun _ => 0 from funext fun r => wed_off (fun u hu => h u (List.mem_cons_of_mem _ hu)) r, lap_zeroF]
    simp
theorem wed_unit {i : Nat} {vs : List Ve} {cs : List Nat} (h : i ∉ cs) : wed (unit i :: vs) (i :: cs) = wed vs cs := by
  show unit i i * wed vs cs - lap (unit i) (fun r => wed vs (i :: r)) cs = wed vs cs
  rw [lap_off (v := unit i) (cs := cs) fun c hc => if_neg fun e : c = i => h (e ▸ hc), show unit i i = 1 from if_pos rfl]
  omega
theorem wed_units : ∀ (k i : Nat), wed ((List.range' i k).map unit) (List.range' i k) = 1
  | 0, _ => rfl
  | k + 1, i => by
    rw [List.range'_succ, List.map_cons, wed_unit (by rw [List.mem_range'_1]; omega)]
    exact wed_units k (i + 1)
theorem wed_unitS (y : Ve) : ∀ (k i m : Nat), m < k → wed (((List.range' i k).map unit).set m y) (List.range' i k) = y (i + m)
  | 0, _, _, h => absurd h (Nat.not_lt_zero _)
  | k + 1, i, 0, _ => by
    rw [List.range'_succ, List.map_cons, List.set_cons_zero]
    show y i * wed ((List.range' (i + 1) k).map unit) (List.range' (i + 1) k) - lap y (fun r => wed ((List.range' (i + 1) k).map unit) (i :: r)) (List.range' (i + 1) k) = y i
    rw [wed_units, show (fun r => wed ((List.range' (i + 1) k).map unit) (i :: r)) = fun _ => 0 from funext fun r => wed_off (fun v hv => ?_) r, lap_zeroF]
    · omega
    · obtain ⟨j, hj, rfl⟩ := List.mem_map.mp hv
      rw [List.mem_range'_1] at hj
      exact if_neg (by omega)
  | k + 1, i, m + 1, h => by
    rw [List.range'_succ, List.map_cons, List.set_cons_succ, wed_unit (by rw [List.mem_range'_1]; omega), wed_unitS y k (i + 1) m (by omega)]
    congr 1
    omega
theorem Cr.units (n : Nat) : Cr n ((List.range n).map unit) := by
  refine ⟨by rw [List.length_map, List.length_range], fun y c hc => ?_⟩
  rw [List.range_eq_range', wed_units, Int.one_mul]
  have e : (sumN n fun m => wed (((List.range' 0 n).map unit).set m y) (List.range' 0 n) * (((List.range' 0 n).map unit).getD m (fun _ => 0)) c) = sumN n fun m => if m = c then y c else 0 := by
    refine sumN_congr fun m hm => ?_
    rw [wed_unitS y n 0 m hm, Nat.zero_add, List.getD_eq_getElem?_getD, List.getElem?_map, List.getElem?_range' hm]
    show y m * unit (0 + 1 * m) c = _
    rw [show 0 + 1 * m = m by omega]
    by_cases a : m = c
    · rw [a, if_pos rfl, show unit c c = 1 from if_pos rfl, Int.mul_one]
    · rw [if_neg a, show unit m c = 0 from if_neg (Ne.symm a), Int.mul_zero]
  rw [e, sumN_one hc (fun m _ h => if_neg h), if_pos rfl]
/-! ### how great -/
def l1 (cs : List Nat) (v : Ve) : Nat := (cs.map fun c => (v c).natAbs).sum
theorem l1_sub (v : Ve) {r cs : List Nat} (h : r.Sublist cs) : l1 r v ≤ l1 cs v := by
  induction h with
  | slnil => exact Nat.le_refl _
  | cons a _ ih =>
    unfold l1 at ih ⊢
    rw [List.map_cons, List.sum_cons]
    omega
  | cons_cons a _ ih =>
    unfold l1 at ih ⊢
    rw [List.map_cons, List.sum_cons, List.map_cons, List.sum_cons]
    omega
theorem lap_le {v : Ve} {K : Nat} : ∀ {cs : List Nat} {F : List Nat → Int}, (∀ r, r.Sublist cs → (F r).natAbs ≤ K) → (lap v F cs).natAbs ≤ l1 cs v * K
  | [], _, _ => Nat.zero_le _
  | c :: cs, F, h => by
    have h1 := h cs (List.sublist_cons_self c cs)
    have h2 := lap_le (v := v) (cs := cs) (F := fun r => F (c :: r)) fun r hr => h _ (hr.cons_cons c)
    have e : l1 (c :: cs) v = (v c).natAbs + l1 cs v := by unfold l1; rw [List.map_cons, List.sum_cons]
    rw [e, Nat.add_mul]
    have h3 : (v c * F cs).natAbs ≤ (v c).natAbs * K := by
      rw [Int.natAbs_mul]
      exact Nat.mul_le_mul_left _ h1
    have h4 := Int.natAbs_sub_le (v c * F cs) (lap v (fun r => F (c :: r)) cs)
    unfold lap
    omega
theorem wed_le {L : Nat} (hL : 1 ≤ L) : ∀ {vs : List Ve} {cs : List Nat}, (∀ v ∈ vs, l1 cs v ≤ L) → (wed vs cs).natAbs ≤ L ^ vs.length
  | [], cs, _ => by
    show (if cs = [] then (1 : Int) else 0).natAbs ≤ 1
    split <;> decide
  | v :: vs, cs, h => by
    have h1 := lap_le (v := v) (cs := cs) (F := wed vs) (K := L ^ vs.length) fun r hr => wed_le hL fun u hu => Nat.le_trans (l1_sub u hr) (h u (List.mem_cons_of_mem _ hu))
    refine Nat.le_trans h1 ?_
    rw [List.length_cons, Nat.pow_succ, Nat.mul_comm]
    exact Nat.mul_le_mul_left _ (h v List.mem_cons_self)
theorem l1_unit (i : Nat) : ∀ {cs : List Nat}, cs.Nodup → l1 cs (unit i) ≤ 1
  | [], _ => Nat.zero_le _
  | c :: cs, h => by
    have e : l1 (c :: cs) (unit i) = (unit i c).natAbs + l1 cs (unit i) := by unfold l1; rw [List.map_cons, List.sum_cons]
    rw [e]
    rw [List.nodup_cons] at h
    by_cases a : c = i
    · have z : l1 cs (unit i) = 0 := by
        unfold l1
        have : (cs.map fun c => (unit i c).natAbs) = cs.map fun _ => 0 := List.map_congr_left fun x hx => by
          have : x ≠ i := fun e => h.1 (by rw [a, ← e]; exact hx)
          rw [show unit i x = 0 from if_neg this]
          rfl
        rw [this]
        clear this h e
        induction cs with
        | nil => rfl
        | cons _ _ ih => rw [List.map_cons, List.sum_cons, ih]
      rw [z, show unit i c = 1 from if_pos a]
      decide
    · have := l1_unit i h.2
      rw [show unit i c = 0 from if_neg a]
      simpa using this
/-! ### Bareiss -/
/-- the column j of the equations -/
def colA (A : Nat → Nat → Int) (j : Nat) : Ve := fun r => A r j
/-- what stands behind k turns -/
def BInv (n : Nat) (A : Nat → Nat → Int) (L k : Nat) (M : Nat → Nat → Int) (d : Int) : Prop := ∃ (σ : Int) (B : List Ve), σ * σ = 1 ∧ Cr n B ∧ (∀ m, m < k → B.getD m (fun _ => 0) = colA A m) ∧ d = σ * wed B (List.range n) ∧ d ≠ 0 ∧
  (∀ v ∈ B, l1 (List.range n) v ≤ L) ∧ ∀ i j, i < n → j ≤ n → M i j = σ * wed (B.set i (colA A j)) (List.range n)
theorem BInv.init {n L : Nat} {A : Nat → Nat → Int} (hL : 1 ≤ L) : BInv n A L 0 A 1 := by
  refine ⟨1, (List.range n).map unit, rfl, Cr.units n, fun m h => absurd h (Nat.not_lt_zero _), ?_, by decide, fun v hv => ?_, fun i j hi hj => ?_⟩
  · rw [List.range_eq_range', wed_units]
    rfl
  · obtain ⟨i, _, rfl⟩ := List.mem_map.mp hv
    exact Nat.le_trans (l1_unit i List.nodup_range) hL
  · rw [List.range_eq_range', wed_unitS _ n 0 i hi, Nat.zero_add, Int.one_mul]
    rfl
theorem sg_cases {σ : Int} (h : σ * σ = 1) : σ = 1 ∨ σ = -1 := by
  have h1 : σ ∣ 1 := ⟨σ, h.symm⟩
  have := Int.natAbs_dvd_natAbs.mpr h1
  have h2 : σ.natAbs = 1 := Nat.dvd_one.mp this
  omega
theorem BInv.le {n L k : Nat} {A M : Nat → Nat → Int} {d : Int} (I : BInv n A L k M d) (hL : 1 ≤ L) (hA : ∀ j, j ≤ n → l1 (List.range n) (colA A j) ≤ L) : d.natAbs ≤ L ^ n ∧ ∀ i j, i < n → j ≤ n → (M i j).natAbs ≤ L ^ n := by
  obtain ⟨σ, B, hs, C, hc, hd, nz, hB, hM⟩ := I
  have sa : σ.natAbs = 1 := by
    rcases sg_cases hs with e | e <;> rw [e] <;> rfl
  refine ⟨?_, fun i j hi hj => ?_⟩
  · rw [hd, Int.natAbs_mul, sa, Nat.one_mul, ← C.1]
    have := wed_le hL hB
    rw [C.1] at this ⊢
    exact this
  · rw [hM i j hi hj, Int.natAbs_mul, sa, Nat.one_mul]
    have e := C.1
    have := wed_le hL (vs := B.set i (colA A j)) (cs := List.range n) fun v hv => by
      rcases List.mem_or_eq_of_mem_set hv with h | h
      · exact hB v h
      · rw [h]; exact hA j hj
    rw [List.length_set, e] at this
    exact this
/-- two rows exchanged, none of them done -/
theorem BInv.swap {n L k f : Nat} {A M : Nat → Nat → Int} {d : Int} (I : BInv n A L k M d) (hk : k < n) (hf : f < n) (kf : k ≤ f) :
    BInv n A L k (fun i j => M (if i = k then f else if i = f then k else i) j) d := by
  by_cases ne : k = f
  · subst ne
    have e : (fun (i : Nat) (j : Nat) => M (if i = k then k else if i = k then k else i) j) = M := funext fun i => funext fun j => by
      by_cases a : i = k
      · rw [if_pos a, a]
      · rw [if_neg a, if_neg a]
    rw [e]
    exact I
  obtain ⟨σ, B, hs, C, hc, hd, nz, hB, hM⟩ := I
  have hl := C.1
  obtain ⟨C', h1, h2, h3, h0⟩ := C.swap hk hf ne
  have lk : k < B.length := by omega
  have lf : f < B.length := by omega
  refine ⟨-σ, _, by rw [Int.neg_mul_neg]; exact hs, C', fun m hm => ?_, ?_, nz, fun v hv => ?_, fun i j hi hj => ?_⟩
  · rw [getD_set (by rw [List.length_set]; exact lf), if_neg (by omega), getD_set lk, if_neg (by omega)]
    exact hc m hm
  · rw [h0, Int.neg_mul_neg]
    exact hd
  · have mem : ∀ m, m < B.length → l1 (List.range n) (B.getD m fun _ => 0) ≤ L := fun m hm => hB _ (by rw [List.getD_eq_getElem?_getD, List.getElem?_eq_getElem hm]; exact List.getElem_mem hm)
    rcases List.mem_or_eq_of_mem_set hv with h | h
    · rcases List.mem_or_eq_of_mem_set h with h | h
      · exact hB v h
      · rw [h]; exact mem f lf
    · rw [h]; exact mem k lk
  · show M (if i = k then f else if i = f then k else i) j = _
    by_cases a : i = k
    · rw [if_pos a, a, h1, Int.neg_mul_neg]
      exact hM f j hf hj
    · by_cases b : i = f
      · rw [if_neg a, if_pos b, b, h2, Int.neg_mul_neg]
        exact hM k j hk hj
      · rw [if_neg a, if_neg b, h3 i _ a b, Int.neg_mul_neg]
        exact hM i j hi hj
/-- a turn: the division leaves no rest -/
theorem BInv.step {n L k : Nat} {A M : Nat → Nat → Int} {d : Int} (I : BInv n A L k M d) (hk : k < n) (hA : ∀ j, j ≤ n → l1 (List.range n) (colA A j) ≤ L) (pv : M k k ≠ 0) :
    BInv n A L (k + 1) (fun i j => if i = k then M k j else (M k k * M i j - M i k * M k j) / d) (M k k) := by
  obtain ⟨σ, B, hs, C, hc, hd, nz, hB, hM⟩ := I
  have hl := C.1
  have lk : k < B.length := by omega
  have w0 : wed B (List.range n) ≠ 0 := fun e => nz (by rw [hd, e, Int.mul_zero])
  have ek := hM k k hk (by omega)
  refine ⟨σ, B.set k (colA A k), hs, C.step hk _ w0, fun m hm => ?_, ek, pv, fun v hv => ?_, fun i j hi hj => ?_⟩
  · rw [getD_set lk]
    by_cases a : m = k
    · rw [if_pos a, a]
    · rw [if_neg a]
      exact hc m (by omega)
  · rcases List.mem_or_eq_of_mem_set hv with h | h
    · exact hB v h
    · rw [h]; exact hA k (by omega)
  · show (if i = k then M k j else (M k k * M i j - M i k * M k j) / d) = _
    by_cases a : i = k
    · rw [if_pos a, a, List.set_set]
      exact hM k j hk hj
    · rw [if_neg a, hM i j hi hj, ek, hM i k hi (by omega), hM k j hk hj]
      have := C.ex hi hk a (colA A k) (colA A j)
      have e : (σ * wed (B.set k (colA A k)) (List.range n)) * (σ * wed (B.set i (colA A j)) (List.range n)) - (σ * wed (B.set i (colA A k)) (List.range n)) * (σ * wed (B.set k (colA A j)) (List.range n)) =
          d * (σ * wed ((B.set k (colA A k)).set i (colA A j)) (List.range n)) := by
        rw [hd]
        generalize wed (B.set k (colA A k)) (List.range n) = p1 at this ⊢
        generalize wed (B.set i (colA A j)) (List.range n) = p2 at this ⊢
        generalize wed (B.set i (colA A k)) (List.range n) = p3 at this ⊢
        generalize wed (B.set k (colA A j)) (List.range n) = p4 at this ⊢
        generalize wed ((B.set k (colA A k)).set i (colA A j)) (List.range n) = p5 at this ⊢
        generalize wed B (List.range n) = p6 at this ⊢
        grind
      rw [e]
      exact Int.mul_ediv_cancel_left _ nz
/-- a row that can lead is found -/
theorem BInv.pivot {n L k : Nat} {A M : Nat → Nat → Int} {d : Int} (I : BInv n A L k M d) (hk : k < n) (inj : ∀ z : Nat → Int, (∀ r, r < n → sumN n (fun m => A r m * z m) = 0) → ∀ m, m < n → z m = 0) : ∃ f, k ≤ f ∧ f < n ∧ M f k ≠ 0 := by
  refine Classical.byContradiction fun h => ?_
  have h' : ∀ f, k ≤ f → f < n → M f k = 0 := fun f h1 h2 => Classical.byContradiction fun c => h ⟨f, h1, h2, c⟩
  obtain ⟨σ, B, hs, C, hc, hd, nz, hB, hM⟩ := I
  have s0 : σ ≠ 0 := fun e => by rw [e] at hs; cases hs
  have w0 : wed B (List.range n) ≠ 0 := fun e => nz (by rw [hd, e, Int.mul_zero])
  have z := inj (fun m => if m = k then -wed B (List.range n) else if m < k then wed (B.set m (colA A k)) (List.range n) else 0) (fun r hr => ?_) k hk
  · rw [if_pos rfl] at z
    exact w0 (by omega)
  · have e := C.2 (colA A k) r hr
    have e2 : sumN n (fun m => A r m * (if m = k then -wed B (List.range n) else if m < k then wed (B.set m (colA A k)) (List.range n) else 0)) =
        sumN n fun m => wed (B.set m (colA A k)) (List.range n) * (B.getD m (fun _ => 0)) r - (if m = k then wed B (List.range n) * A r k else 0) := by
      refine sumN_congr fun m hm => ?_
      by_cases a : m = k
      · have := h' k (Nat.le_refl _) hk
        rw [hM k k hk (by omega)] at this
        have := (Int.mul_eq_zero.mp this).resolve_left s0
        rw [if_pos a, if_pos a, a, this]
        grind
      · rw [if_neg a, if_neg a]
        by_cases b : m < k
        · rw [if_pos b, hc m b]
          show _ = _ * A r m - 0
          grind
        · have := h' m (by omega) hm
          rw [hM m k hm (by omega)] at this
          have := (Int.mul_eq_zero.mp this).resolve_left s0
          rw [if_neg b, this]
          grind
    rw [e2, sumN_sub, ← e, sumN_one hk (fun m _ h => if_neg h), if_pos rfl]
    show _ * A r k - _ = 0
    omega
/-- behind all turns -/
theorem BInv.done {n L : Nat} {A M : Nat → Nat → Int} {d : Int} (I : BInv n A L n M d) : (∀ i, i < n → M i i = d) ∧ ∀ r, r < n → sumN n (fun m => A r m * M m n) = d * A r n := by
  obtain ⟨σ, B, hs, C, hc, hd, nz, hB, hM⟩ := I
  refine ⟨fun i hi => ?_, fun r hr => ?_⟩
  · rw [hM i i hi (by omega), ← hc i hi, set_self]
    exact hd.symm
  · have e := C.2 (colA A n) r hr
    rw [hd, Int.mul_assoc, show A r n = colA A n r from rfl, e, ← sumN_mul]
    refine sumN_congr fun m hm => ?_
    rw [hM m n hm (by omega), hc m hm]
    show A r m * _ = σ * (_ * A r m)
    grind
end
section
theorem BInv.dvd {n L k : Nat} {A M : Nat → Nat → Int} {d : Int} (I : BInv n A L k M d) (hk : k < n) {i j : Nat} (hi : i < n) (hj : j ≤ n) (ne : i ≠ k) : d ∣ M k k * M i j - M i k * M k j := by
  obtain ⟨σ, B, hs, C, hc, hd, nz, hB, hM⟩ := I
  have := C.ex hi hk ne (colA A k) (colA A j)
  refine ⟨σ * wed ((B.set k (colA A k)).set i (colA A j)) (List.range n), ?_⟩
  rw [hM k k hk (by omega), hM i j hi hj, hM i k hi (by omega), hM k j hk hj, hd]
  generalize wed (B.set k (colA A k)) (List.range n) = p1 at this ⊢
  generalize wed (B.set i (colA A j)) (List.range n) = p2 at this ⊢
  generalize wed (B.set i (colA A k)) (List.range n) = p3 at this ⊢
  generalize wed (B.set k (colA A j)) (List.range n) = p4 at this ⊢
  generalize wed ((B.set k (colA A k)).set i (colA A j)) (List.range n) = p5 at this ⊢
  generalize wed B (List.range n) = p6 at this ⊢
  grind
theorem BInv.nz {n L k : Nat} {A M : Nat → Nat → Int} {d : Int} (I : BInv n A L k M d) : d ≠ 0 := by
  obtain ⟨σ, B, hs, C, hc, hd, nz, _⟩ := I
  exact nz
end
/-! ### stationary weights of a flow -/
section
theorem sumN_swap (f : Nat → Nat → Int) (n : Nat) : ∀ m, sumN m (fun i => sumN n fun j => f i j) = sumN n fun j => sumN m fun i => f i j
  | 0 => (sumN_zero n).symm
  | m + 1 => by
    show sumN m (fun i => sumN n fun j => f i j) + sumN n (fun j => f m j) = sumN n fun j => sumN m (fun i => f i j) + f m j
    rw [sumN_swap f n m, sumN_add]
theorem sumN_nn {f : Nat → Int} : ∀ {n : Nat}, (∀ m, m < n → 0 ≤ f m) → 0 ≤ sumN n f
  | 0, _ => Int.le_refl 0
  | n + 1, h => by
    unfold sumN
    have h1 := sumN_nn fun m hm => h m (Nat.lt_succ_of_lt hm)
    have h2 := h n (Nat.lt_succ_self n)
    omega
theorem sumN_mono {f g : Nat → Int} : ∀ {n : Nat}, (∀ m, m < n → f m ≤ g m) → sumN n f ≤ sumN n g
  | 0, _ => Int.le_refl 0
  | n + 1, h => by
    unfold sumN
    have h1 := sumN_mono fun m hm => h m (Nat.lt_succ_of_lt hm)
    have h2 := h n (Nat.lt_succ_self n)
    omega
theorem sumN_le {f : Nat → Int} {i : Nat} : ∀ {n : Nat}, (∀ m, m < n → 0 ≤ f m) → i < n → f i ≤ sumN n f
  | 0, _, h => absurd h (Nat.not_lt_zero _)
  | n + 1, h, hi => by
    unfold sumN
    by_cases e : i = n
    · have := sumN_nn fun m hm => h m (Nat.lt_succ_of_lt hm)
      rw [e]; omega
    · have h1 := sumN_le (i := i) (fun m hm => h m (Nat.lt_succ_of_lt hm)) (by omega)
      have h2 := h n (Nat.lt_succ_self n)
      omega
theorem sumN_z {f : Nat → Int} {n : Nat} (h : ∀ m, m < n → 0 ≤ f m) (z : sumN n f = 0) (m : Nat) (hm : m < n) : f m = 0 := by
  have h1 := sumN_le h hm
  have h2 := h m hm
  omega
theorem sumN_ex {f : Nat → Int} : ∀ {n : Nat}, sumN n f ≠ 0 → ∃ m, m < n ∧ f m ≠ 0
  | 0, h => absurd rfl h
  | n + 1, h => by
    by_cases e : f n = 0
    · obtain ⟨m, hm, h1⟩ := sumN_ex (f := f) (n := n) (fun z => h (by unfold sumN; rw [z, e]; rfl))
      exact ⟨m, by omega, h1⟩
    · exact ⟨n, by omega, e⟩
structure Flow (n : Nat) (c : Nat → Nat → Int) (W : Int) : Prop where
  nn : ∀ b e, b < n → e < n → 0 ≤ c b e
  row : ∀ b, b < n → sumN n (c b) = W
  W0 : 0 < W
def Stat (n : Nat) (c : Nat → Nat → Int) (W : Int) (z : Nat → Int) : Prop := ∀ e, e < n → sumN n (fun b => c b e * z b) = W * z e
def ClSet (n : Nat) (c : Nat → Nat → Int) (G : Nat → Prop) : Prop := ∀ b, b < n → G b → ∀ e, e < n → 0 < c b e → G e
variable {n : Nat} {c : Nat → Nat → Int} {W : Int}
theorem Flow.all (F : Flow n c W) (z : Nat → Int) : sumN n (fun e => sumN n (fun b => c b e * z b) - W * z e) = 0 := by
  rw [sumN_sub, sumN_mul, sumN_swap (fun e b => c b e * z b)]
  have e : (sumN n fun j => sumN n fun i => c j i * z j) = sumN n fun j => W * z j := sumN_congr fun j hj => by
    have : (fun i => c j i * z j) = fun i => z j * c j i := funext fun i => Int.mul_comm _ _
    rw [this, sumN_mul, F.row j hj, Int.mul_comm]
  rw [e, sumN_mul]
  omega
def posP (z : Nat → Int) : Nat → Int := fun b => if 0 < z b then z b else 0
theorem posP_nn (z : Nat → Int) (b : Nat) : 0 ≤ posP z b := by
  unfold posP
  split <;> omega
theorem posP_ge (z : Nat → Int) (b : Nat) : z b ≤ posP z b := by
  unfold posP
  split <;> omega
theorem posP_pos {z : Nat → Int} {b : Nat} : 0 < posP z b ↔ 0 < z b := by
  unfold posP
  split <;> omega
theorem Flow.pos (F : Flow n c W) {z : Nat → Int} (S : Stat n c W z) : Stat n c W (posP z) := by
  have nn : ∀ e, e < n → 0 ≤ sumN n (fun b => c b e * posP z b) - W * posP z e := fun e he => by
    have h1 : sumN n (fun b => c b e * z b) ≤ sumN n (fun b => c b e * posP z b) := sumN_mono fun b hb => Int.mul_le_mul_of_nonneg_left (posP_ge z b) (F.nn b e hb he)
    have h2 : 0 ≤ sumN n (fun b => c b e * posP z b) := sumN_nn fun b hb => Int.mul_nonneg (F.nn b e hb he) (posP_nn z b)
    have h3 := S e he
    by_cases p : 0 < z e
    · have : posP z e = z e := if_pos p
      rw [this]; omega
    · have : posP z e = 0 := if_neg p
      rw [this, Int.mul_zero]; omega
  intro e he
  have := sumN_z nn (F.all (posP z)) e he
  omega
theorem Flow.posCl (F : Flow n c W) {z : Nat → Int} (nz : ∀ b, b < n → 0 ≤ z b) (S : Stat n c W z) : ClSet n c (fun b => 0 < z b) := by
  intro b hb p e he ce
  show 0 < z e
  have h1 : c b e * z b ≤ sumN n (fun b => c b e * z b) := sumN_le (f := fun b => c b e * z b) (fun m hm => Int.mul_nonneg (F.nn m e hm he) (nz m hm)) hb
  rw [S e he] at h1
  have h2 : 0 < c b e * z b := Int.mul_pos ce p
  have h3 : 0 < W * z e := by omega
  have h4 := nz e he
  by_cases q : z e = 0
  · rw [q, Int.mul_zero] at h3; omega
  · omega
open Classical in
theorem Flow.off (F : Flow n c W) {z : Nat → Int} (nz : ∀ b, b < n → 0 ≤ z b) (S : Stat n c W z) {G : Nat → Prop} (hG : ClSet n c G) : Stat n c W (fun b => if G b then 0 else z b) := by
  have nn : ∀ e, e < n → 0 ≤ sumN n (fun b => c b e * (if G b then 0 else z b)) - W * (if G e then 0 else z e) := fun e he => by
    by_cases g : G e
    · rw [if_pos g, Int.mul_zero]
      have : 0 ≤ sumN n (fun b => c b e * (if G b then 0 else z b)) := sumN_nn fun b hb => Int.mul_nonneg (F.nn b e hb he) (by split; exact Int.le_refl 0; exact nz b hb)
      omega
    · rw [if_neg g, ← S e he]
      have : sumN n (fun b => c b e * (if G b then 0 else z b)) = sumN n (fun b => c b e * z b) := sumN_congr fun b hb => by
        by_cases gb : G b
        · have h0 : c b e = 0 := by
            have h1 := F.nn b e hb he
            by_cases p : 0 < c b e
            · exact absurd (hG b hb gb e he p) g
            · omega
          rw [h0, Int.zero_mul, Int.zero_mul]
        · rw [if_neg gb]
      omega
  intro e he
  have := sumN_z nn (F.all (fun b => if G b then 0 else z b)) e he
  show sumN n (fun b => c b e * (if G b then 0 else z b)) = W * (if G e then 0 else z e)
  omega
theorem Stat.neg {z : Nat → Int} (S : Stat n c W z) : Stat n c W (fun b => -z b) := by
  intro e he
  have h := S e he
  have : (fun b => c b e * -z b) = fun b => (-1) * (c b e * z b) := funext fun b => by grind
  show sumN n (fun b => c b e * -z b) = W * -z e
  rw [this, sumN_mul, h]
  grind
structure OneCl (n : Nat) (c : Nat → Nat → Int) (G : Nat → Prop) : Prop where
  cl : ClSet n c G
  some : ∃ b, b < n ∧ G b
  least : ∀ E : Nat → Prop, ClSet n c E → (∃ b, b < n ∧ E b) → ∀ b, b < n → G b → E b
variable {G : Nat → Prop}
open Classical in
theorem Flow.only (F : Flow n c W) (O : OneCl n c G) {z : Nat → Int} (nz : ∀ b, b < n → 0 ≤ z b) (S : Stat n c W z) : ∀ b, b < n → 0 < z b → G b := by
  intro b hb p
  apply byContradiction
  intro g
  have S2 := F.off nz S O.cl
  have C2 := F.posCl (fun e he => by show 0 ≤ (if G e then (0 : Int) else z e); split; exact Int.le_refl 0; exact nz e he) S2
  obtain ⟨q, hq, gq⟩ := O.some
  have h := O.least _ C2 ⟨b, hb, by show 0 < (if G b then (0 : Int) else z b); rw [if_neg g]; exact p⟩ q hq gq
  have h' : 0 < (if G q then (0 : Int) else z q) := h
  rw [if_pos gq] at h'
  omega
theorem Flow.supp (F : Flow n c W) (O : OneCl n c G) {z : Nat → Int} (nz : ∀ b, b < n → 0 ≤ z b) (S : Stat n c W z) (ne : ∃ b, b < n ∧ 0 < z b) : ∀ b, b < n → (0 < z b ↔ G b) := fun b hb =>
  ⟨F.only O nz S b hb, O.least _ (F.posCl nz S) ne b hb⟩
/-- not both above nought and below -/
theorem Flow.sign (F : Flow n c W) (O : OneCl n c G) {z : Nat → Int} (S : Stat n c W z) (p : ∃ b, b < n ∧ 0 < z b) : ∀ b, b < n → 0 ≤ z b := by
  intro b hb
  apply Classical.byContradiction
  intro h
  have s1 := F.supp O (fun b _ => posP_nn z b) (F.pos S) (by obtain ⟨b, hb, h⟩ := p; exact ⟨b, hb, posP_pos.mpr h⟩)
  have s2 := F.supp O (fun b _ => posP_nn (fun b => -z b) b) (F.pos S.neg) ⟨b, hb, posP_pos.mpr (by show 0 < -z b; omega)⟩
  obtain ⟨q, hq, gq⟩ := O.some
  have a1 := posP_pos.mp ((s1 q hq).mpr gq)
  have a2 : 0 < -z q := posP_pos.mp ((s2 q hq).mpr gq)
  omega
theorem Flow.inj (F : Flow n c W) (O : OneCl n c G) {z : Nat → Int} (S : Stat n c W z) (z0 : sumN n z = 0) : ∀ b, b < n → z b = 0 := by
  intro b hb
  by_cases p : ∃ b, b < n ∧ 0 < z b
  · exact sumN_z (F.sign O S p) z0 b hb
  · by_cases p2 : ∃ b, b < n ∧ 0 < -z b
    · have h := F.sign O S.neg p2
      have e : sumN n (fun b => -z b) = 0 := by
        have : (fun b => -z b) = fun b => (-1) * z b := funext fun b => by omega
        rw [this, sumN_mul, z0]; rfl
      have := sumN_z h e b hb
      have h2 : -z b = 0 := this
      omega
    · have h1 : ¬ 0 < z b := fun h => p ⟨b, hb, h⟩
      have h2 : ¬ 0 < -z b := fun h => p2 ⟨b, hb, h⟩
      omega
/-! ### the balance -/
def balA (n : Nat) (c : Nat → Nat → Int) (W : Int) (r m : Nat) : Int := if r + 1 < n then (if m = n then 0 else if m = r then c m r - W else c m r) else 1
theorem bal_row {r : Nat} (h : r + 1 < n) (z : Nat → Int) : sumN n (fun m => balA n c W r m * z m) = sumN n (fun m => c m r * z m) - W * z r := by
  have e : sumN n (fun m => balA n c W r m * z m) = sumN n (fun m => c m r * z m - (if m = r then W * z r else 0)) := sumN_congr fun m hm => by
    unfold balA
    rw [if_pos h, if_neg (by omega)]
    by_cases q : m = r
    · rw [if_pos q, if_pos q, q]; grind
    · rw [if_neg q, if_neg q]; omega
  rw [e, sumN_sub, sumN_one (i := r) (by omega) (fun m _ q => if_neg q), if_pos rfl]
theorem bal_last {r : Nat} (h : ¬ r + 1 < n) (z : Nat → Int) : sumN n (fun m => balA n c W r m * z m) = sumN n z := by
  refine sumN_congr fun m hm => ?_
  unfold balA
  rw [if_neg h]
  omega
theorem sumN_rest {u : Nat → Int} (h : sumN n u = 0) (z : ∀ e, e + 1 < n → u e = 0) : ∀ e, e < n → u e = 0 := by
  intro e he
  by_cases q : e + 1 < n
  · exact z e q
  · have : sumN n u = u e := sumN_one he fun m hm ne => z m (by omega)
    omega
theorem bal_stat (F : Flow n c W) {z : Nat → Int} (h : ∀ r, r + 1 < n → sumN n (fun m => balA n c W r m * z m) = 0) : Stat n c W z := by
  have := sumN_rest (F.all z) fun e he => by
    have := h e he
    rw [bal_row he] at this
    exact this
  intro e he
  have := this e he
  omega
theorem bal_inj (F : Flow n c W) (O : OneCl n c G) (z : Nat → Int) (h : ∀ r, r < n → sumN n (fun m => balA n c W r m * z m) = 0) : ∀ m, m < n → z m = 0 := by
  have n0 : 0 < n := by obtain ⟨b, hb, _⟩ := O.some; omega
  refine F.inj O (bal_stat F fun r hr => h r (by omega)) ?_
  have := h (n - 1) (by omega)
  rw [bal_last (by omega)] at this
  exact this
theorem bal_sol (F : Flow n c W) (O : OneCl n c G) {X : Nat → Int} {d : Int} (d0 : d ≠ 0) (h : ∀ r, r < n → sumN n (fun m => balA n c W r m * X m) = d * balA n c W r n) :
    ∃ (z : Nat → Int) (t : Int), 0 < t ∧ ((t = d ∧ z = X) ∨ (t = -d ∧ z = fun m => -X m)) ∧ Stat n c W z ∧ sumN n z = t ∧ (∀ b, b < n → 0 ≤ z b) ∧ ∀ b, b < n → (0 < z b ↔ G b) := by
  have n0 : 0 < n := by obtain ⟨b, hb, _⟩ := O.some; omega
  have S : Stat n c W X := bal_stat F fun r hr => by
    rw [h r (by omega)]
    unfold balA
    rw [if_pos hr, if_pos rfl, Int.mul_zero]
  have e : sumN n X = d := by
    have := h (n - 1) (by omega)
    rw [bal_last (by omega)] at this
    rw [this]
    unfold balA
    rw [if_neg (by omega), Int.mul_one]
  have key : ∀ (z : Nat → Int) (t : Int), 0 < t → Stat n c W z → sumN n z = t → (∀ b, b < n → 0 ≤ z b) ∧ ∀ b, b < n → (0 < z b ↔ G b) := fun z t t0 Sz ez => by
    have p : ∃ b, b < n ∧ 0 < z b := by
      apply Classical.byContradiction
      intro hn
      have h1 : 0 ≤ sumN n (fun b => -z b) := sumN_nn fun b hb => by
        have : ¬ 0 < z b := fun h => hn ⟨b, hb, h⟩
        omega
      have : (fun b => -z b) = fun b => (-1) * z b := funext fun b => by omega
      rw [this, sumN_mul] at h1
      omega
    exact ⟨F.sign O Sz p, F.supp O (F.sign O Sz p) Sz p⟩
  by_cases dp : 0 < d
  · obtain ⟨k1, k2⟩ := key X d dp S e
    exact ⟨X, d, dp, .inl ⟨rfl, rfl⟩, S, e, k1, k2⟩
  · have e2 : sumN n (fun b => -X b) = -d := by
      have : (fun b => -X b) = fun b => (-1) * X b := funext fun b => by omega
      rw [this, sumN_mul, e]
      omega
    obtain ⟨k1, k2⟩ := key _ (-d) (by omega) S.neg e2
    exact ⟨_, -d, by omega, .inr ⟨rfl, rfl⟩, S.neg, e2, k1, k2⟩
theorem l1_sum (v : Ve) : ∀ n : Nat, ((l1 (List.range n) v : Nat) : Int) = sumN n fun r => ((v r).natAbs : Int)
  | 0 => rfl
  | n + 1 => by
    have h := l1_sum v n
    unfold l1 at h ⊢
    rw [List.range_succ, List.map_append, List.sum_append]
    show _ = sumN n (fun r => ((v r).natAbs : Int)) + ((v n).natAbs : Int)
    rw [← h]
    simp
theorem bal_l1 (F : Flow n c W) {K : Nat} (hK : 2 * W + 1 ≤ (K : Int)) : ∀ j, j ≤ n → l1 (List.range n) (colA (balA n c W) j) ≤ K := by
  intro j hj
  have h : ((l1 (List.range n) (colA (balA n c W) j) : Nat) : Int) ≤ 2 * W + 1 := by
    rw [l1_sum]
    have last : ∀ g : Nat → Int, (∀ r, r < n → 0 ≤ g r) → sumN n (fun r => g r + (if r + 1 = n then 1 else 0)) ≤ sumN n g + 1 := fun g hg => by
      rw [sumN_add]
      by_cases n0 : 0 < n
      · rw [sumN_one (i := n - 1) (by omega) (fun m _ q => if_neg (by omega)), if_pos (by omega)]
        omega
      · have : n = 0 := by omega
        subst this
        show (0 : Int) + 0 ≤ 0 + 1
        decide
    by_cases e : j = n
    · have h1 : (sumN n fun r => ((colA (balA n c W) j r).natAbs : Int)) ≤ sumN n (fun r => 0 + (if r + 1 = n then 1 else 0)) := sumN_mono fun r hr => by
        show ((balA n c W r j).natAbs : Int) ≤ _
        unfold balA
        by_cases q : r + 1 < n
        · rw [if_pos q, if_pos e, if_neg (by omega)]; decide
        · rw [if_neg q, if_pos (by omega)]; decide
      have h2 := last (fun _ => 0) fun _ _ => Int.le_refl 0
      rw [sumN_zero] at h2
      have := F.W0
      omega
    · have hj' : j < n := by omega
      have h1 : (sumN n fun r => ((colA (balA n c W) j r).natAbs : Int)) ≤ sumN n (fun r => (c j r + (if r = j then W else 0)) + (if r + 1 = n then 1 else 0)) := sumN_mono fun r hr => by
        show ((balA n c W r j).natAbs : Int) ≤ _
        have p := F.nn j r hj' hr
        have w := F.W0
        unfold balA
        by_cases q : r + 1 < n
        · rw [if_pos q, if_neg e, if_neg (show ¬ r + 1 = n by omega)]
          by_cases q2 : j = r
          · rw [if_pos q2, if_pos q2.symm]; omega
          · rw [if_neg q2, if_neg (Ne.symm q2)]; omega
        · rw [if_neg q, if_pos (show r + 1 = n by omega)]
          by_cases q2 : r = j
          · rw [if_pos q2]; omega
          · rw [if_neg q2]; omega
      have h2 := last (fun r => c j r + (if r = j then W else 0)) fun r hr => by
        have p := F.nn j r hj' hr
        have w := F.W0
        by_cases q2 : r = j
        · rw [if_pos q2]; omega
        · rw [if_neg q2]; omega
      have h3 : sumN n (fun r => c j r + (if r = j then W else 0)) = W + W := by
        rw [sumN_add, show sumN n (fun r => c j r) = W from F.row j hj', sumN_one (i := j) hj' (fun m _ q => if_neg q), if_pos rfl]
      rw [h3] at h2
      omega
  omega
end
section
variable {X : Cx}
/-- a // b, b any but 0 -/
def CDivZ (i j : Int) : Prop := j ≠ 0 ∧ j.natAbs.log2 < 9000
theorem op_fdivZ : OpR X (binaryOp .FloorDiv) (rI CDivZ fun i j => .int (i.fdiv j)) := opI fun i j _ _ _ _ _ hc q => by
  have h1 : j ≠ 0 := hc.1
  exact floordiv_int h1 q (.inl (PyProof.noPylong_of_log2 hc.2))
theorem div_ok {i j : Int} {b : Nat} (h : j ≠ 0) (hb : j.natAbs < 2 ^ b) (h0 : 0 < b) (h9 : b ≤ 9000) : CDivZ i j := ⟨h, Nat.lt_of_lt_of_le (PySem.Flt.log2_lt_of h0 hb) h9⟩
end
/-! ### fractions: the mathematics -/
def gcdI (x y : Int) : Int := ((Nat.gcd x.natAbs y.natAbs : Nat) : Int)
def frac (x y : Int) : Int × Int := (x / gcdI x y, y / gcdI x y)
theorem gcdI_pos {x y : Int} (h : 0 < y) : 0 < gcdI x y := by
  unfold gcdI
  have : 0 < Nat.gcd x.natAbs y.natAbs := Nat.gcd_pos_of_pos_right _ (by omega)
  omega
theorem gcdI_dl (x y : Int) : gcdI x y ∣ x := by
  unfold gcdI
  exact Int.ofNat_dvd_left.mpr (Nat.gcd_dvd_left _ _)
theorem gcdI_dr (x y : Int) : gcdI x y ∣ y := by
  unfold gcdI
  exact Int.ofNat_dvd_left.mpr (Nat.gcd_dvd_right _ _)
theorem gcdI_scale {k : Int} (hk : 0 < k) (x y : Int) : gcdI (k * x) (k * y) = k * gcdI x y := by
  unfold gcdI
  rw [Int.natAbs_mul, Int.natAbs_mul, Nat.gcd_mul_left]
  have : ((k.natAbs : Nat) : Int) = k := by omega
  rw [Int.natCast_mul, this]
theorem frac_scale {k : Int} (hk : 0 < k) (x y : Int) : frac (k * x) (k * y) = frac x y := by
  unfold frac
  rw [gcdI_scale hk, Int.mul_ediv_mul_of_pos _ _ hk, Int.mul_ediv_mul_of_pos _ _ hk]
theorem frac_l (x y : Int) : gcdI x y * (frac x y).1 = x := Int.mul_ediv_cancel' (gcdI_dl x y)
theorem frac_r (x y : Int) : gcdI x y * (frac x y).2 = y := Int.mul_ediv_cancel' (gcdI_dr x y)
theorem frac_pos {x y : Int} (h : 0 < y) : 0 < (frac x y).2 := by
  have h1 := frac_r x y
  have h2 := gcdI_pos (x := x) h
  refine Int.not_le.mp fun hn => ?_
  have h3 := Int.mul_le_mul_of_nonneg_left hn (Int.le_of_lt h2)
  rw [h1, Int.mul_zero] at h3
  omega
theorem frac_le {x y : Int} (h : 0 < y) : (frac x y).2 ≤ y := by
  have h1 := frac_r x y
  have h2 := gcdI_pos (x := x) h
  have h3 := frac_pos (x := x) h
  have h4 : 1 * (frac x y).2 ≤ gcdI x y * (frac x y).2 := Int.mul_le_mul_of_nonneg_right (by omega) (by omega)
  omega
theorem frac_nn {x y : Int} (hx : 0 ≤ x) (h : 0 < y) : 0 ≤ (frac x y).1 := Int.ediv_nonneg hx (Int.le_of_lt (gcdI_pos h))
theorem frac_top {x y : Int} (hx : 0 ≤ x) (h : 0 < y) : (frac x y).1 ≤ x := Int.ediv_le_self _ hx
theorem frac_idem {x y : Int} (h : 0 < y) : frac (frac x y).1 (frac x y).2 = frac x y := by
  have h2 := gcdI_pos (x := x) h
  have e := frac_scale h2 (frac x y).1 (frac x y).2
  rw [frac_l, frac_r] at e
  exact e.symm
/-- the sum of two fractions of one bottom -/
theorem frac_add {x y z : Int} (h : 0 < z) : frac ((frac x z).1 * (frac y z).2 + (frac y z).1 * (frac x z).2) ((frac x z).2 * (frac y z).2) = frac (x + y) z := by
  have g1 := gcdI_pos (x := x) h
  have g2 := gcdI_pos (x := y) h
  have e1 := frac_l x z
  have e2 := frac_r x z
  have e3 := frac_l y z
  have e4 := frac_r y z
  generalize (frac x z).1 = a at *
  generalize (frac x z).2 = b at *
  generalize (frac y z).1 = c at *
  generalize (frac y z).2 = d at *
  generalize gcdI x z = k at *
  generalize gcdI y z = l at *
  rw [← frac_scale (Int.mul_pos g1 g2)]
  have f1 : k * l * (a * d + c * b) = z * (x + y) := by
    have : k * l * (a * d + c * b) = (k * a) * (l * d) + (l * c) * (k * b) := by
      rw [Int.mul_add]
      congr 1
      · ac_rfl
      · ac_rfl
    rw [this, e1, e4, e3, e2, Int.mul_add, Int.mul_comm x z, Int.mul_comm y z]
  have f2 : k * l * (b * d) = z * z := by
    have : k * l * (b * d) = (k * b) * (l * d) := by ac_rfl
    rw [this, e2, e4]
  rw [f1, f2]
  exact frac_scale h _ _
theorem frac_self {z : Int} (h : 0 < z) : frac z z = (1, 1) := by
  have e := frac_scale h 1 1
  rw [Int.mul_one] at e
  rw [e]
  decide
theorem frac_zero {z : Int} (h : 0 < z) : frac 0 z = (0, 1) := by
  have e := frac_scale h 0 1
  rw [Int.mul_one, Int.mul_zero] at e
  rw [e]
  decide
/-- the steps of the law's own reckoning keep the greatest divisor -/
theorem gcdI_step {x y : Int} (hx : 0 ≤ x) (hy : 0 < y) : gcdI y (x % y) = gcdI x y := by
  unfold gcdI
  have h1 : (x % y).natAbs = x.natAbs % y.natAbs := Int.natAbs_emod_of_nonneg hx y |> fun z => z
  rw [h1]
  congr 1
  rw [Nat.gcd_comm, ← Nat.gcd_rec, Nat.gcd_comm]
theorem gcdI_zero {x : Int} (hx : 0 ≤ x) : gcdI x 0 = x := by
  unfold gcdI
  rw [show (0 : Int).natAbs = 0 from rfl, Nat.gcd_zero_right]
  omega
theorem gcdI_abs (x y : Int) : gcdI (if x < 0 then -x else x) y = gcdI x y := by
  unfold gcdI
  congr 2
  split <;> omega

/-! ### enumerate(a tuple): a rule of our own -/
set_option maxHeartbeats 1000000 in
theorem enum_new1 {v : Value} {o : Obj} {Hc : Heap → Prop} (B : Begins v o Hc) : Meets (Builtin.«enumerate.__new__» ⟨[.type "enumerate", v], []⟩) (fun _ R s => Hc s.heap ∧
    R (.ok (.ret (.ref (s.heap.push o).objs.size))) { s with heap := (s.heap.push o).push { cls := .type "enumerate", data := .fields #[.none, .bool false, .ref s.heap.objs.size, rawInt 0, .none, .none] } }) := by
  refine .of_wp fun prog w A R s hR => ?_
  obtain ⟨hp, gn, dr, tk, os⟩ := s
  obtain ⟨hc, hR⟩ := hR
  have subE := sub_enumerate
  have begin_ : ∀ {A' : Around} {E Q : Value → Shared → Prop}, Q (.ref hp.objs.size) ⟨hp.push o, gn, dr, tk, os⟩ → wpAny (model prog w) A' (pyIter v) Q E ⟨hp, gn, dr, tk, os⟩ := fun q => B.iter prog w _ _ ⟨hp, gn, dr, tk, os⟩ _ hc q
  wp_walk using begin_
  refine wpAny_stack_any fun st => wpAny_pure ?_
  split
  case h_1 c _ _ _ _ _ =>
    cases (c == Value.type "enumerate") <;> (wp_walk using begin_; exact ⟨_, rfl, hR⟩)
  all_goals (wp_walk using begin_; exact ⟨_, rfl, hR⟩)
theorem call_enum1 {prog : Program} {w : World} {A : Around} {E : Value → Shared → Prop} {s : Shared} {v : Value} {o : Obj} {Hc : Heap → Prop} {Q : Value → Shared → Prop} (B : Begins v o Hc) (hc : Hc s.heap)
    (h : ∀ h', IsEnum h' (s.heap.objs.size + 1) s.heap.objs.size 0 .none → h'.get? s.heap.objs.size = some o → (∀ b u, s.heap.get? b = some u → h'.get? b = some u) → Q (.ref (s.heap.objs.size + 1)) { s with heap := h' }) :
    wpAny (model prog w) A (call (.type "enumerate") [v]) Q E s := by
  refine callType_new F.called_enumerate (by decide) (F.typeCall_enumerate_1 _) (F.newCall_enumerate_1 _) (fun obj => F.args_object_init_2 obj _) F.entry_enumerate_new (enum_new1 B) ⟨hc, ?_⟩
  have sz : (s.heap.push o).objs.size = s.heap.objs.size + 1 := Heap.size_push ..
  have e1 := Heap.get?_push_size (s.heap.push o) (o := { cls := .type "enumerate", data := .fields #[.none, .bool false, .ref s.heap.objs.size, rawInt 0, .none, .none] }) rfl
  rw [sz] at e1
  show _ ∧ _
  rw [sz]
  exact ⟨⟨_, e1, rfl⟩, h _ e1 (Heap.get?_push_of_some _ (Heap.get?_push_size _ B.free)) fun b u e => Heap.get?_push_of_some _ (Heap.get?_push_of_some _ e)⟩
/-- the tuple at a, each item in a new pair -/
def ItEt (K : PySem.W.Frag) (a : Addr) : It :=
  ⟨fun i H => ∃ (xs : List V) (x : V), SqT K H a xs ∧ xs[i]? = some x, fun i H v H' => ∃ T x, v = .ref T ∧ H T = none ∧ H' = upd H T (.tup [.int (i : Nat), x]) ∧ ∀ xs, SqT K H a xs → xs[i]? = some x, fun i H => ∃ xs : List V, SqT K H a xs ∧ xs.length = i⟩
theorem turn_enumT {P : Program} {w : World} {K : PySem.W.Frag} {elts : List Expr} {kk : Nat} {tpos : Pos} (a e it : Addr) :
    Turn P w K (.Tuple elts kk tpos) (ItEt K a) [e, it] e (fun i h => (∃ old, IsEnum h e it ((i : Nat) : Int) old) ∧ h.IsTupleIter it a i ∧ e ≠ it ∧ a ≠ it ∧ a ≠ e) where
  mem := List.mem_cons_self
  obj := fun i h ⟨⟨old, he⟩, ⟨o, ho, _, hd⟩, _⟩ b hb => by
    rcases List.mem_cons.mp hb with z | z
    · subst z
      exact ⟨_, he, fun v q => nomatch q⟩
    · have z2 : b = it := by simpa using z
      subst z2
      exact ⟨o, ho, fun v q => by rw [hd] at q; cases q⟩
  keep := fun i h h' ⟨⟨old, he⟩, ⟨o, ho, r⟩, hne⟩ k => ⟨⟨old, k e List.mem_cons_self _ he⟩, ⟨o, k it (by simp) o ho, r⟩, hne⟩
  item := by
    intro X hP hw hK hc i pins s σ H E I hf ⟨⟨old, he⟩, hit, hne, nai, nae⟩ ⟨xs, x, hq, hx⟩
    subst hP hw hK
    obtain ⟨its, rv, tp, hz⟩ := I.tuple hq
    have tp1 : s.heap.IsTuple a its.toArray := tp
    obtain ⟨u, hu, ru⟩ := rv.get hx
    have lte : e < s.heap.objs.size := Heap.lt_size he
    have lti : it < s.heap.objs.size := let ⟨_, q, _⟩ := hit; Heap.lt_size q
    have hh : X.A.in1.handled = none := I.ok.hd hc
    have Dr := Draws.tuple (prog := X.prog) (w := X.w) hh it a nai its.toArray
    have hlt : i < its.toArray.size := by
      obtain ⟨q, _⟩ := List.getElem?_eq_some_iff.mp hu
      simpa using q
    refine wpAny_pyNext_enum_itemD Dr he ⟨hit, tp1⟩ hlt hne (by simp [hne, Ne.symm nae]) fun x' h' tk hP ho ⟨hit', _⟩ hT hsz hk => ⟨_, rfl, wpAny_letOwnedTupleGo_enum (s := { s with heap := h', toks := tk + 1 }) ho fun h2 he2 sb => ?_⟩
    have ex' : x' = u := by
      have q : its[i]? = some x' := by simpa using hP
      rw [hu] at q
      exact (Option.some.inj q).symm
    subst ex'
    have hT2 : h2.get? s.heap.objs.size = some { cls := .type "tuple", data := .seq #[.int i tk, x'] } := (sb.2 _ (Nat.ne_of_gt lte)).trans hT
    have new : ObjOk X.prog X.w (upd H s.heap.objs.size (.tup [.int (i : Nat), x])) h2 s.heap.objs.size (.tup [.int (i : Nat), x]) := ⟨by show 2 ≤ sizeLine; decide, [.int i tk, x'], .cons ⟨_, rfl⟩ (.cons ru .nil), ⟨_, hT2, rfl, _, rfl⟩⟩
    have I1 : Inv X pins σ (upd H s.heap.objs.size (.tup [.int (i : Nat), x])) { s with heap := h2, toks := tk + 1 } :=
      I.turnedNew (ch := [e, it]) (fun b ob hb q => (sb.2 b (fun z => hb (by simp [z]))).trans (hk b ob (fun z => hb (by simp [z])) (fun z => hb (by simp [z])) q)) hf (Nat.le_refl _) new
    refine ⟨.ref s.heap.objs.size, _, I1, rfl, ⟨_, x, rfl, I.hok.fresh (Nat.le_refl _), rfl, fun ys hy => by rw [I.tuple_inj hy hq]; exact hx⟩, ⟨⟨x', ?_⟩, ?_, hne, nai, nae⟩, fun b hb => ?_⟩
    · rw [show ((i + 1 : Nat) : Int) = (i : Int) + 1 by omega]
      exact he2
    · obtain ⟨o, q1, q2⟩ := hit'
      exact ⟨o, (sb.2 it (Ne.symm hne)).trans q1, q2⟩
    · have ltb : b < s.heap.objs.size := by
        rcases List.mem_cons.mp hb with z | z
        · rw [z]
          exact lte
        · have z2 : b = it := by simpa using z
          rw [z2]
          exact lti
      rw [upd_ne (Nat.ne_of_lt ltb)]
      exact (hf b hb).1
  done := by
    intro X hP hw hK hc i pins s σ H E I hf ⟨⟨old, he⟩, hit, hne, nai, nae⟩ ⟨xs, hq, hx⟩
    subst hP hw hK
    obtain ⟨its, rv, tp, hz⟩ := I.tuple hq
    have tp1 : s.heap.IsTuple a its.toArray := tp
    have hh : X.A.in1.handled = none := I.ok.hd hc
    have Dr := Draws.tuple (prog := X.prog) (w := X.w) hh it a nai its.toArray
    have en : i = its.toArray.size := by
      have := rv.length
      simp only [List.size_toArray]
      omega
    subst en
    obtain ⟨f0, f1, f2, f3, f4, f5⟩ := hf it (by simp)
    exact wpAny_pyNext_enum_endD Dr he ⟨hit, tp1⟩ fun h' eb => ⟨rfl, I.turned (t' := s.toks) (fun b o hb q => eb b o hb q) f0 f1 f3 f4 f5⟩
  self := fun A i s Q E ⟨⟨_, he⟩, _⟩ h => wpAny_pyIter_enum he h
def iEnumT (K : PySem.W.Frag) (ta : TA) : TI := fun σ H R => ta σ H fun vs H1 => ∃ a xs, vs = [.ref a] ∧ SqT K H1 a xs ∧ R (ItEt K a) H1
theorem pi_enumT {X : Cx} {e : Expr} {ta : TA} {p pos tpos : Pos} {elts : List Expr} {kk : Nat} (hg : Gl X "enumerate") (hm : X.mg "enumerate" = none) (ha : PA X [e] ta) (hs : starEach [e] X.env = [(false, eval e X.env)] := by rfl) :
    PI X (.Tuple elts kk tpos) (.Call (.Name "enumerate" p) [e] [] pos) (iEnumT X.K ta) := by
  refine ⟨fun pins s σ H R I h => Call_ (ld_blt I hg hm boot_enumerate (PyProof.Rows.callWith_type1 (thn (ha.run pos pins s σ H _ I h) fun us s1 hq => ?_) hs rfl))⟩
  obtain ⟨vs, H1, I1, r1, a, xs, ex, hq, q⟩ := hq
  subst ex
  cases r1 with
  | cons r rr =>
    cases rr
    cases r
    obtain ⟨its, rv, tp, hz⟩ := I1.tuple hq
    have tp1 : s1.heap.IsTuple a its.toArray := tp
    have lta : a < s1.heap.objs.size := let ⟨_, g, _⟩ := tp1; Heap.lt_size g
    refine call_enum1 (begins_tuple a its.toArray) tp1 fun h' he hit hk => wpAny_pyIter_enum he ?_
    refine ⟨s1.heap.objs.size + 1, [s1.heap.objs.size + 1, s1.heap.objs.size], _, _, H1, rfl, I1.kept (t' := s1.toks) hk, turn_enumT a (s1.heap.objs.size + 1) s1.heap.objs.size, ⟨⟨.none, he⟩, ⟨_, hit, rfl, rfl⟩, Nat.succ_ne_self _, Nat.ne_of_lt lta, Nat.ne_of_lt (Nat.lt_succ_of_lt lta)⟩, fun b hb => ?_, q⟩
    have hle : s1.heap.objs.size ≤ b := by
      rcases List.mem_cons.mp hb with z | z
      · rw [z]
        exact Nat.le_succ _
      · have z2 : b = s1.heap.objs.size := by simpa using z
        rw [z2]
        exact Nat.le_refl _
    exact I1.fpOk hle (I1.hok.fresh hle)
theorem walk_enumT {K : PySem.W.Frag} {a : Addr} {xs : List V} : Walk (ItEt K a) xs.length (fun H => SqT K H a xs) (YPair (fun i => some (.int (i : Nat))) (fun i => xs[i]?)) :=
  ⟨fun i _ hi q => ⟨xs, xs[i], q, by simp [hi]⟩, fun _ q => ⟨xs, q, rfl⟩, fun i H v H' _ q ⟨T, x, h1, h2, h3, h4⟩ => ⟨T, .int (i : Nat), x, h1, h2, h3, rfl, h4 xs q⟩⟩
section
open PySem.W PySem.Calls NdefX
/-! ### an own error whose __init__ begins with super().__init__(..) -/
theorem inv_pin {X : Cx} {σ : L2.St} {H : Hp} {s : Shared} {u : Addr} {o : Obj} (I : Inv X [] σ H s) (hu : s.heap.get? u = some o) (n : H u = none) (nl : u ≠ X.env.locals) (nf : u ∉ X.fs) (nc : ∀ v, o.data ≠ .cell v) : Inv X [(u, o)] σ H s :=
  ⟨I.ok, I.os, I.bare, I.base, I.loc, I.cell, I.free, I.freeC, fun p hp => by
    rcases List.mem_append.mp hp with hp | hp
    · exact I.pin p (List.mem_append_left _ hp)
    · rw [List.mem_singleton.mp hp]
      exact ⟨hu, n, nl, nf, nc⟩, I.hok, I.len⟩
theorem inv_unpin {X : Cx} {σ : L2.St} {H : Hp} {s : Shared} {pins : List (Addr × Obj)} (I : Inv X pins σ H s) : Inv X [] σ H s := by
  refine ⟨I.ok, I.os, I.bare, I.base, I.loc, I.cell, I.free, I.freeC, fun p hp => ?_, I.hok, I.len⟩
  rw [List.append_nil] at hp
  exact I.pin p (List.mem_append_left _ hp)
def oexB (K : PySem.W.Frag) (C : Addr) : Bool := match K.lookup C with
  | some ⟨.type "type", _, .cls cd, sl⟩ => (match cd.mro, sl.toList with
    | .ref C' :: bm, [_, _, _, _, some (.builtin n), _] => C' == C && n == "ValueError.__new__" && !cd.hasDel && cd.hasDict && PySem.HandSPX.refsVE bm
    | _, _ => false)
  | _ => false
theorem oexB_ok {K : PySem.W.Frag} {C : Addr} (q : oexB K C = true) (h1 : PySem.W.findIn K (.ref C) "__setattr__" = some (some (.builtin "object.__setattr__"))) (h2 : PySem.W.subIn K (.ref C) (.type "BaseException") = some true) (h3 : PySem.W.typeIn K (.ref C) = some (.type "type")) (h4 : PySem.W.keepIn K (.ref C) = true) : OexC K C := by
  refine ⟨?_, h1, h2, h3, h4⟩
  unfold oexB at q
  split at q
  · rename_i dd cd sl ho
    split at q
    · rename_i C' bm k0 k1 k2 k3 n k5 hm hs
      simp only [Bool.and_eq_true, beq_iff_eq, Bool.not_eq_true'] at q
      obtain ⟨⟨⟨⟨rfl, rfl⟩, hdel⟩, hdict⟩, hr⟩ := q
      obtain ⟨nm, bs, mro, ns, qn, hd, sn, sub, ab, col, del⟩ := cd
      dsimp only at hm hdel hdict
      subst hm hdel hdict
      have hsl : sl = #[k0, k1, k2, k3, some (.builtin "ValueError.__new__"), k5] := by
        obtain ⟨l⟩ := sl
        simp only at hs
        rw [hs]
      subst hsl
      exact ⟨nm, qn, ns, bs, bm, sn, sub, ab, col, dd, k0, k1, k2, k3, k5, ho, hr⟩
    · cases q
  · cases q
structure SupE (P : Program) (K : PySem.W.Frag) (C cc cda : Addr) : Prop where
  X : OexC K C
  code : ∃ ccl cdd vs ccs file tf, K.lookup cda = some ⟨ccl, cdd, .fields vs, ccs⟩ ∧ vs[2]? = some (.str file tf) ∧ ((P.main.file : Str) == file) = true
  cell : ∃ cl cld csl, K.lookup cc = some ⟨cl, cld, .cell (some (.ref C)), csl⟩
  cls : ∃ cd, clsIn K C = some cd
  sub : mroIn K C (.ref C) = some true
  gs : nsIn K mainGlobals "super" = some none
  htop : (P.main.scope.names.lookup ("super" : Str)).isSome = false
  op : nsIn K cStatics "thirdparty.any" = some none
  al : ks_superIn K C C "__init__" = some (some (.builtin "ValueError.__init__"))
  ve : subIn K (.ref C) (.type "ValueError") = some true
variable {CX : CXT} {P : Program} {w : World} {K : PySem.W.Frag} {mg : Str → Option Value} {base : Heap}
/-- super().__init__ of a def: what comes of the name -/
theorem sup_method {X : Cx} {σ : L2.St} {H : Hp} {s : Shared} {C cc cda f x : Addr} {qual : Str} {scope : Scope} {body : List Stmt} {p0 p1 : Pos} {whole : Sem Value} {fd : FuncData} {ar : Arg} {oc : Value} {od : Option Addr} {osl : Array (Option Value)} {pl : Sem Bool} {Q : Value × List Value → Shared → Prop}
    (T : SupE X.prog X.K C cc cda) (I : Inv X [] σ H s) (henv : X.env = envX qual scope s_loc f (.ref cda) [("__class__", cc)])
    (lk : X.K.lookup f = some ⟨oc, od, .func fd, osl⟩) (hp : (fd.params.posonlyargs ++ fd.params.args).head? = some ar) (hN : X.N[0]? = some ar.arg) (hσ : σ[0]? = some (some (.ref x))) (hx : H x = some (exo x C none))
    (hks : scope.names.lookup ("super" : Str) = some .globalImplicit) (hkc : scope.names.lookup ("__class__" : Str) = some .free) (hka : scope.names.lookup ar.arg = some .local)
    (q : ∀ u s', u ≠ x → s'.heap.get? u = some (kxs_mw "ValueError.__init__" x) → Inv X [(u, kxs_mw "ValueError.__init__" x)] σ H s' → Q (.ref u, []) s') :
    PySem.wpAt (model X.prog X.w) X.A (.func body X.env) (attributeBase (.Call (.Name "super" p0) [] [] p1) "__init__" X.env whole) (fun ov s₁ => wpAny (model X.prog X.w) X.A (getMethod ov "__init__" pl) Q X.xe s₁) X.xe s := by
  obtain ⟨ccl, cdd, vs, ccs, file, tf, hc1, hc2, hc3⟩ := T.code
  obtain ⟨cl, cld, csl, hcell⟩ := T.cell
  obtain ⟨cd, hcd⟩ := T.cls
  have KX := I.kIn
  obtain ⟨oD, hD1, hD2⟩ : ∃ oD, s.heap.get? C = some oD ∧ oD.data = .cls cd := by
    have hD := hcd
    unfold clsIn at hD
    split at hD
    · rename_i c d cd' sl ho
      cases hD
      exact ⟨_, KX _ _ ho, rfl⟩
    · cases hD
  obtain ⟨t1, ho⟩ := exo_at I.hok hx
  have J : InstAt s.heap x _ C none := ⟨ho, rfl, rfl, trivial⟩
  obtain ⟨m, hns, hl⟩ := I.loc
  have hks' : X.env.kindOf "super" = some .globalImplicit := by rw [henv]; exact hks
  have hkc' : X.env.kindOf "__class__" = some .free := by rw [henv]; exact hkc
  have hka' : X.env.kindOf ar.arg = some .local := by rw [henv]; exact hka
  have hscn : X.env.scope.names = scope.names := by rw [henv]
  have hv : m ar.arg = some (.ref x) := by
    obtain ⟨u, ru, lu⟩ := hl 0 ar.arg (.ref x) hN hσ (.inl (by show X.env.scope.names.lookup ar.arg = _; rw [hscn]; exact hka))
    have eu : u = .ref x := ru
    subst eu
    rcases lu with ⟨_, h⟩ | ⟨h, _⟩
    · exact h
    · rw [hka'] at h
      rcases h with h | h <;> cases h
  obtain ⟨mb, hmb, hmb2⟩ := I.ok.mod.blt
  refine ks_wpAt_super_base (env := X.env) hks' hkc' (by decide) (by rw [henv]) (KX _ _ lk) rfl hp (by rw [henv]) (KX _ _ hc1) rfl hc2 hc3 T.htop ?_
  have hsc : X.env.scope.kind = .function := I.ok.kind
  refine ks_loadName_global hsc hks' (loadGlobal_builtin (env := X.env) (by rw [I.ok.glob]; exact I.ok.mod.glob.keeps I.bk) (mg_none_of I.ok.mod.kin I.ok.mod.glob T.gs) (by rw [I.ok.blt]; exact hmb.keeps I.bk) ((hmb2 _ (by decide)).trans (by decide +kernel)) ⟨rfl, ?_⟩)
  refine wpAny_loadName_free hsc hkc' (c := cc) (by rw [henv]; rfl) ⟨_, KX _ _ hcell, rfl⟩ ?_
  refine wpAny_loadName_local hsc hka' hns hv ?_
  refine ks_wpAny_isType_cls hD1 hD2 ⟨rfl, ?_⟩
  obtain ⟨hh, g, d, t, os⟩ := s
  refine ks_wpAny_call_super hD1 hD2 ho rfl (fun c e => by cases e) (looks_mroIn KX T.sub) (fun h' e k => ?_)
  have I2 : Inv X [] σ H ⟨h', g, d, t, os⟩ := I.un (h' := h') (t' := t) (Un.kept k) (I.hok.kept k)
  have KX2 : X.K.In h' := I2.kIn
  obtain ⟨t2, ho2⟩ := exo_at I2.hok hx
  have J2 : InstAt h' x _ C none := ⟨ho2, rfl, rfl, trivial⟩
  have hI : Looks (model X.prog X.w) h' (isInstance (.ref x) (.type "ValueError")) true := J2.type.andThen (looks_subIn KX2 T.ve)
  have al := T.al
  unfold ks_superIn at al
  rw [hcd] at al
  refine kxs_getMethod kxs_ValueError e (looks_opaque KX2 T.op) (l₀ := cd.mro) (fun A Q E s k q => wpAny_bind ((looks_clsIn KX2 hcd) A _ E s k (wpAny_pure q))) rfl KX2 al hI (ks_ne KX2 J2 hcd) (by decide) ?_
  have I3 : Inv X [] σ H ⟨h'.push (kxs_mw "ValueError.__init__" x), g, d, t + 1, os⟩ := I2.un (h' := h'.push (kxs_mw "ValueError.__init__" x)) (t' := t + 1) (Un.kept fun b o e => Heap.get?_push_of_some _ e) (I2.hok.kept fun b o e => Heap.get?_push_of_some _ e)
  have hu : (h'.push (kxs_mw "ValueError.__init__" x)).get? h'.objs.size = some (kxs_mw "ValueError.__init__" x) := Heap.get?_push_at rfl rfl
  have hn : H h'.objs.size = none := I2.hok.fresh (Nat.le_refl _)
  refine q _ _ (fun z => ?_) hu (inv_pin I3 hu hn (Ne.symm (Nat.ne_of_lt I2.lt)) (I2.nofs (Nat.le_refl _)) fun v z => by cases z)
  rw [z, hx] at hn
  cases hn

/-- the wrapper called: the arguments are laid anew, the error stays as new -/
theorem sup_call {X : Cx} {σ : L2.St} {H : Hp} {s : Shared} {C x u : Addr} {us : List Value} {E : Value → Shared → Prop} {Q : Value → Shared → Prop} (T : OexC X.K C) (I : Inv X [(u, kxs_mw "ValueError.__init__" x)] σ H s) (hx : H x = some (exo x C none)) (hz : us.length ≤ sizeLine)
    (q : ∀ s', Inv X [] σ H s' → Q .none s') : wpAny (model X.prog X.w) X.A (call (.ref u) us) Q E s := by
  obtain ⟨nm, qn, N, bs, bm, sn, sub, ab, col, dd, k0, k1, k2, k3, k5, hC, hbm⟩ := T.cls
  obtain ⟨t1, he⟩ := exo_at I.hok hx
  have hu : s.heap.get? u = some (kxs_mw "ValueError.__init__" x) := (I.pin (u, kxs_mw "ValueError.__init__" x) (by simp)).1
  have hC' := I.kIn _ _ hC
  have I0 := inv_unpin I
  obtain ⟨hh, g, d, t, os⟩ := s
  have FB := F.excBase_ValueError
  refine wpAny_call (codeAny_of_tree ?_)
  show wpAny _ X.A.in1 (callAny (.ref u) ⟨us, []⟩) _ _ _
  simp only [callAny]
  refine wpAny_bind (wpAny_load hu ?_)
  simp only [kxs_mw, show (Value.type "method-wrapper" == Value.type "method" || Value.type "method-wrapper" == Value.type "builtin_function_or_method" || Value.type "method-wrapper" == Value.type "method-wrapper") = true by decide, if_true]
  refine KFB.if_so (by decide) ?_
  refine wpAny_bind (check_bound_init F.excBase_ValueError.toExcCallFacts hC' he rfl ?_)
  refine wpAny_bind (wpAny_pure (wpAny_pure ?_))
  refine ⟨plainId_quiet F.excBase_ValueError.init.plain _, codeAny_builtin F.excBase_ValueError.initEntry ?_⟩
  refine exc_init_tree (cls := .ref C) (t0 := t1) (dv := none) (c2 := .none) (c3 := .none) (b4 := .bool false) he hz (fun h' k hx' ht => ?_)
  have J := I0.write (t' := t) (x := x) (e := x) (o := exo x C none) (by rw [hx]; exact True.intro) (.inl rfl) k ⟨_, hx'⟩ (exo_ok hx')
  have eu : upd H x (exo x C none) = H := by
    funext b
    by_cases hb : b = x
    · rw [hb, upd_same, hx]
    · rw [upd_ne hb]
  rw [eu] at J
  exact q _ J
/-- THE RULE: such a def by its arguments' reading and the rest's -/
theorem fn_sup {k : Nat} {f C cc cda : Addr} {name qual : Str} {params : Arguments} {scope : Scope} {e : Expr} {es : List Expr} {rest : List Stmt} {p0 p1 p2 p3 p4 : Pos} {dV kV doc pm ct oc : Value} {an od : Option Addr} {osl : Array (Option Value)} {N ps : List Str} {sp : Sp} {ar : Arg} {pl : Sem Bool}
    (T : SupE P K C cc cda)
    (lk : K.lookup f = some ⟨oc, od, .func (fnX name qual params (.Expr (.Call (.Attribute (.Call (.Name "super" p0) [] [] p1) "__init__" p2) (e :: es) [] p3) p4 :: rest) scope [("__class__", cc)] dV kV doc pm an (.ref cda) ct), osl⟩) (hcd : codeIn K (.ref cda) qual = true)
    (S : NScope N ps ["__class__"] scope) (hp : (params.posonlyargs ++ params.args).head? = some ar) (hN : N[0]? = some ar.arg) (hks : scope.names.lookup ("super" : Str) = some .globalImplicit) (hka : scope.names.lookup ar.arg = some .local)
    (hev : ∀ env : Env, env.scope = scope → eval (.Call (.Attribute (.Call (.Name "super" p0) [] [] p1) "__init__" p2) (e :: es) [] p3) env = (do
      let ov ← attributeBase (.Call (.Name "super" p0) [] [] p1) "__init__" env (eval (.Call (.Name "super" p0) [] [] p1) env)
      standAt p2.atName
      let (f, first) ← holding [ov] (getMethod ov "__init__" pl)
      callWith p3 f first (backTo p3 (starEach (e :: es) env)) []))
    (hst : ∀ env : Env, starEach (e :: es) env = (false, eval e env) :: starEach es env) (hpl : ∀ env : Env, (backTo p3 (starEach es env)).any (·.1) = false)
    (hin : ∀ env : Env, env.scope = scope → interactive env = false) (hsw : ∀ env : Env, env.scope = scope → swapsWith (.Call (.Attribute (.Call (.Name "super" p0) [] [] p1) "__init__" p2) (e :: es) [] p3) none p4.line env = pure false)
    (len : ∀ vs H Q E, sp vs H Q E → vs.length = ps.length)
    (hbody : ∀ (A : Around) (outer : List Env) (s : Shared) (H : Hp) (vs : List V) (Q : VK) (E : XK), Room k (A.deeper (envF ⟨name, qual, params, rest, scope, [("__class__", cc)], cda⟩ f s.heap.objs.size)) → sp vs H Q E →
      ∃ (x : Addr) (ta : TA) (t : TS), vs[0]? = some (.ref x) ∧ H x = some (exo x C none) ∧ PA (ncx CX P w K mg base N ⟨name, qual, params, rest, scope, [("__class__", cc)], cda⟩ f A outer s H E) (e :: es) ta ∧ PSs (ncx CX P w K mg base N ⟨name, qual, params, rest, scope, [("__class__", cc)], cda⟩ f A outer s H E) rest t ∧
        ta (startF N vs [none]) H (fun ws H1 => ws.length ≤ 1000 ∧ H1 x = some (exo x C none) ∧ t { nx := fun _ H' => Q .non H', rt := Q } (startF N vs [none]) H1)) :
    FnOk P w K mg base CX (k + 1) f (fnX name qual params (.Expr (.Call (.Attribute (.Call (.Name "super" p0) [] [] p1) "__init__" p2) (e :: es) [] p3) p4 :: rest) scope [("__class__", cc)] dV kV doc pm an (.ref cda) ct) ps sp := by
  refine ⟨len, fun A outer s H args us vs Q E hr e0 hb r hsp => ?_⟩
  have hl := len _ _ _ _ hsp
  have KX : K.In s.heap := e0.mod.kin.keeps fun b o e => (e0.bs b o e).1
  have lim : s.heap.NoLimit := e0.mod.nolimit.keeps fun b o e => (e0.bs b o e).1
  obtain ⟨cl, cld, csl, hcell⟩ := T.cell
  refine codeAny_call_function hr.depth (KX _ _ lk) rfl S.co S.gen rfl (PySem.W.codeRec_of KX hcd) (hb _ _ _ _ ?_)
  refine wpAny_newFunctionEnv S.nocell (fun ⟨n, _⟩ hy => S.par n (List.of_mem_zip hy).1) (fun h₁ hns hsb => ⟨lim.fresh _ hsb, ?_⟩) S.kind
  have kp : ∀ b o, s.heap.get? b = some o → h₁.get? b = some o := fun b o e => hsb.extBut b o (Nat.ne_of_lt (Heap.lt_size e)) (Heap.get?_push_of_some _ e)
  obtain ⟨x, ta, t, hx0, hx, hA, hS, hq⟩ := hbody A outer s H vs Q E (hr.deeper _) hsp
  have CA : CellsAt [("__class__", cc)] ["__class__"] [none] s.heap H := by
    have lc : ∀ {y c}, ([("__class__", cc)] : List (Str × Addr)).lookup y = some c → c = cc := fun {y c} h => by
      have := PySem.mem_of_lookup h
      rw [List.mem_singleton] at this
      exact (Prod.mk.inj this).2
    have ln : ∀ {y c}, ([("__class__", cc)] : List (Str × Addr)).lookup y = some c → y = "__class__" := fun {y c} h => by
      have := PySem.mem_of_lookup h
      rw [List.mem_singleton] at this
      exact (Prod.mk.inj this).1
    have bc : base.get? cc = some ⟨cl, cld, .cell (some (.ref C)), csl⟩ := e0.mod.kin _ _ hcell
    refine ⟨rfl, fun y c h => ?_, fun a b c h1 h2 => (ln h1).trans (ln h2).symm, fun i y h => ?_⟩
    · rw [lc h]
      exact ⟨(e0.bs _ _ bc).2, _, _, (e0.bs _ _ bc).1, rfl⟩
    · cases i with
      | zero =>
        simp at h
        subst h
        exact ⟨cc, rfl, fun v hv => by simp at hv⟩
      | succ i => simp at h
  have I : Inv (ncx CX P w K mg base N ⟨name, qual, params, rest, scope, [("__class__", cc)], cda⟩ f A outer s H E) [] (startF N vs [none]) H { s with heap := h₁, toks := s.toks + (ps.zip us).length } := inv_startN S hr.hd e0 hl r CA hns kp
  show codeAny _ _ (.func (.Expr _ p4 :: rest) (envF ⟨name, qual, params, rest, scope, [("__class__", cc)], cda⟩ f s.heap.objs.size)) _ _
  refine ks_codeAny_funcAt (ks_wpAt_execs_cons (ks_wpAt_Expr_any (ks_wpAt_MethodCall (pl := pl) ?_ (hev _ rfl)) (hin _ rfl) (hsw _ rfl)))
  have hσ : (startF N vs [none])[0]? = some (some (.ref x)) := by
    unfold startF
    cases vs with
    | nil => simp at hx0
    | cons v r =>
      simp at hx0
      subst hx0
      rfl
  have fin : ∀ {σ' : L2.St} {H' : Hp} {v : V} {u : Value} {s' : Shared}, Inv (ncx CX P w K mg base N ⟨name, qual, params, rest, scope, [("__class__", cc)], cda⟩ f A outer s H E) [] σ' H' s' → L2.RelV v u → Q v H' → CE outer P w H s Q u s' :=
    fun {σ' H' v u s'} J rv q => ⟨v, H', J.os, J.bare, J.base, J.hok, rv, q⟩
  refine sup_method (X := ncx CX P w K mg base N ⟨name, qual, params, rest, scope, [("__class__", cc)], cda⟩ f A outer s H E) (s_loc := s.heap.objs.size) T I rfl lk hp hN hσ hx hks (S.frk _ (by simp)) hka (fun u s1 nux hu I1 => ?_)
  show wpAny _ _ (callWith p3 (.ref u) [] (backTo p3 (starEach (e :: es) _)) []) _ _ _
  have hrun := hA.run p3 [(u, kxs_mw "ValueError.__init__" x)] s1 (startF N vs [none]) H _ I1 hq
  rw [hst] at hrun ⊢
  refine kxs_callWith (i := "ValueError.__init__") (x := x) (by show (false || (backTo p3 (starEach es _)).any (·.1)) = false; rw [hpl]; rfl) ?_
  refine evalArgs_plain (thn hrun fun us1 s2 ⟨ws, H1, I2, r1, hw, hx1, q1⟩ => ⟨(I2.pin (u, kxs_mw "ValueError.__init__" x) (by simp)).1, ?_⟩)
  refine sup_call (X := ncx CX P w K mg base N ⟨name, qual, params, rest, scope, [("__class__", cc)], cda⟩ f A outer s H E) T.X I2 hx1 (by show us1.length ≤ sizeLine; rw [← r1.length, sizeLine_eq]; omega) (fun s3 I3 => ?_)
  refine wpAt_of_wpAny (wpAny_mono (hS.run [] _ (startF N vs [none]) H1 _ I3 q1) (fun fl s' hs => ?_) fun e s' hs => hs)
  cases fl with
  | ret u =>
    obtain ⟨v, σ', H', J, rv, q⟩ := hs
    exact fin J rv q
  | next =>
    obtain ⟨σ', H', J, q⟩ := hs
    exact fin (v := V.non) (u := Value.none) J rfl q
  | brk =>
    obtain ⟨_, _, _, q⟩ := hs
    exact False.elim q
  | cont =>
    obtain ⟨_, _, _, q⟩ := hs
    exact False.elim q
end
/-! ### isinstance(e, (A, B, ..)) of the exception that an except suite holds: a rule of our own -/
/-- e, the classes in a tuple -/
def rExT (K : PySem.W.Frag) (D a : Addr) : List V → Hp → VK → Prop := fun xs H Q =>
  ∃ (tp : Addr) (cs : List V) (us : List Value) (b : Bool), xs = [.ref a, .ref tp] ∧ H tp = some (.tup cs) ∧ Paired ClsV cs us ∧ PySem.W.kitAny K (.ref D) us = some b ∧ Q (.bl b) H
theorem held_at {oe : Obj} {a D : Addr} {h : Heap} (got : h.get? a = some oe) (z : Zc (.ref D) none oe) (f : ∃ vs, oe.data = .fields vs) : PySem.W.InstAt h a oe D none := by
  obtain ⟨vs, fv⟩ := f
  obtain ⟨c0, d0, data0, s0⟩ := oe
  have z1 : c0 = .ref D := z.1
  have z2 : d0 = none := z.2
  have z3 : data0 = .fields vs := fv
  subst z1
  subst z2
  subst z3
  exact ⟨got, rfl, rfl, trivial⟩
theorem call_exT {X : Cx} {a D : Addr} {oe : Obj} {pn : List (Addr × Obj)} (C : ExcC X.K D) (z : Zc (.ref D) none oe) (f : ∃ vs, oe.data = .fields vs) : CallR (X.suite a ((a, oe) :: pn)) (.builtin "isinstance") (rExT X.K D a) := by
  intro pins s σ H xs us Q I r h
  obtain ⟨tp, cs, ws, b, rfl, hT, k, e, q⟩ := h
  obtain ⟨u1, u2, rfl, r1, r2⟩ := vals2 r
  cases (show u1 = Value.ref a from r1)
  cases (show u2 = Value.ref tp from r2)
  have got := (I.pin (a, oe) (List.mem_append.mpr (.inl List.mem_cons_self))).1
  obtain ⟨_, its, rv, ⟨oc, od, dt, sl⟩, g1, g2, n, g3⟩ := (show ObjOk X.prog X.w H s.heap tp (.tup cs) from I.hok tp _ hT)
  have same := ClsV.all k rv
  subst same
  have c1 : oc = .type "tuple" := g2
  have c2 : dt = .seq its.toArray n := g3
  subst c1
  subst c2
  exact PySem.W.kia_tup (PySem.W.handS_kitx_exc C.hg C.hk C.hs C.hd C.ha C.hn C.ht C.hm) I.kIn (held_at got z f) g1 e (fun z => nomatch z) fun tk => ⟨.bl b, H, I.tok tk, rfl, q⟩
/-! ### isinstance of a caught error that bears fields -/
/-- isinstance(e, c), the dict of e at dd -/
def rIsD (K : PySem.W.Frag) (D a dd : Addr) : List V → Hp → VK → Prop := fun xs H Q => ∃ (c : V) (cv : Value) (b : Bool) (fs : List (Str × V)), xs = [.ref a, c] ∧ (∀ u, RelV c u → u = cv) ∧ PySem.W.kitOne K (.ref D) cv = some b ∧ H dd = some (.xd fs) ∧ Q (.bl b) H
/-- .. the classes in a tuple -/
def rExD (K : PySem.W.Frag) (D a dd : Addr) : List V → Hp → VK → Prop := fun xs H Q =>
  ∃ (tp : Addr) (cs : List V) (us : List Value) (b : Bool) (fs : List (Str × V)), xs = [.ref a, .ref tp] ∧ H tp = some (.tup cs) ∧ Paired ClsV cs us ∧ PySem.W.kitAny K (.ref D) us = some b ∧ H dd = some (.xd fs) ∧ Q (.bl b) H
theorem instD {X : Cx} {pins : List (Addr × Obj)} {σ : L2.St} {H : Hp} {s : Shared} {a D dd : Addr} {oe : Obj} {fs : List (Str × V)} (I : Inv X pins σ H s) (got : s.heap.get? a = some oe) (z : Zc (.ref D) (some dd) oe) (f : ∃ vs, oe.data = .fields vs) (e : H dd = some (.xd fs)) : ∃ od, PySem.W.InstAt s.heap a oe D (some od) := by
  have hx : ObjOk X.prog X.w H s.heap dd (.xd fs) := I.hok dd _ e
  obtain ⟨mA, hns, hr⟩ := hx
  obtain ⟨od, ho, hl⟩ := lookIn_ns hns
  obtain ⟨vs, hd⟩ := f
  exact ⟨od, got, z.1, by unfold PySem.W.notCls; rw [hd] <;> rfl, by rw [z.2]; exact ho⟩
theorem kitD {K : PySem.W.Frag} {x D : Addr} {ox : Obj} {od : Option Obj} (C : ExcC K D) : PySem.W.KitX K (.ref x) (.ref D) (fun h => PySem.W.InstAt h x ox D od) := by
  obtain ⟨cd, hc, _⟩ := PySem.W.any_some C.hd
  exact PySem.W.kitx_exc (by rw [hc]; rfl) C.hg C.hk C.hs C.ha C.hn C.ht C.hm
theorem call_isD {X : Cx} {a D dd : Addr} {oe : Obj} {pn : List (Addr × Obj)} (C : ExcC X.K D) (hz : Zc (.ref D) (some dd) oe) (hf : ∃ vs, oe.data = .fields vs) : CallR (X.suite a ((a, oe) :: pn)) (.builtin "isinstance") (rIsD X.K D a dd) := by
  intro pins s σ H xs us Q I r h
  obtain ⟨c, cv, b, fs, rfl, hcv, e, ed, q⟩ := h
  cases r with
  | cons rx rr =>
    cases rr with
    | cons rt rr =>
      cases rr
      cases rx
      have ec := hcv _ rt
      subst ec
      obtain ⟨hget, _⟩ := I.pin (a, oe) (List.mem_append.mpr (.inl List.mem_cons_self))
      obtain ⟨od, J⟩ := instD I hget hz hf ed
      exact PySem.W.kia_one (kitD C) I.kIn J e (fun z => nomatch z) fun tk => ⟨.bl b, H, I.kept (t' := tk) fun _ _ z => z, rfl, q⟩
theorem call_exD {X : Cx} {a D dd : Addr} {oe : Obj} {pn : List (Addr × Obj)} (C : ExcC X.K D) (z : Zc (.ref D) (some dd) oe) (f : ∃ vs, oe.data = .fields vs) : CallR (X.suite a ((a, oe) :: pn)) (.builtin "isinstance") (rExD X.K D a dd) := by
  intro pins s σ H xs us Q I r h
  obtain ⟨tp, cs, ws, b, fs, rfl, hT, k, e, ed, q⟩ := h
  obtain ⟨u1, u2, rfl, r1, r2⟩ := vals2 r
  cases (show u1 = Value.ref a from r1)
  cases (show u2 = Value.ref tp from r2)
  have got := (I.pin (a, oe) (List.mem_append.mpr (.inl List.mem_cons_self))).1
  obtain ⟨_, its, rv, ⟨oc, od', dt, sl⟩, g1, g2, n, g3⟩ := (show ObjOk X.prog X.w H s.heap tp (.tup cs) from I.hok tp _ hT)
  have same := ClsV.all k rv
  subst same
  have c1 : oc = .type "tuple" := g2
  have c2 : dt = .seq its.toArray n := g3
  subst c1
  subst c2
  obtain ⟨od, J⟩ := instD I got z f ed
  exact PySem.W.kia_tup (kitD C) I.kIn J g1 e (fun z => nomatch z) fun tk => ⟨.bl b, H, I.tok tk, rfl, q⟩
/-- an own error without an __init__ of its own, at C -/
structure OwnE (K : PySem.W.Frag) (mg : Str → Option Value) (x : Str) (C : Addr) : Prop where
  g : mg x = some (.ref C)
  k : PySem.W.keepIn K (.ref C) = true
  x : PySem.W.excIn K C [.type "ValueError", .type "Exception", .type "BaseException", .type "object"] "ValueError.__new__" = true
  b : PySem.W.subIn K (.ref C) (.type "BaseException") = some true
  t : PySem.W.typeIn K (.ref C) = some (.type "type")
theorem app_fits {a b : Str} (h1 : a.length ≤ 1000) (h2 : b.length ≤ 1921) : (a ++ b).length ≤ sizeLine := by
  have e : (a ++ b).length = a.length + b.length := by
    show (a.cps ++ b.cps).size = a.cps.size + b.cps.size
    rw [Array.size_append]
  rw [e]
  exact Nat.le_trans (show a.length + b.length ≤ 2921 by omega) (by decide)
theorem app_le {a b : Str} {m n : Nat} (h1 : a.length ≤ m) (h2 : b.length ≤ n) : (a ++ b).length ≤ m + n := by
  have e : (a ++ b).length = a.length + b.length := by
    show (a.cps ++ b.cps).size = a.cps.size + b.cps.size
    rw [Array.size_append]
  omega
theorem line4k {n : Nat} (h : n ≤ 9000) : n ≤ sizeLine := Nat.le_trans h (by decide)
theorem log_small {n : Int} (h : n.natAbs ≤ 2000000) : n.natAbs.log2 < 1920 := by
  by_cases c : n.natAbs = 0
  · rw [c]
    decide
  · exact (Nat.log2_lt c).mpr (Nat.lt_of_le_of_lt h (by decide))
theorem int_len {n : Int} (h : n.natAbs.log2 < 1920) : (Str.ofString (toString n)).length ≤ 1921 := by
  have e := int_text_length_le (k := 1920) (by decide) h
  rw [PySem.ofString_length]
  omega
theorem fitA {a b : Str} {m n : Nat} (h1 : a.length ≤ m) (h2 : b.length ≤ n) (h : m + n ≤ 9000) : (a ++ b).length ≤ sizeLine := Nat.le_trans (app_le h1 h2) (line4k h)
/-! ### an error that is caught and looked at: isinstance(e, (six others)), then isinstance(e, its own) and isinstance(e, ValueError) -/
theorem FnOk.or {P : Program} {w : World} {K : PySem.W.Frag} {mg : Str → Option Value} {base : Heap} {CX : CXT} {k : Nat} {f : Addr} {fd : FuncData} {ps : List Str} {sp sq : Sp} (F : FnOk P w K mg base CX k f fd ps sp) (G : FnOk P w K mg base CX k f fd ps sq) : FnOk P w K mg base CX k f fd ps (fun vs H Q E => sp vs H Q E ∨ sq vs H Q E) :=
  ⟨fun vs H Q E h => h.elim (F.len vs H Q E) (G.len vs H Q E), fun A outer s H args us vs Q E hr e b v h => h.elim (F.run A outer s H args us vs Q E hr e b v) (G.run A outer s H args us vs Q E hr e b v)⟩
theorem pss_given {X : Cx} {ss : List Stmt} {t : TS} {p : Prop} (h : p → PSs X ss t) : PSs X ss (fun D σ H => p ∧ t D σ H) := ⟨fun pins s σ H D I hh => (h hh.1).run pins s σ H D I hh.2⟩
structure RefG (K : PySem.W.Frag) (mg : Str → Option Value) (xE x1 x2 x3 x4 x5 x6 : Str) (CL CE c1 c2 c3 c4 c5 c6 : Addr) : Prop where
  gL : mg "LongError" = some (.ref CL)
  ex : PySem.W.exmOne K (.ref CE) (.ref CL) = some true
  N : OwnE K mg xE CE
  E : ExcC K CE
  g1 : mg x1 = some (.ref c1)
  g2 : mg x2 = some (.ref c2)
  g3 : mg x3 = some (.ref c3)
  g4 : mg x4 = some (.ref c4)
  g5 : mg x5 = some (.ref c5)
  g6 : mg x6 = some (.ref c6)
  no : PySem.W.kitAny K (.ref CE) [.ref c1, .ref c2, .ref c3, .ref c4, .ref c5, .ref c6] = some false
  yes : PySem.W.kitOne K (.ref CE) (.ref CE) = some true
  val : PySem.W.kitOne K (.ref CE) (.type "ValueError") = some true
  mi : mg "isinstance" = none
  mv : mg "ValueError" = none
def t_suiteG (K : PySem.W.Frag) (i : Nat) (CE c1 c2 c3 c4 c5 c6 : Addr) (a : Addr) : TS :=
  tSeq (tIfS (tB (tCB (rExT K CE a) (tCons (tVar i) (tCons (tTup (tCons (tC (.ref c1)) (tCons (tC (.ref c2)) (tCons (tC (.ref c3)) (tCons (tC (.ref c4)) (tCons (tC (.ref c5)) (tCons (tC (.ref c6)) tNil))))))) tNil)))) (tRet (tC (.bl false))) tNext)
    (tRet (tAndV (tCB (rIsE K CE a) (tCons (tVar i) (tCons (tC (.ref CE)) tNil))) (tCB (rIsE K CE a) (tCons (tVar i) (tCons (tC (.ty "ValueError")) tNil)))))
/-- what the suite comes to -/
theorem suiteG {K : PySem.W.Frag} {mg : Str → Option Value} {xE x1 x2 x3 x4 x5 x6 : Str} {CL CE c1 c2 c3 c4 c5 c6 a : Addr} (R : RefG K mg xE x1 x2 x3 x4 x5 x6 CL CE c1 c2 c3 c4 c5 c6) {i : Nat} {D : Ends} {σ : L2.St} {H : Hp} (hi : σ[i]? = some (some (.ref a)))
    (q : ∀ p o, H p = none → D.rt (.bl true) (upd H p o)) : t_suiteG K i CE c1 c2 c3 c4 c5 c6 a D σ H := by
  refine ⟨.ref a, hi, (by show 6 ≤ sizeLine; decide), fun tp ntp => ?_⟩
  refine ⟨tp, _, _, false, rfl, upd_same, .cons (.own _) (.cons (.own _) (.cons (.own _) (.cons (.own _) (.cons (.own _) (.cons (.own _) .nil))))), R.no, false, rfl, iteF ?_⟩
  refine ⟨.ref a, hi, .ref CE, _, true, rfl, (fun u r => r), R.yes, true, rfl, iteT ?_⟩
  exact ⟨.ref a, hi, .ty "ValueError", _, true, rfl, (fun u r => r), R.val, q _ _ ntp⟩
def goK (f : List Int) (p : Int) : Int := f.getD p.toNat 0
theorem rise_same : ∀ {xs ys : List Int}, xs.Pairwise (· < ·) → ys.Pairwise (· < ·) → (∀ k, k ∈ xs ↔ k ∈ ys) → xs = ys
  | [], [], _, _, _ => rfl
  | [], y :: ys, _, _, h => by have := (h y).mpr List.mem_cons_self; simp at this
  | x :: xs, [], _, _, h => by have := (h x).mp List.mem_cons_self; simp at this
  | x :: xs, y :: ys, hx, hy, h => by
    obtain ⟨x1, x2⟩ := List.pairwise_cons.mp hx
    obtain ⟨y1, y2⟩ := List.pairwise_cons.mp hy
    have e : x = y := by
      rcases List.mem_cons.mp ((h x).mp List.mem_cons_self) with a | a
      · exact a
      · rcases List.mem_cons.mp ((h y).mpr List.mem_cons_self) with b | b
        · exact b.symm
        · have := y1 x a
          have := x1 y b
          omega
    subst e
    rw [rise_same x2 y2 fun k => ⟨fun hk => ?_, fun hk => ?_⟩]
    · rcases List.mem_cons.mp ((h k).mp (List.mem_cons_of_mem _ hk)) with a | a
      · have := x1 k hk
        omega
      · exact a
    · rcases List.mem_cons.mp ((h k).mpr (List.mem_cons_of_mem _ hk)) with a | a
      · have := y1 k hk
        omega
      · exact a
/-! ### what is the same in all these texts: heaps -/
/-- all that is tracked, but at d, is as it was -/
def Gr (d : Addr) (H H' : Hp) : Prop := ∀ b o, b ≠ d → H b = some o → H' b = some o
theorem Gr.refl (d : Addr) (H : Hp) : Gr d H H := fun _ _ _ e => e
theorem Gr.trans {d : Addr} {H H1 H2 : Hp} (a : Gr d H H1) (b : Gr d H1 H2) : Gr d H H2 := fun c o n e => b c o n (a c o n e)
theorem Gr.new {d : Addr} {H H1 : Hp} {p : Addr} {o : HO} (a : Gr d H H1) (h : H1 p = none) : Gr d H (upd H1 p o) := fun b u n e => by
  have q := a b u n e
  rw [upd_ne (ne_of_none q h)]
  exact q
theorem Gr.off {d : Addr} {H H1 H2 : Hp} (a : Gr d H H1) (h : ∀ b, b ≠ d → H2 b = H1 b) : Gr d H H2 := fun b u n e => by
  rw [h b n]
  exact a b u n e
theorem same_new {H : Hp} {p : Addr} {o : HO} (h : H p = none) : Same H (upd H p o) := fun b x e => by
  rw [upd_ne (ne_of_none e h)]
  exact e
theorem Gr.of_same {d : Addr} {H H' : Hp} (s : Same H H') : Gr d H H' := fun b o _ e => s b o e
/-- the dice at d -/
def dl (s0 : Int) (l : Addr) (k big : Int) : List V := [.int s0, .ref l, .int k, .int big]
theorem map_int_dl {ns : List Int} {s0 k big : Int} {l : Addr} : ns.map V.int ≠ dl s0 l k big := by
  intro e
  have h : (ns.map V.int)[1]? = some (V.ref l) := by rw [e]; rfl
  rw [List.getElem?_map] at h
  cases q : ns[1]? with
  | none => rw [q] at h; cases h
  | some z => rw [q] at h; cases h
/-- a list that is known ahead of p's making, and p's writing -/
theorem seq_put {K : PySem.W.Frag} {H0 H : Hp} {l p : Addr} {xs : List V} {o : HO} (h0 : SqL K H0 l xs) (n0 : H0 p = none) (h : SqL K H l xs) : SqL K (upd H p o) l xs := by
  have ne : Rd H0 l (.lst xs) → l ≠ p := fun r => by
    rcases r with r | ⟨o', r⟩
    · exact ne_of_none r n0
    · exact ne_of_none r n0
  rcases h0 with r0 | k
  · have n := ne r0
    rcases h with (h | ⟨o', h⟩) | h
    · exact .inl (.inl (by rw [upd_ne n]; exact h))
    · exact .inl (.inr ⟨o', by rw [upd_ne n]; exact h⟩)
    · exact .inr h
  · exact .inr k
/-- the script stands when the dice turns -/
theorem seq_turn {K : PySem.W.Frag} {H H' : Hp} {d l l' : Addr} {ns : List Int} {s0 k big : Int} (hd : H d = some (.lst (dl s0 l' k big))) (h : SqL K H l (ns.map V.int)) (q : ∀ b, b ≠ d → H' b = H b) : SqL K H' l (ns.map V.int) := by
  rcases h with (h | ⟨o, h⟩) | h
  · refine .inl (.inl ?_)
    rw [q]
    · exact h
    · intro z
      rw [z, hd] at h
      injection h with h
      injection h with h
      exact map_int_dl h.symm
  · refine .inl (.inr ⟨o, ?_⟩)
    rw [q]
    · exact h
    · intro z
      rw [z, hd] at h
      cases h
  · exact .inr h
def Dc (K : PySem.W.Frag) (l : Addr) (ns : List Int) (H : Hp) (d : Addr) : Prop := ∃ (s0 k big : Int), H d = some (.lst (dl s0 l k big)) ∧ SqL K H l (ns.map V.int) ∧ ns.length ≤ 63 ∧ 0 ≤ s0 ∧ s0 < 2147483647 ∧ 0 ≤ k ∧ 0 ≤ big
theorem Dc.same {K : PySem.W.Frag} {H H' : Hp} {l d : Addr} {ns : List Int} (s : Same H H') (h : Dc K l ns H d) : Dc K l ns H' d := by
  obtain ⟨s0, k, big, h1, h2, h3⟩ := h
  exact ⟨s0, k, big, s _ _ h1, s.seq h2, h3⟩
theorem Dc.seq {K : PySem.W.Frag} {H : Hp} {l d : Addr} {ns : List Int} (h : Dc K l ns H d) : SqL K H l (ns.map V.int) := by
  obtain ⟨s0, k, big, h1, h2, h3⟩ := h
  exact h2
theorem Dc.new {K : PySem.W.Frag} {H : Hp} {l d p : Addr} {ns : List Int} {o : HO} (h : Dc K l ns H d) (n : H p = none) : Dc K l ns (upd H p o) d := h.same (same_new n)
theorem Dc.some {K : PySem.W.Frag} {H : Hp} {l d : Addr} {ns : List Int} (h : Dc K l ns H d) : ∃ s0 k big, H d = Option.some (HO.lst (dl s0 l k big)) := by
  obtain ⟨s0, k, big, h1, _⟩ := h
  exact ⟨s0, k, big, h1⟩
theorem Dc.ne {K : PySem.W.Frag} {H : Hp} {l d p : Addr} {ns : List Int} (h : Dc K l ns H d) (n : H p = none) : p ≠ d := by
  obtain ⟨s0, k, big, e⟩ := h.some
  exact (ne_of_none e n).symm
/-- the dice is a list that begins with an int and a ref: no other list that we know -/
theorem Dc.ne_of {K : PySem.W.Frag} {H : Hp} {l d p : Addr} {ns : List Int} {u : HO} (h : Dc K l ns H d) (n : H p = Option.some u) (q : ∀ s0 l k big, u ≠ .lst (dl s0 l k big)) : p ≠ d := by
  obtain ⟨s0, k, big, e⟩ := h.some
  intro z
  rw [z, e] at n
  exact q _ _ _ _ (Option.some.inj n).symm
/-- another list is written, one that is newer than the script -/
theorem Dc.turn {K : PySem.W.Frag} {H0 H : Hp} {l d d0 p : Addr} {ns : List Int} {o : HO} (h : Dc K l ns H d) (h0 : Dc K l ns H0 d0) (n0 : H0 p = none) (n : p ≠ d) : Dc K l ns (upd H p o) d := by
  obtain ⟨s0, k, big, h1, h2, h3⟩ := h
  refine ⟨s0, k, big, ?_, seq_put h0.seq n0 h2, h3⟩
  rw [upd_ne n.symm]
  exact h1
/-! ### a chain's data -/
abbrev Mv := Int × List Int
def GoodRow (many : Nat) (row : List Int) : Prop := row.length = many ∧ ∀ x ∈ row, 0 ≤ x ∧ x < (many : Int)
def GoodMv (many : Nat) (m : Mv) : Prop := 1 ≤ m.1 ∧ m.1 ≤ 99 ∧ GoodRow many m.2
structure Good (many : Nat) (ms : List Mv) : Prop where
  m1 : 1 ≤ many
  m6 : many ≤ 6
  l1 : 1 ≤ ms.length
  l8 : ms.length ≤ 8
  mv : ∀ m ∈ ms, GoodMv many m
def MoveAt (H : Hp) (v : V) (m : Mv) : Prop := ∃ a q, v = .ref a ∧ H a = some (.tup [.int m.1, .ref q]) ∧ H q = some (.tup (m.2.map V.int))
abbrev MovesAt (H : Hp) : List V → List Mv → Prop := Paired (MoveAt H)
theorem MoveAt.same {H H' : Hp} {v : V} {m : Mv} (s : ∀ b xs, H b = some (.tup xs) → H' b = some (.tup xs)) (h : MoveAt H v m) : MoveAt H' v m := by
  obtain ⟨a, q, e, h1, h2⟩ := h
  exact ⟨a, q, e, s _ _ h1, s _ _ h2⟩
theorem MovesAt.same {H H' : Hp} (s : ∀ b xs, H b = some (.tup xs) → H' b = some (.tup xs)) : ∀ {vs : List V} {ms : List Mv}, MovesAt H vs ms → MovesAt H' vs ms
  | _, _, .nil => .nil
  | _, _, .cons h t => .cons (h.same s) (MovesAt.same s t)
theorem MovesAt.snoc {H : Hp} {v : V} {m : Mv} (h : MoveAt H v m) : ∀ {vs : List V} {ms : List Mv}, MovesAt H vs ms → MovesAt H (vs ++ [v]) (ms ++ [m])
  | _, _, .nil => .cons h .nil
  | _, _, .cons q t => .cons q (MovesAt.snoc h t)
theorem MovesAt.get {H : Hp} : ∀ {vs : List V} {ms : List Mv} {i : Nat} {m : Mv}, MovesAt H vs ms → ms[i]? = some m → ∃ v, vs[i]? = some v ∧ MoveAt H v m
  | _, _, _, _, .nil, e => by simp at e
  | _, _, 0, _, .cons h _, e => by
    simp at e
    subst e
    exact ⟨_, rfl, h⟩
  | _, _, i + 1, m, .cons _ t, e => by
    obtain ⟨v, h1, h2⟩ := MovesAt.get (i := i) (m := m) t (by simpa using e)
    exact ⟨v, by simpa using h1, h2⟩
theorem MovesAt.get' {H : Hp} : ∀ {vs : List V} {ms : List Mv} {i : Nat} {v : V}, MovesAt H vs ms → vs[i]? = some v → ∃ m, ms[i]? = some m ∧ MoveAt H v m
  | _, _, _, _, .nil, e => by simp at e
  | _, _, 0, _, .cons h _, e => by
    simp at e
    subst e
    exact ⟨_, rfl, h⟩
  | _, _, i + 1, v, .cons _ t, e => by
    obtain ⟨m, h1, h2⟩ := MovesAt.get' (i := i) (v := v) t (by simpa using e)
    exact ⟨m, by simpa using h1, h2⟩
/-- a told chain: (many, moves) at t, the moves' list at m -/
def ToldAt (H : Hp) (t m : Addr) (many : Nat) (vs : List V) (ms : List Mv) : Prop := H t = some (.tup [.int (many : Int), .ref m]) ∧ H m = some (.lst vs) ∧ MovesAt H vs ms
theorem Gr.tups {d l : Addr} {ns : List Int} {H H' : Hp} {K : PySem.W.Frag} (hd : Dc K l ns H d) (g : Gr d H H') : ∀ b xs, H b = some (.tup xs) → H' b = some (.tup xs) := fun b xs e =>
  g b _ (hd.ne_of e fun _ _ _ _ q => nomatch q) e
theorem Same.tups {H H' : Hp} (g : Same H H') : ∀ b xs, H b = some (.tup xs) → H' b = some (.tup xs) := fun b xs e => g b _ e
theorem ifD {c A B : Prop} [Decidable c] (hc : c) (h : A) : if decide c = true then A else B := by
  rw [decide_eq_true hc]
  exact iteT h
theorem small8 {n : Nat} (h : n ≤ 8) : n < sizeLine := Nat.lt_of_le_of_lt h (by decide)
section
variable {P : Program} {w : World} {K : PySem.W.Frag} {mg : Str → Option Value} {base : Heap}
/-! ### _law_cell -/
theorem scCell : FnScope ["_law_script", "_law_k"] ["_law_script", "_law_k"] (defScope sCell) := ⟨rfl, rfl, rfl, by decide +kernel, rfl, by decide +kernel, by decide +kernel⟩
def spCell (K : PySem.W.Frag) : Sp := fun vs H Q _ => ∃ (l : Addr) (ns : List Int) (j : Int), vs = [.ref l, .int j] ∧ SqL K H l (ns.map V.int) ∧ 0 ≤ j ∧ ∀ x : Int, Q (.int x) H
theorem ok_cell {f : Addr} {fd : FuncData} {k : Nat} (F : Fun K "_law_cell" "_law_cell" sCell f fd) (ml : mg "len" = none) : FnOk P w K mg base CX0 (k + 1) f fd ["_law_script", "_law_k"] (spCell K) := by
  refine F.ok scCell (fun vs H Q E h => ?_) (fun cdv A outer s H vs Q E hr h => ?_)
  · obtain ⟨l, ns, j, rfl, _⟩ := h
    rfl
  · obtain ⟨l, ns, j, rfl, hS, hj, q⟩ := h
    refine ⟨_, pss_cons (ps_if (pt_cmpR op_lt (pv 1) (pe_callB call_len_seq (by rfl) ml PySem.boot_len (pa_cons (pv 0) pa_nil)) (nomark _))
        (pss_one (ps_ret (pe_ix ix_list (pv 0) (pv 1) (fun _ _ => rfl)))) pss_nil)
      (pss_one (ps_ret pe_int)), ?_⟩
    refine ⟨.int j, rfl, .ref l, rfl, l, ns.map V.int, rfl, .inl hS, j, _, rfl, rfl, _, rfl, ite2 (fun e => ?_) (fun e => ?_)⟩
    · have e1 : j < ((ns.map V.int).length : Int) := of_decide_eq_true e
      rw [List.length_map] at e1
      have hn : j.toNat < ns.length := by omega
      have ej : j = ((j.toNat : Nat) : Int) := by omega
      have g : (ns.map V.int)[j.toNat]? = some (.int ns[j.toNat]) := by
        rw [List.getElem?_map, List.getElem?_eq_getElem hn]
        rfl
      exact ⟨.ref l, rfl, .int j, rfl, l, _, j, _, rfl, rfl, hS, at_of ej g, q _⟩
    · exact q 0
/-! ### _law_dice -/
theorem scDice : FnScope ["_law_script", "_law_k", "_law_cell_here"] ["_law_script", "_law_k"] (defScope sDice) := ⟨rfl, rfl, rfl, by decide +kernel, rfl, by decide +kernel, by decide +kernel⟩
def spDice (K : PySem.W.Frag) : Sp := fun vs H Q _ => ∃ (l : Addr) (ns : List Int) (j : Int), vs = [.ref l, .int j] ∧ SqL K H l (ns.map V.int) ∧ ns.length ≤ 63 ∧ 0 ≤ j ∧ ∀ H' d, Same H H' → H d = none → Dc K l ns H' d → Q (.ref d) H'
theorem abs_nn (x : Int) : 0 ≤ (if x < 0 then -x else x) := by
  split <;> omega
theorem ok_dice {f fC : Addr} {fd fdC : FuncData} (F : Fun K "_law_dice" "_law_dice" sDice f fd) (FC : Fun K "_law_cell" "_law_cell" sCell fC fdC) (bC : Binds K fdC ["_law_script", "_law_k"] []) (gC : mg "_law_cell" = some (.ref fC))
    (ml : mg "len" = none) (ma : mg "abs" = none) (mi : mg "int" = none) : FnOk P w K mg base CX0 2 f fd ["_law_script", "_law_k"] (spDice K) := by
  have GC : FnOk P w K mg base CX0 1 fC fdC ["_law_script", "_law_k"] (spCell K) := ok_cell FC ml
  refine F.ok scDice (fun vs H Q E h => ?_) (fun cdv A outer s H vs Q E hr h => ?_)
  · obtain ⟨l, ns, j, rfl, _⟩ := h
    rfl
  · obtain ⟨l, ns, j, rfl, hS, hl, hj, q⟩ := h
    refine ⟨_, pss_cons (ps_set (i := 2) scDice.nd rfl (.inl rfl) (pe_callB call_abs (by rfl) ma (by decide +kernel) (pa_cons (pe_call GC hr (by rfl) gC FC.kp bC .nil pass0 (pa_cons (pv 0) (pa_cons (pv 1) pa_nil))) pa_nil)))
      (pss_one (ps_ret (pe_lst (pa_cons (pe_op op_mod (pv 2) pe_int) (pa_cons (pv 0) (pa_cons (pe_op op_add (pv 1) pe_int)
        (pa_cons (pe_op op_mul (pe_callTy call_int1 (by rfl) mi (by decide +kernel) (pa_cons (pe_cmpR op_ge (pv 2) (pe_op op_pow pe_int pe_int) (nomark _)) pa_nil)) (pv 2)) pa_nil))))))), ?_⟩
    refine ⟨.ref l, rfl, .int j, rfl, l, ns, j, rfl, hS, hj, fun x => ?_⟩
    refine ⟨x, rfl, ?_⟩
    have ha := abs_nn x
    generalize (if x < 0 then -x else x) = c at ha ⊢
    have m0 : 0 ≤ c % 2147483647 := Int.emod_nonneg _ (by decide)
    have m1 : c % 2147483647 < 2147483647 := Int.emod_lt_of_pos _ (by decide)
    refine ⟨.int c, rfl, c, 2147483647, rfl, rfl, (by show (0 : Int) < 2147483647; decide), .ref l, rfl, .int j, rfl, j, 1, rfl, rfl, ?_⟩
    refine ⟨.int c, rfl, 10, 18, rfl, rfl, ⟨by decide, by decide, by decide⟩, c, _, rfl, rfl, .inr ⟨_, rfl, ?_⟩⟩
    refine ⟨.int c, rfl, _, c, rfl, rfl, .inl ?_, ?_⟩
    · split <;> decide
    · refine ⟨by show 4 ≤ sizeLine; decide, fun d nd => ?_⟩
      refine q _ d (same_new nd) nd ⟨_, _, _, upd_same, (same_new nd).seq hS, hl, m0, m1, by omega, ?_⟩
      split
      · omega
      · omega
/-! ### _law_off -/
theorem scOff : FnScope ["_law_d", "_law_most", "_law_found", "_law_more"] ["_law_d", "_law_most"] (defScope sOff) := ⟨rfl, rfl, rfl, by decide +kernel, rfl, by decide +kernel, by decide +kernel⟩
def spOff (K : PySem.W.Frag) : Sp := fun vs H Q _ => ∃ (d l : Addr) (ns : List Int) (most : Int), vs = [.ref d, .int most] ∧ Dc K l ns H d ∧ 1 ≤ most ∧ most ≤ 1000000 ∧ ∀ (r : Nat) H', (r : Int) < most → Dc K l ns H' d → (∀ b, b ≠ d → H' b = H b) → Q (.int (r : Int)) H'
theorem max1 (x : Int) (h : 0 ≤ x) : 1 ≤ (if x > 1 then x else 1) := by
  split <;> omega
theorem ok_off {f fC : Addr} {fd fdC : FuncData} (F : Fun K "_law_off" "_law_off" sOff f fd) (FC : Fun K "_law_cell" "_law_cell" sCell fC fdC) (bC : Binds K fdC ["_law_script", "_law_k"] []) (gC : mg "_law_cell" = some (.ref fC))
    (ml : mg "len" = none) (ma : mg "abs" = none) (mm : mg "max" = none) : FnOk P w K mg base CX0 2 f fd ["_law_d", "_law_most"] (spOff K) := by
  have GC : FnOk P w K mg base CX0 1 fC fdC ["_law_script", "_law_k"] (spCell K) := ok_cell FC ml
  refine F.ok scOff (fun vs H Q E h => ?_) (fun cdv A outer s H vs Q E hr h => ?_)
  · obtain ⟨d, l, ns, most, rfl, _⟩ := h
    rfl
  · obtain ⟨d, l, ns, most, rfl, ⟨s0, k, big, hD, hS, hl, z0, z1, hk, hb⟩, hm1, hm2, q⟩ := h
    refine ⟨_, pss_cons (ps_if (pt_cmpR op_gt (pe_ix ix_list (pv 0) pe_int (fun _ _ => rfl)) pe_int (nomark _))
        (pss_cons (ps_set (i := 2) scOff.nd rfl (.inl rfl) (pe_op op_mod (pe_ix ix_list (pv 0) pe_int (fun _ _ => rfl)) (pv 1)))
          (pss_cons (ps_asg (pe_op op_fdiv (pe_ix ix_list (pv 0) pe_int (fun _ _ => rfl)) (pv 1)) (pg_sub (pv 0) pe_int set_list))
            (pss_one (ps_ret (pv 2))))) pss_nil)
      (pss_cons (ps_set (i := 3) scOff.nd rfl (.inl rfl) (pe_callB call_abs (by rfl) ma (by decide +kernel) (pa_cons (pe_call GC hr (by rfl) gC FC.kp bC .nil pass0
          (pa_cons (pe_ix ix_list (pv 0) pe_int (fun _ _ => rfl)) (pa_cons (pe_op op_mod (pe_ix ix_list (pv 0) pe_int (fun _ _ => rfl))
            (pe_callB (call_max2 rfl) (by rfl) mm (by decide +kernel) (pa_cons pe_int (pa_cons (pe_callB call_len_seq (by rfl) ml PySem.boot_len (pa_cons (pe_ix ix_list (pv 0) pe_int (fun _ _ => rfl)) pa_nil)) pa_nil)))) pa_nil))) pa_nil)))
      (pss_cons (ps_asg (pe_op op_add (pe_ix ix_list (pv 0) pe_int (fun _ _ => rfl)) pe_int) (pg_sub (pv 0) pe_int set_list))
      (pss_cons (ps_asg (pe_op op_mod (pe_op op_add (pe_op op_add (pe_op op_mul (pe_ix ix_list (pv 0) pe_int (fun _ _ => rfl)) pe_int) pe_int) (pv 3)) pe_int) (pg_sub (pv 0) pe_int set_list))
      (pss_one (ps_ret (pe_op op_mod (pe_op op_fdiv (pe_ix ix_list (pv 0) pe_int (fun _ _ => rfl)) pe_int) (pv 1)))))))
      , ?_⟩
    have hD0 : SqL K H d (dl s0 l k big) := SqL.of hD
    refine ⟨.ref d, rfl, d, _, 3, _, rfl, rfl, hD0, atI_nat (j := 3) rfl, big, 0, rfl, rfl, _, rfl, ite2 (fun e => ?_) (fun e => ?_)⟩
    · have e1 : 0 < big := of_decide_eq_true e
      refine ⟨.ref d, rfl, d, _, 3, _, rfl, rfl, hD0, atI_nat (j := 3) rfl, .int most, rfl, big, most, rfl, rfl, (by show 0 < most; omega), ?_⟩
      refine ⟨.ref d, rfl, d, _, 3, _, rfl, rfl, hD0, atI_nat (j := 3) rfl, .int most, rfl, big, most, rfl, rfl, ⟨by show 0 < most; omega, by show most < 1073741824; omega⟩, ?_⟩
      refine ⟨.ref d, rfl, d, _, 3, 3, rfl, rfl, hD, rfl, ?_⟩
      have r0 : 0 ≤ big % most := Int.emod_nonneg _ (by omega)
      have r1 : big % most < most := Int.emod_lt_of_pos _ (by omega)
      have er : big % most = (((big % most).toNat : Nat) : Int) := by omega
      refine ⟨.int (big % most), rfl, ?_⟩
      rw [er]
      refine q _ _ (by omega) ⟨s0, k, big / most, upd_same, seq_turn hD hS (fun b hb => upd_ne hb), hl, z0, z1, hk, Int.ediv_nonneg hb (by omega)⟩ (fun b hb => upd_ne hb)
    · refine ⟨.ref d, rfl, d, _, 1, _, rfl, rfl, hD0, atI_nat (j := 1) rfl, .ref d, rfl, d, _, 2, _, rfl, rfl, hD0, atI_nat (j := 2) rfl, ?_⟩
      refine ⟨.ref d, rfl, d, _, 1, _, rfl, rfl, hD0, atI_nat (j := 1) rfl, l, _, rfl, .inl hS, 1, _, rfl, ?_⟩
      have hx := max1 (((ns.map V.int).length : Nat) : Int) (by omega)
      generalize (if (((ns.map V.int).length : Nat) : Int) > 1 then (((ns.map V.int).length : Nat) : Int) else 1) = mx at hx ⊢
      refine ⟨k, mx, rfl, rfl, (by show 0 < mx; omega), l, ns, k % mx, rfl, hS, Int.emod_nonneg _ (by omega), fun x => ⟨x, rfl, ?_⟩⟩
      have ha := abs_nn x
      generalize (if x < 0 then -x else x) = c at ha ⊢
      -- d[2] = d[2] + 1
      refine ⟨.ref d, rfl, d, _, 2, _, rfl, rfl, hD0, atI_nat (j := 2) rfl, k, 1, rfl, rfl, .ref d, rfl, d, _, 2, 2, rfl, rfl, hD, rfl, ?_⟩
      have g1 : (upd H d (.lst (dl s0 l (k + 1) big))) d = some (.lst (dl s0 l (k + 1) big)) := upd_same
      have g2 : SqL K (upd H d (.lst (dl s0 l (k + 1) big))) d (dl s0 l (k + 1) big) := SqL.of g1
      refine ⟨.ref d, rfl, d, _, 0, _, rfl, rfl, g2, atI_nat (j := 0) rfl, s0, 48271, rfl, rfl, .inl ⟨by omega, by omega⟩, s0 * 48271, 11, rfl, rfl, .int c, rfl, s0 * 48271 + 11, c, rfl, rfl, s0 * 48271 + 11 + c, 2147483647, rfl, rfl, (by show (0 : Int) < 2147483647; decide), ?_⟩
      have m0 : 0 ≤ (s0 * 48271 + 11 + c) % 2147483647 := Int.emod_nonneg _ (by decide)
      have m1 : (s0 * 48271 + 11 + c) % 2147483647 < 2147483647 := Int.emod_lt_of_pos _ (by decide)
      refine ⟨.ref d, rfl, d, _, 0, 0, rfl, rfl, g1, rfl, ?_⟩
      rw [upd_upd]
      have g3 : (upd H d (.lst (dl ((s0 * 48271 + 11 + c) % 2147483647) l (k + 1) big))) d = some (.lst (dl ((s0 * 48271 + 11 + c) % 2147483647) l (k + 1) big)) := upd_same
      have g4 : SqL K (upd H d (.lst (dl ((s0 * 48271 + 11 + c) % 2147483647) l (k + 1) big))) d (dl ((s0 * 48271 + 11 + c) % 2147483647) l (k + 1) big) := SqL.of g3
      refine ⟨.ref d, rfl, d, _, 0, _, rfl, rfl, g4, atI_nat (j := 0) rfl, ((s0 * 48271 + 11 + c) % 2147483647), 64, rfl, rfl, ⟨by decide, by decide⟩, .int most, rfl, ((s0 * 48271 + 11 + c) % 2147483647) / 64, most, rfl, rfl, (by show 0 < most; omega), ?_⟩
      have r0 : 0 ≤ ((s0 * 48271 + 11 + c) % 2147483647) / 64 % most := Int.emod_nonneg _ (by omega)
      have r1 : ((s0 * 48271 + 11 + c) % 2147483647) / 64 % most < most := Int.emod_lt_of_pos _ (by omega)
      have er : ((s0 * 48271 + 11 + c) % 2147483647) / 64 % most = (((((s0 * 48271 + 11 + c) % 2147483647) / 64 % most).toNat : Nat) : Int) := by omega
      show Q (.int (((s0 * 48271 + 11 + c) % 2147483647) / 64 % most)) _
      rw [er]
      exact q _ _ (by omega) ⟨((s0 * 48271 + 11 + c) % 2147483647), k + 1, big, g3, seq_turn hD hS (fun b hb => upd_ne hb), hl, m0, m1, by omega, hb⟩ (fun b hb => upd_ne hb)
end
section
variable {P : Program} {w : World} {K : PySem.W.Frag} {mg : Str → Option Value} {base : Heap}
/-! ### _law_chain -/
def nChain : List Str := ["_law_d", "_law_most", "_law_many", "_law_way", "_law_moves", "_law_k", "_law_row", "_law_weight", "_law_place"]
theorem scChain : FnScope ["_law_d", "_law_most", "_law_many", "_law_way", "_law_moves", "_law_k", "_law_row", "_law_weight", "_law_place"] ["_law_d", "_law_most"] (defScope sChain) := ⟨rfl, rfl, rfl, by decide +kernel, rfl, by decide +kernel, by decide +kernel⟩
def spChain (K : PySem.W.Frag) : Sp := fun vs H Q _ => ∃ (d l : Addr) (ns : List Int) (most : Nat), vs = [.ref d, .int (most : Int)] ∧ Dc K l ns H d ∧ 1 ≤ most ∧ most ≤ 6 ∧
  ∀ (t m : Addr) (many : Nat) (ws : List V) (ms : List Mv) H', Good many ms → many ≤ most → ToldAt H' t m many ws ms → Dc K l ns H' d → Gr d H H' → Q (.ref t) H'
/-- what the law's texts call -/
structure LawTxt (K : PySem.W.Frag) (mg : Str → Option Value) (fC fD fO : Addr) (fdC fdD fdO : FuncData) : Prop where
  FC : Fun K "_law_cell" "_law_cell" sCell fC fdC
  bC : Binds K fdC ["_law_script", "_law_k"] []
  gC : mg "_law_cell" = some (.ref fC)
  FD : Fun K "_law_dice" "_law_dice" sDice fD fdD
  bD : Binds K fdD ["_law_script", "_law_k"] []
  gD : mg "_law_dice" = some (.ref fD)
  FO : Fun K "_law_off" "_law_off" sOff fO fdO
  bO : Binds K fdO ["_law_d", "_law_most"] []
  gO : mg "_law_off" = some (.ref fO)
  ml : mg "len" = none
  ma : mg "abs" = none
  mm : mg "max" = none
  mn : mg "min" = none
  mi : mg "int" = none
  mr : mg "range" = none
  ms : mg "sorted" = none
  mt : mg "tuple" = none
section
variable {fC fD fO : Addr} {fdC fdD fdO : FuncData}
theorem LawTxt.off (T : LawTxt K mg fC fD fO fdC fdD fdO) : FnOk P w K mg base CX0 2 fO fdO ["_law_d", "_law_most"] (spOff K) := ok_off T.FO T.FC T.bC T.gC T.ml T.ma T.mm
theorem LawTxt.dice (T : LawTxt K mg fC fD fO fdC fdD fdO) : FnOk P w K mg base CX0 2 fD fdD ["_law_script", "_law_k"] (spDice K) := ok_dice T.FD T.FC T.bC T.gC T.ml T.ma T.mi
theorem perm_row {many : Nat} {xs ys : List Int} (p : ys.Perm xs) (h : GoodRow many xs) : GoodRow many ys := ⟨p.length_eq.trans h.1, fun x hx => h.2 x (p.mem_iff.mp hx)⟩
theorem clamp (m x : Int) (h : 0 ≤ m) : 0 ≤ (if (if x < m then x else m) > 0 then (if x < m then x else m) else 0) ∧ (if (if x < m then x else m) > 0 then (if x < m then x else m) else 0) < m + 1 := by
  split <;> split at * <;> omega
theorem ok_chain {f : Addr} {fd : FuncData} (F : Fun K "_law_chain" "_law_chain" sChain f fd) (T : LawTxt K mg fC fD fO fdC fdD fdO) : FnOk P w K mg base CX0 3 f fd ["_law_d", "_law_most"] (spChain K) := by
  have GO : FnOk P w K mg base CX0 2 fO fdO ["_law_d", "_law_most"] (spOff K) := T.off
  refine F.ok scChain (fun vs H Q E h => ?_) (fun cdv A outer s H vs Q E hr h => ?_)
  · obtain ⟨d, l, ns, most, rfl, _⟩ := h
    rfl
  · obtain ⟨d, l, ns, most, rfl, hD, hm1, hm6, q⟩ := h
    refine ⟨_, pss_cons (ps_set (i := 2) scChain.nd rfl (.inr rfl) (pe_op op_add pe_int (pe_call GO hr (by rfl) T.gO T.FO.kp T.bO .nil pass0 (pa_cons (pv 0) (pa_cons (pv 1) pa_nil)))))
      (pss_cons (ps_set (i := 3) scChain.nd rfl (.inl rfl) (pe_call GO hr (by rfl) T.gO T.FO.kp T.bO .nil pass0 (pa_cons (pv 0) (pa_cons pe_int pa_nil))))
      (pss_cons (ps_set (i := 4) scChain.nd rfl (.inl rfl) (pe_lst pa_nil))
      (pss_cons (ps_for PassesOwn.never rfl (pi_range1 (by rfl) T.mr (pa_cons (pe_op op_add pe_int (pe_call GO hr (by rfl) T.gO T.FO.kp T.bO .nil pass0 (pa_cons (pv 0)
            (pa_cons (pe_ix ix_list (pe_lst (pa_cons pe_int (pa_cons pe_int (pa_cons pe_int pa_nil)))) (pe_call GO hr (by rfl) T.gO T.FO.kp T.bO .nil pass0 (pa_cons (pv 0) (pa_cons pe_int pa_nil))) (fun _ _ => rfl)) pa_nil)))) pa_nil))
          (pg_name (i := 5) scChain.nd rfl (.inl rfl))
          (pss_cons (ps_setLc (i := 6) (own := [("_law_place", 8)]) (g := gName 8) (tt := tYes) rfl scChain.nd rfl rfl (sw_true rfl rfl rfl (by decide +kernel)) (pi_range1 (by rfl) T.mr (pa_cons (pv 2) pa_nil)) (blkOk_by (N := nChain) (sc := defScope sChain) (by decide +kernel))
              (fun _ _ _ _ _ => pg_name (i := 8) scChain.nd rfl (.inl rfl)) (fun _ _ _ _ _ => pts_nil)
              (fun _ _ _ _ _ => pe_call GO hr (by rfl) T.gO T.FO.kp T.bO .nil pass0 (pa_cons (pv 0) (pa_cons (pv 2) pa_nil))))
          (C8.pss_cut (ps_if (pt_cmpR op_eq (pv 3) pe_int (nomark _)) (pss_one (ps_set (i := 6) scChain.nd rfl (.inl rfl) (pe_callB cr_sorted (by rfl) T.ms (by decide +kernel) (pa_cons (pv 6) pa_nil)))) pss_nil)
          (C8.pss_cut (ps_if (pt_cmpR op_eq (pv 3) pe_int (nomark _)) (pss_one
              (ps_setLc (i := 6) (own := [("_law_place", 8)]) (g := gName 8) (tt := tYes) rfl scChain.nd rfl rfl (sw_true rfl rfl rfl (by decide +kernel)) (pi_range1 (by rfl) T.mr (pa_cons (pv 2) pa_nil)) (blkOk_by (N := nChain) (sc := defScope sChain) (by decide +kernel))
              (fun _ _ _ _ _ => pg_name (i := 8) scChain.nd rfl (.inl rfl)) (fun _ _ _ _ _ => pts_nil)
              (fun _ _ _ _ _ => pe_callB (call_max2 rfl) (by rfl) T.mm (by decide +kernel) (pa_cons pe_int (pa_cons (pe_callB (call_min2 rfl) (by rfl) T.mn (by decide +kernel) (pa_cons (pe_op op_sub (pv 2) pe_int) (pa_cons
                (pe_op op_sub (pe_op op_add (pv 8) (pe_call GO hr (by rfl) T.gO T.FO.kp T.bO .nil pass0 (pa_cons (pv 0) (pa_cons pe_int pa_nil)))) pe_int) pa_nil))) pa_nil))))) pss_nil)
          (pss_cons (ps_set (i := 7) scChain.nd rfl (.inl rfl) (pe_ix ix_list (pe_lst (pa_cons pe_int (pa_cons (pe_op op_add pe_int (pe_call GO hr (by rfl) T.gO T.FO.kp T.bO .nil pass0 (pa_cons (pv 0) (pa_cons pe_int pa_nil))))
              (pa_cons (pe_op op_add pe_int (pe_call GO hr (by rfl) T.gO T.FO.kp T.bO .nil pass0 (pa_cons (pv 0) (pa_cons pe_int pa_nil)))) pa_nil)))) (pe_call GO hr (by rfl) T.gO T.FO.kp T.bO .nil pass0 (pa_cons (pv 0) (pa_cons pe_int pa_nil))) (fun _ _ => rfl)))
          (pss_one (ps_expr (pe_bm PySem.F.plainAttrs_list PySem.F.slot_list_append PySem.F.type_list_append mt_append (pv 4) (pa_cons (pe_tup (pa_cons (pv 7) (pa_cons (pe_callTy call_tuple_of (by rfl) T.mt (by decide +kernel) (pa_cons (pv 6) pa_nil)) pa_nil))) pa_nil)))))))))
      (pss_one (ps_ret (pe_tup (pa_cons (pv 2) (pa_cons (pv 4) pa_nil)))))))), ?_⟩
    -- many, way, moves
    refine ⟨.ref d, rfl, .int most, rfl, d, l, ns, _, rfl, hD, by omega, by omega, fun r H1 hr1 hD1 o1 => ?_⟩
    refine ⟨1, r, rfl, rfl, .ref d, rfl, d, l, ns, _, rfl, hD1, by omega, by omega, fun way H2 hr2 hD2 o2 => ?_⟩
    obtain ⟨many, em⟩ : ∃ many : Nat, many = 1 + r := ⟨_, rfl⟩
    have em2 : (1 : Int) + (r : Int) = (many : Int) := by omega
    have g2 : Gr d H H2 := ((Gr.refl d H).off o1).off o2
    refine ⟨Nat.zero_le _, fun m nm => ?_⟩
    have hD3 : Dc K l ns (upd H2 m (.lst [])) d := hD2.new nm
    have g3 : Gr d H (upd H2 m (.lst [])) := g2.new nm
    have hm3 : (upd H2 m (.lst [])) m = some (.lst []) := upd_same
    -- the loop's range
    refine ⟨.ref d, rfl, (by show 3 ≤ sizeLine; decide), fun L nL => ?_⟩
    have hD4 := hD3.new (o := .lst [.int 4, .int 4, .int 8]) nL
    have g4 : Gr d H (upd (upd H2 m (.lst [])) L (.lst [.int 4, .int 4, .int 8])) := g3.new nL
    have nLm : L ≠ m := fun z => by rw [z, upd_same] at nL; cases nL
    have hm4 : (upd (upd H2 m (.lst [])) L (.lst [.int 4, .int 4, .int 8])) m = some (.lst []) := by rw [upd_ne (Ne.symm nLm)]; exact hm3
    have hL4 : (upd (upd H2 m (.lst [])) L (.lst [.int 4, .int 4, .int 8])) L = some (.lst [.int 4, .int 4, .int 8]) := upd_same
    generalize (upd (upd H2 m (.lst [])) L (.lst [.int 4, .int 4, .int 8])) = H4 at hD4 g4 hm4 hL4 ⊢
    refine ⟨.ref d, rfl, d, l, ns, _, rfl, hD4, by omega, by omega, fun r3 H5 hr3 hD5 o5 => ?_⟩
    have nmd : m ≠ d := hD2.ne nm
    have nLd : L ≠ d := hD3.ne nL
    have hL5 : H5 L = some (.lst [.int 4, .int 4, .int 8]) := by rw [o5 _ nLd]; exact hL4
    have hm5 : H5 m = some (.lst []) := by rw [o5 _ nmd]; exact hm4
    have g5 : Gr d H H5 := g4.off o5
    obtain ⟨c, hc4, hc8, hc⟩ : ∃ c : Int, 4 ≤ c ∧ c ≤ 8 ∧ ([.int 4, .int 4, .int 8] : List V)[r3]? = some (.int c) := by
      have h3 : r3 < 3 := by omega
      match r3, h3 with
      | 0, _ => exact ⟨4, by decide, by decide, rfl⟩
      | 1, _ => exact ⟨4, by decide, by decide, rfl⟩
      | 2, _ => exact ⟨8, by decide, by decide, rfl⟩
    refine ⟨L, _, _, _, rfl, rfl, SqL.of hL5, atI_nat hc, d, l, ns, _, rfl, hD5, by omega, by omega, fun cnt H6 hr6 hD6 o6 => ?_⟩
    have hm6' : H6 m = some (.lst []) := by rw [o6 _ nmd]; exact hm5
    have g6 : Gr d H H6 := g5.off o6
    refine ⟨1, cnt, rfl, rfl, _, rfl, by omega, by omega, ?_⟩
    have en : ((1 : Int) + (cnt : Int)).toNat = 1 + cnt := by omega
    refine for_range (lo := 0) (n := ((1 : Int) + (cnt : Int)).toNat)
      (fun i σ H' => ∃ y5 y6 y7 ms ws, σ = [some (.ref d), some (.int (most : Int)), some (.int ((1 : Int) + (r : Int))), some (.int (way : Int)), some (.ref m), y5, y6, y7, none] ∧
        Dc K l ns H' d ∧ Gr d H H' ∧ H' m = some (.lst ws) ∧ MovesAt H' ws ms ∧ ms.length = i ∧ ∀ mv ∈ ms, GoodMv many mv)
      ⟨none, none, none, [], [], rfl, hD6, g6, hm6', .nil, rfl, fun _ z => nomatch z⟩ ?_ ?_
    · rintro i σ H7 hi ⟨y5, y6, y7, ms, ws, rfl, hD7, g7, hm7, hM7, hl7, hg7⟩
      rw [en] at hi
      -- row = [off(d, many) for place in range(many)]
      refine ⟨_, rfl, _, rfl, by omega, by omega, fun D nD => ?_⟩
      have nDd : D ≠ d := hD7.ne nD
      have er : ((1 : Int) + (r : Int)).toNat = many := by omega
      refine lc_range (lo := 0) (n := ((1 : Int) + (r : Int)).toNat)
        (fun j H' => ∃ row : List Int, H' D = some (.lst (row.map V.int)) ∧ row.length = j ∧ (∀ x ∈ row, 0 ≤ x ∧ x < (many : Int)) ∧ Dc K l ns H' d ∧ Gr d H7 H')
        ⟨[], upd_same, rfl, (fun _ z => nomatch z), hD7.new nD, (Gr.refl d H7).new nD⟩ ?_ ?_
      · rintro j H8 hj ⟨row, hrow, hrl, hrx, hD8, g8⟩
        refine ⟨rfl, .ref d, rfl, _, rfl, d, l, ns, _, rfl, hD8, by omega, by omega, fun x H9 hx hD9 o9 => ?_⟩
        have hrow9 : H9 D = some (.lst (row.map V.int)) := by rw [o9 _ nDd]; exact hrow
        refine ⟨_, hrow9, ?_, row ++ [(x : Int)], ?_, ?_, ?_, hD9.turn hD7 nD nDd, ?_⟩
        · rw [List.length_map, hrl]
          exact small8 (by omega)
        · rw [upd_same, List.map_append]
          rfl
        · rw [List.length_append, hrl]
          rfl
        · intro z hz
          rcases List.mem_append.mp hz with hz | hz
          · exact hrx z hz
          · have e : z = (x : Int) := by simpa using hz
            omega
        · intro b o nb e
          have e8 := g8.off o9 b o nb e
          rw [upd_ne (ne_of_none e nD)]
          exact e8
      · rintro H8 ⟨row, hrow, hrl, hrx, hD8, g8⟩
        have hR : GoodRow many row := ⟨hrl.trans er, hrx⟩
        let Mid : L2.St → Hp → Prop := fun σ H9 => ∃ D9 row, σ = [some (.ref d), some (.int (most : Int)), some (.int ((1 : Int) + (r : Int))), some (.int (way : Int)), some (.ref m), some (.int (0 + (i : Int))), some (.ref D9), y7, none] ∧
          H9 D9 = some (.lst (row.map V.int)) ∧ GoodRow many row ∧ Dc K l ns H9 d ∧ Gr d H7 H9
        have mid0 : Mid [some (.ref d), some (.int (most : Int)), some (.int ((1 : Int) + (r : Int))), some (.int (way : Int)), some (.ref m), some (.int (0 + (i : Int))), some (.ref D), y7, none] H8 := ⟨D, row, rfl, hrow, hR, hD8, g8⟩
        refine ⟨Mid, ⟨_, rfl, rfl, _, rfl, ite2 (fun e => ?_) (fun e => mid0)⟩, ?_⟩
        · -- row = sorted(row)
          refine ⟨_, rfl, D, row, rfl, SqL.of hrow, by omega, fun ns' p hp _ np => ?_⟩
          exact ⟨p, ns', rfl, upd_same, perm_row hp hR, hD8.new np, g8.new np⟩
        · rintro σ9 H9 ⟨D9, row9, rfl, hrow9, hR9, hD9, g9⟩
          refine ⟨Mid, ⟨_, rfl, rfl, _, rfl, ite2 (fun e => ?_) (fun e => ⟨D9, row9, rfl, hrow9, hR9, hD9, g9⟩)⟩, ?_⟩
          · -- row = [max(0, min(many - 1, ..)) ..]
            refine ⟨_, rfl, _, rfl, by omega, by omega, fun D' nD' => ?_⟩
            have nDd' : D' ≠ d := hD9.ne nD'
            refine lc_range (lo := 0) (n := ((1 : Int) + (r : Int)).toNat)
              (fun j H' => ∃ row : List Int, H' D' = some (.lst (row.map V.int)) ∧ row.length = j ∧ (∀ x ∈ row, 0 ≤ x ∧ x < (many : Int)) ∧ Dc K l ns H' d ∧ Gr d H9 H')
              ⟨[], upd_same, rfl, (fun _ z => nomatch z), hD9.new nD', (Gr.refl d H9).new nD'⟩ ?_ ?_
            · rintro j H10 hj ⟨row', hrow', hrl', hrx', hD10, g10⟩
              refine ⟨rfl, _, rfl, _, _, rfl, rfl, _, rfl, .ref d, rfl, d, l, ns, _, rfl, hD10, by omega, by omega, fun x H11 hx hD11 o11 => ?_⟩
              refine ⟨_, _, rfl, rfl, _, _, rfl, rfl, _, _, rfl, _, _, rfl, ?_⟩
              have cl := clamp ((1 : Int) + (r : Int) - 1) (0 + (j : Int) + (x : Int) - 1) (by omega)
              generalize (if (if 0 + (j : Int) + (x : Int) - 1 < (1 : Int) + (r : Int) - 1 then 0 + (j : Int) + (x : Int) - 1 else (1 : Int) + (r : Int) - 1) > 0 then
                (if 0 + (j : Int) + (x : Int) - 1 < (1 : Int) + (r : Int) - 1 then 0 + (j : Int) + (x : Int) - 1 else (1 : Int) + (r : Int) - 1) else 0) = z at cl ⊢
              have hrow9 : H11 D' = some (.lst (row'.map V.int)) := by rw [o11 _ nDd']; exact hrow'
              refine ⟨_, hrow9, ?_, row' ++ [z], ?_, ?_, ?_, hD11.turn hD9 nD' nDd', ?_⟩
              · rw [List.length_map, hrl']
                exact small8 (by omega)
              · rw [upd_same, List.map_append]
                rfl
              · rw [List.length_append, hrl']
                rfl
              · intro y hy
                rcases List.mem_append.mp hy with hy | hy
                · exact hrx' y hy
                · have e : y = z := by simpa using hy
                  omega
              · intro b o nb e
                have e8 := g10.off o11 b o nb e
                rw [upd_ne (ne_of_none e nD')]
                exact e8
            · rintro H10 ⟨row', hrow', hrl', hrx', hD10, g10⟩
              exact ⟨D', row', rfl, hrow', ⟨hrl'.trans er, hrx'⟩, hD10, g9.trans g10⟩
          · rintro σ10 H10 ⟨D10, row, rfl, hrow, hR, hD10, g10⟩
            -- weight = [1, 1 + off(d, 4), 1 + off(d, 99)][off(d, 3)]
            have g10' : Gr d H H10 := g7.trans g10
            refine ⟨.ref d, rfl, d, l, ns, _, rfl, hD10, by omega, by omega, fun x1 H11 hx1 hD11 o11 => ?_⟩
            refine ⟨1, x1, rfl, rfl, .ref d, rfl, d, l, ns, _, rfl, hD11, by omega, by omega, fun x2 H12 hx2 hD12 o12 => ?_⟩
            refine ⟨1, x2, rfl, rfl, (by show 3 ≤ sizeLine; decide), fun W nW => ?_⟩
            have hD13 := hD12.new (o := .lst [.int 1, .int (1 + (x1 : Int)), .int (1 + (x2 : Int))]) nW
            have nWd : W ≠ d := hD12.ne nW
            have g13 : Gr d H10 (upd H12 W (.lst [.int 1, .int (1 + (x1 : Int)), .int (1 + (x2 : Int))])) := (((Gr.refl d H10).off o11).off o12).new nW
            have hW13 : (upd H12 W (.lst [.int 1, .int (1 + (x1 : Int)), .int (1 + (x2 : Int))])) W = some (.lst [.int 1, .int (1 + (x1 : Int)), .int (1 + (x2 : Int))]) := upd_same
            refine ⟨.ref d, rfl, d, l, ns, _, rfl, hD13, by omega, by omega, fun x3 H14 hx3 hD14 o14 => ?_⟩
            have hW14 : H14 W = some (.lst [.int 1, .int (1 + (x1 : Int)), .int (1 + (x2 : Int))]) := by rw [o14 _ nWd]; exact hW13
            have g14 : Gr d H10 H14 := g13.off o14
            obtain ⟨wt, hw1, hw9, hw⟩ : ∃ c : Int, 1 ≤ c ∧ c ≤ 99 ∧ ([.int 1, .int (1 + (x1 : Int)), .int (1 + (x2 : Int))] : List V)[x3]? = some (.int c) := by
              have h3 : x3 < 3 := by omega
              match x3, h3 with
              | 0, _ => exact ⟨1, by decide, by decide, rfl⟩
              | 1, _ => exact ⟨1 + (x1 : Int), by omega, by omega, rfl⟩
              | 2, _ => exact ⟨1 + (x2 : Int), by omega, by omega, rfl⟩
            refine ⟨W, _, _, _, rfl, rfl, SqL.of hW14, atI_nat hw, ?_⟩
            -- moves.append((weight, tuple(row)))
            have nm' : ∀ {H'}, Dc K l ns H' d → H' m = H' m := fun _ => rfl
            have hm14 : H14 m = some (.lst ws) := (g10.trans g14) m _ nmd hm7
            have nD10 : D10 ≠ d := hD10.ne_of hrow fun s0 l k big z => by
              injection z with z
              exact map_int_dl z
            have hrow14 : H14 D10 = some (.lst (row.map V.int)) := g14 D10 _ nD10 hrow
            refine ⟨.ref m, rfl, .inl ⟨rfl, _, SqL.of hm14⟩, .int wt, rfl, .ref D10, rfl, D10, _, rfl, .inl ⟨SqL.of hrow14, fun tq ntq => ?_⟩⟩
            refine ⟨by show 2 ≤ sizeLine; decide, fun tp ntp => ?_⟩
            have g16 : Same H14 (upd (upd H14 tq (.tup (row.map V.int))) tp (.tup [.int wt, .ref tq])) := (same_new ntq).trans (same_new ntp)
            have htp : (upd (upd H14 tq (.tup (row.map V.int))) tp (.tup [.int wt, .ref tq])) tp = some (.tup [.int wt, .ref tq]) := upd_same
            have htq : (upd (upd H14 tq (.tup (row.map V.int))) tp (.tup [.int wt, .ref tq])) tq = some (.tup (row.map V.int)) := by
              rw [upd_ne (ne_of_none upd_same ntp)]
              exact upd_same
            have hD16 := hD14.same g16
            generalize (upd (upd H14 tq (.tup (row.map V.int))) tp (.tup [.int wt, .ref tq])) = H16 at g16 htp htq hD16 ⊢
            have hm16 := g16 m _ hm14
            have gt : Gr d H7 H16 := (g10.trans g14).trans (Gr.of_same g16)
            have hM16 : MovesAt H16 ws ms := hM7.same (gt.tups (K := K) hD7)
            have hl := hM16.length
            refine ⟨m, _, _, rfl, rfl, hm16, by rw [hl]; exact small8 (by omega), ?_⟩
            refine ⟨some (.int (0 + (i : Int))), some (.ref D10), some (.int wt), ms ++ [(wt, row)], ws ++ [.ref tp], rfl, hD16.turn hD2 nm nmd, ?_, upd_same, ?_, by rw [List.length_append, hl7]; rfl, ?_⟩
            · intro b o nb e
              by_cases hb : b = m
              · rw [hb] at e nb
                have z := g2 m o nb e
                rw [nm] at z
                cases z
              · rw [upd_ne hb]
                exact (g7.trans gt) b o nb e
            · refine MovesAt.same (H := H16) ?_ (MovesAt.snoc ⟨tp, tq, rfl, htp, htq⟩ hM16)
              intro b xs e
              rw [upd_ne]
              · exact e
              · intro z
                rw [z, hm16] at e
                cases e
            · intro mv hmv
              rcases List.mem_append.mp hmv with hmv | hmv
              · exact hg7 mv hmv
              · have e : mv = (wt, row) := by simpa using hmv
                subst e
                exact ⟨hw1, hw9, hR⟩
    · rintro σ7 H7 ⟨y5, y6, y7, ms, ws, rfl, hD7, g7, hm7, hM7, hl7, hg7⟩
      refine ⟨_, rfl, .ref m, rfl, (by show 2 ≤ sizeLine; decide), fun t nt => ?_⟩
      refine q t m many ws ms _ ⟨by omega, by omega, by omega, by omega, hg7⟩ (by omega) ⟨?_, same_new nt _ _ hm7, hM7.same (Same.tups (same_new nt))⟩ (hD7.new nt) (g7.new nt)
      rw [← em2]
      exact upd_same
end
end
/-! ### all(x in range(y) for x in a tuple of ints): a rule of our own -/
/-- the element: x in range(y), y a captured int -/
def eltR (x y : Str) (p1 p2 p3 p4 p5 : Pos) : Expr := .Compare (.Name x p1) [.In] [.Call (.Name "range" p2) [.Name y p3] [] p4] p5
def inR (n z : Int) : Bool := decide (0 ≤ z ∧ z < n)
theorem elt_range {prog : Program} {w : World} {cenv : Env} {A : Around} {E : Value → Shared → Prop} {x y : Str} {p1 p2 p3 p4 p5 : Pos} {s : Shared} {m mg mb : Str → Option Value} {cc : Addr} {z n : Int} {t u : Tok}
    (kf : cenv.scope.kind = .function) (kx : cenv.kindOf x = some .local) (ky : cenv.kindOf y = some .free) (kr : cenv.kindOf "range" = some .globalImplicit) (hm : s.heap.Ns cenv.locals m) (ex : m x = some (.int z t))
    (hc : cenv.cells.lookup y = some cc) (ec : s.heap.IsCell cc (some (.int n u))) (hg : s.heap.Ns cenv.globals mg) (nr : mg "range" = none) (hb : s.heap.Ns cenv.builtins mb) (br : mb "range" = some (.type "range"))
    (dx : (x == ("__debug__" : Str)) = false) (dy : (y == ("__debug__" : Str)) = false) (cy : (y == ("__classdict__" : Str)) = false) :
    wpAny (model prog w) A (eval (eltR x y p1 p2 p3 p4 p5) cenv) (fun v s' => v = .bool (inR n z) ∧ Keeps s s') E s := by
  refine wpAny_Compare1 (wpAny_Name (wpAny_loadName_local kf kx hm ex ?_) dx) (by rfl)
  refine wpAny_Call_Name_kw (Calls.Name_function_global kf kr (Calls.loadGlobal_builtin hg nr hb br ?_) (by decide))
  refine PyProof.Rows.callWith_type1 (Calls.spliced_cons (wpAny_Name (wpAny_loadName_free kf ky hc ec ?_ cy) dy)) (by rfl) (by rfl)
  refine Calls.spliced_nil (call_range_1 ?_)
  have ho := Heap.get?_push_size s.heap (o := { cls := .type "range", data := .fields #[.int 0 s.toks, .int n u, .int 1 (s.toks + 1)] }) rfl
  show wpAny _ _ (do return Value.bool (← contains (Value.ref s.heap.objs.size) (Value.int z t))) _ _ _
  refine wpAny_bind (wpAny_contains_slot (T := "range") ⟨_, ho, rfl⟩ F.slot_range_contains (call_meets F.slot_range_contains ⟨_, ho, rfl⟩ F.entry_range_contains (F.args_range_contains_2 _ _) (q_contains s.heap.objs.size 0 n z s.toks u (s.toks + 1) t) ⟨ho, ?_⟩))
  refine wpAny_truthy_bool (wpAny_pure ⟨?_, _, _, rfl, fun b o e => Heap.get?_push_of_some _ e⟩)
  rw [place1]
  rfl
open GxR in
/-- the walk that all(..) makes, once the generator stands at g -/
def AllReady (X : Cx) (pins : List (Addr × Obj)) (σ : L2.St) (H1 : Hp) (P : Addr) (bs : List Bool) (g : Addr) (s5 : Shared) : Prop :=
  ∃ (fp wr : List Addr) (G : Array GenState → Array GenState → Prop) (F : Nat → Value → Prop) (St : Nat → Shared → Prop) (tr : Nat → Bool),
    WalksS X.prog X.w X.A.in1 g fp wr G bs.length F St ∧ St 0 s5 ∧ TruthOf X.prog X.w X.A.in1 F tr ∧ (∀ j b, bs[j]? = some b → tr j = b) ∧
    ∀ s', Moved wr G s5 s' → ∃ H2, Tabbed P H1 H2 ∧ Inv X pins σ H2 s'
theorem clo_one {cells : List (Str × Addr)} : ∀ (names : List (Str × NameKind)) (acc : List (Str × Addr)) (y : Str) (cc : Addr), (∀ p ∈ names, p.2 = .free → cells.lookup p.1 = some ((cells.lookup p.1).getD 0)) → cells.lookup y = some cc →
    ((y, NameKind.free) ∈ names ∨ acc.lookup y = some cc) → (cloFrom cells names acc).lookup y = some cc := by
  intro names
  induction names with
  | nil =>
    intro acc y cc _ _ h
    rcases h with h | h
    · cases h
    · exact h
  | cons p r ih =>
    intro acc y cc hf hy h
    obtain ⟨n, kd⟩ := p
    unfold cloFrom
    have hf' : ∀ p ∈ r, p.2 = .free → cells.lookup p.1 = some ((cells.lookup p.1).getD 0) := fun p hp => hf p (List.mem_cons_of_mem _ hp)
    by_cases hk : (kd == NameKind.free) = true
    · rw [if_pos hk]
      refine ih _ y cc hf' hy ?_
      by_cases hn : y = n
      · subst hn
        refine .inr ?_
        rw [List.lookup_cons_self, hy]
        rfl
      · rcases h with h | h
        · rcases List.mem_cons.mp h with e | e
          · injection e with e1 _
            exact absurd e1 hn
          · exact .inl e
        · refine .inr ?_
          rw [List.lookup_cons, show (y == n) = false from by simpa using hn]
          exact h
    · rw [if_neg hk]
      refine ih _ y cc hf' hy ?_
      rcases h with h | h
      · rcases List.mem_cons.mp h with e | e
        · injection e with _ e2
          exact absurd (by rw [← e2]; rfl) hk
        · exact .inl e
      · exact .inr h
/-- the generator's code object: there already, or made and put into the table -/
theorem gen_code {M : Model} {A : Around} {env : Env} {c P : Addr} {gpos : Pos} {q : Str} {scope : Scope} {E : Value → Shared → Prop} {Q : Value → Shared → Prop} {s : Shared} {ps : Array Value} (hcode : env.code = .ref c) (cd : PySem.W.CodeHd s.heap c P)
    (hP : s.heap.get? P = some { cls := .none, data := .fields ps }) (ht : TriplesOk ps.toList)
    (h : ∀ (code : Value) (h3 : Heap) (tk : Nat) (more : Array Value), Heap.ExtBut P s.heap h3 → s.heap.objs.size ≤ h3.objs.size → h3.get? P = some { cls := .none, data := .fields (ps ++ more) } → TriplesOk (ps ++ more).toList → Q code { s with heap := h3, toks := tk }) :
    wpAny M A (genexprCode env gpos q scope) Q E s := by
  match hf : codeAmong gpos ps.toList with
  | some cv => exact wpAny_genexprCode_hit hcode (cd.code hP ht) hf (h cv s.heap s.toks #[] (Heap.ExtBut.refl _ _) (Nat.le_refl _) (by rw [Array.append_empty]; exact hP) (by rw [Array.append_empty]; exact ht))
  | none =>
    refine wpAny_genexprCodeX hcode (cd.code hP ht) (cd.tab hP) hf fun c' h' tk hx hge hlt hco _ htab _ => h _ h' tk _ hx (Nat.le_trans hge (Nat.le_of_lt hlt)) htab.2 ?_
    obtain ⟨_, _, _, _, _, _, _, _, _, _, _, _, _, _, _, _, _, _, _, htr, _⟩ := hco
    exact htr
section
variable {X : Cx} {pins : List (Addr × Obj)} {σ : L2.St} {H : Hp} {s : Shared}
open GxR in
theorem gen_range {c P : Addr} {iter : Expr} {x y : Str} {px gpos p1 p2 p3 p4 p5 : Pos} {scope : Scope} {te : TE} {k i : Nat} {Q' : Value → Shared → Prop} {R : List Int → Int → Hp → Prop}
    (hr : Room k X.A) (TB : TabB X.base X.mg c P) (hcode : X.env.code = .ref c) (S : GenS X.env scope x) (hi : PE X iter te) (hy : X.N[i]? = some y) (vy : X.env.kindOf y = some .cell) (fy : (y, NameKind.free) ∈ scope.names) (ly : scope.names.lookup y = some .free)
    (lr : scope.names.lookup ("range" : Str) = some .globalImplicit) (nr : X.mg "range" = none) (dx : (x == ("__debug__" : Str)) = false) (dy : (y == ("__debug__" : Str)) = false) (cy : (y == ("__classdict__" : Str)) = false)
    (hs : ∀ v, genFold iter X.env v = pure v) (I : Inv X pins σ H s) (h : te σ H fun v H1 => ∃ (a : Addr) (ns : List Int) (n : Int), v = .ref a ∧ SqT X.K H1 a (ns.map V.int) ∧ TabG H1 P ∧ σ[i]? = some (some (.int n)) ∧ R ns n H1)
    (hQ : ∀ ns n H1 g s5, R ns n H1 → AllReady X pins σ H1 P (ns.map (inR n)) g s5 → Q' (.ref g) s5) :
    wpAny (model X.prog X.w) X.A (eval (.GeneratorExp (eltR x y p1 p2 p3 p4 p5) [⟨.Name x px, iter, [], 0⟩] scope gpos) X.env) Q' X.xe s := by
  refine wpAny_GeneratorExp_walksQ hr.hd S.co (closure_ok S.free) S.cell S.dot S.loc S.kind (by have := hr.dp; omega) ?_ hs
  refine thn (hi.run pins s σ H _ I h) fun xv s1 ⟨v, H1, I1, r1, a, ns, n, ev, hT, hTab, hn, hR⟩ => ?_
  subst ev
  obtain rfl : xv = Value.ref a := r1
  obtain ⟨its, rv, hTup, hz⟩ := I1.tuple hT
  have tupAt : s1.heap.IsTuple a its.toArray := hTup
  -- the captured int
  obtain ⟨cc, u, hcc, hcell⟩ : ∃ (cc : Addr) (u : Tok), X.env.cells.lookup y = some cc ∧ s1.heap.IsCell cc (some (.int n u)) := by
    obtain ⟨m, _, hl⟩ := I1.loc
    obtain ⟨uv, ru, lk⟩ := hl i y (.int n) hy hn (.inr (.inl vy))
    obtain ⟨u, eu⟩ := ru
    subst eu
    rcases lk with ⟨k1, _⟩ | ⟨_, cc, e1, e2⟩
    · rw [vy] at k1
      cases k1
    · exact ⟨cc, u, e1, e2⟩
  obtain ⟨mb, bb1, bb2⟩ := I1.mod.blt
  have lenI : its.toArray.size = ns.length := by
    have e := rv.length
    rw [List.length_map] at e
    simp only [List.size_toArray]
    omega
  obtain ⟨ps, hP, hps⟩ := hTab
  refine wpAny_pyIter_tuple tupAt ?_
  -- it: the iterator's object
  let it : Obj := { cls := .type "tuple_iterator", data := .fields #[.ref a, .int 0 0] }
  have atP : s1.heap.get? P = some { cls := .none, data := .fields ps } := I1.hok P _ hP
  have ltP : P < s1.heap.objs.size := Heap.lt_size atP
  have limI : (s1.heap.push it).NoLimit := I1.nolimit.push it
  have keepI : ∀ b o, s1.heap.get? b = some o → (s1.heap.push it).get? b = some o := fun b o e => Heap.get?_push_of_some _ e
  have codeI : PySem.W.CodeHd (s1.heap.push it) c P := TB.code.keeps fun b o e => keepI b o (I1.bk b o e)
  have ltS : cStatics < s1.heap.objs.size := let ⟨_, q, _⟩ := I1.nolimit; q.lt
  have neS : cStatics ≠ P := fun e => by
    obtain ⟨_, ⟨o', es, ep, g1, g2, _⟩, _⟩ := I1.nolimit
    rw [e, atP] at g1
    cases g1
    cases g2
  have szI : (s1.heap.push it).objs.size = s1.heap.objs.size + 1 := Heap.size_push ..
  have iterI : (s1.heap.push it).IsTupleIter s1.heap.objs.size a 0 := ⟨_, Heap.get?_push_size _ rfl, rfl, rfl⟩
  have tupI : (s1.heap.push it).IsTuple a its.toArray := by
    obtain ⟨o, e, r⟩ := tupAt
    exact ⟨o, keepI _ _ e, r⟩
  have neIt : a ≠ s1.heap.objs.size := by
    obtain ⟨o, e, _⟩ := tupAt
    exact Nat.ne_of_lt (Heap.lt_size e)
  have neAP : a ≠ P := fun e => by
    obtain ⟨o, g, _, nn, dd⟩ := tupAt
    rw [e, atP] at g
    cases g
    cases dd
  have Wk : ∀ A' : Around, A'.handled = none → Walks X.prog X.w A' s1.heap.objs.size [s1.heap.objs.size, a] [s1.heap.objs.size] its.toArray.size (fun j v => its.toArray[j]? = some v) (fun j hp => hp.IsTupleIter s1.heap.objs.size a j ∧ hp.IsTuple a its.toArray) :=
    fun A' hA => Walks.tuple hA s1.heap.objs.size a neIt its.toArray
  refine ⟨limI, gen_code hcode codeI (keepI _ _ atP) hps fun code h3 tk more hx hge hP3 ht3 => ?_⟩
  have hge2 : s1.heap.objs.size + 1 ≤ h3.objs.size := by
    rw [← szI]
    exact hge
  have keep3 : ∀ b o, b ≠ P → s1.heap.get? b = some o → h3.get? b = some o := fun b o nb e => hx b o nb (keepI b o e)
  obtain ⟨bm, ob, f1, f2, f3, f4, f5, f6, f7, f8⟩ := TB.bm
  have glob3 : h3.Ns X.env.globals X.mg := by
    rw [I1.ok.glob]
    exact ((I1.mod.glob.keeps I1.bk).push it).extBut hx TB.gP
  refine wpAny_builtinsFor (m := X.mg) glob3 f1 f2 (keep3 _ _ f4 (I1.bk _ _ f5)) f6 f7 f8 ?_
  refine ⟨s1.heap.objs.size, [s1.heap.objs.size, a], [s1.heap.objs.size], its.toArray.size, fun j v => its.toArray[j]? = some v, _, fun _ => true, fun j v => ∃ z, ns[j]? = some z ∧ v = .bool (inR n z), rfl, Wk, ?_, ?_, limI.extBut hx neS, ?_, ?_, ?_⟩
  · refine ⟨?_, ?_⟩
    · obtain ⟨o, e, r⟩ := iterI
      exact ⟨o, hx _ _ (Nat.ne_of_gt ltP) e, r⟩
    · obtain ⟨o, e, r⟩ := tupI
      exact ⟨o, hx _ _ neAP e, r⟩
  · intro b hb
    show b < h3.objs.size
    rcases List.mem_cons.mp hb with e | e
    · rw [e]
      exact Nat.lt_of_succ_le hge2
    · have e2 : b = a := by simpa using e
      obtain ⟨o, g, _⟩ := tupAt
      have lta := Heap.lt_size g
      rw [e2]
      exact Nat.lt_of_lt_of_le lta (by omega)
  · intro hmem
    have e : cStatics = s1.heap.objs.size := by simpa using hmem
    rw [e] at ltS
    exact Nat.lt_irrefl _ ltS
  · intro href hhref
    refine ⟨fun A' E' j v s₂ m₂ hA hPv ha2 hb2 hk => ?_, fun A' E' j v s₂ m₂ hA hPv _ ha2 hb2 hk => ?_⟩
    · simp only [List.forIn_nil]
      exact wpAny_pure ⟨rfl, s₂.heap, s₂.toks, rfl, fun _ _ e => e⟩
    · -- what stood ahead of the generator stands
      have old : ∀ b o, b ≠ P → s1.heap.get? b = some o → s₂.heap.get? b = some o := fun b o nb e => by
        refine hk b (List.mem_range.mpr ?_) (fun z => ?_) o (hhref b o (keep3 b o nb e))
        · exact Nat.lt_of_lt_of_le (Heap.lt_size e) (by show s1.heap.objs.size ≤ h3.objs.size; omega)
        · have e2 : b = s1.heap.objs.size := by simpa using z
          exact Nat.ne_of_lt (Heap.lt_size e) e2
      have nPb : ∀ b o, X.base.get? b = some o → b ≠ P := fun b o e z => by
        have q := (I1.bs b o e).2
        rw [z, hP] at q
        cases q
      have hjv : its[j]? = some v := by simpa using hPv
      obtain ⟨zv, ez, rz⟩ : ∃ z, ns[j]? = some z ∧ RelV (.int z) v := by
        have hj : j < ns.length := by
          obtain ⟨h, _⟩ := List.getElem?_eq_some_iff.mp hjv
          simpa [lenI] using (show j < its.toArray.size by simpa using h)
        obtain ⟨uu, g1, g2⟩ := rv.get (i := j) (x := .int ns[j]) (by rw [List.getElem?_map, List.getElem?_eq_getElem hj]; rfl)
        rw [hjv] at g1
        cases g1
        exact ⟨_, List.getElem?_eq_getElem hj, g2⟩
      obtain ⟨tz, rfl⟩ := rz
      have cellS : s₂.heap.IsCell cc (some (.int n u)) := by
        obtain ⟨o, e, d⟩ := hcell
        refine ⟨o, old _ _ (fun z => ?_) e, d⟩
        rw [z, atP] at e
        cases e
        cases d
      have gS : s₂.heap.Ns mainGlobals X.mg := by
        obtain ⟨o, es, ep, e, r⟩ := I1.mod.glob
        exact ⟨o, es, ep, old _ _ (nPb _ _ e) (I1.bk _ _ e), r⟩
      have bS : s₂.heap.Ns builtinsNs mb := by
        obtain ⟨o, es, ep, e, r⟩ := bb1
        exact ⟨o, es, ep, old _ _ (nPb _ _ e) (I1.bk _ _ e), r⟩
      have hclo : (cloFrom X.env.cells scope.names []).lookup y = some cc := clo_one _ _ _ _ (fun p hp hf => by
        obtain ⟨c', ec'⟩ := S.free p hp hf
        rw [ec']
        rfl) hcc (.inl fy)
      refine thn (elt_range (x := x) (y := y) S.kind S.loc ly lr ha2 hb2 hclo cellS (mg := X.mg) (by show s₂.heap.Ns X.env.globals X.mg; rw [I1.ok.glob]; exact gS) nr bS ((bb2 "range" (by decide)).trans (by decide +kernel)) dx dy cy) fun v' s3 hv => ⟨⟨zv, ez, hv.1⟩, hv.2⟩
  · intro g h5 tk5 gs hbare hag hsz5 hk5 W5 hat
    have e0 : passing (fun _ => true) its.toArray.size 0 = List.range its.toArray.size := GxR.passing_true _
    rw [e0] at W5
    rw [List.length_range, lenI] at W5
    have oldA : ∀ b o, s1.heap.get? b = some o → b ∉ h3.objs.size :: [s1.heap.objs.size] := fun b o e hb => by
      have l0 := Heap.lt_size e
      rcases List.mem_cons.mp hb with z | z
      · rw [z] at l0
        exact absurd (Nat.lt_of_lt_of_le l0 (Nat.le_of_succ_le hge2)) (Nat.lt_irrefl _)
      · have z2 : b = s1.heap.objs.size := by simpa using z
        exact Nat.ne_of_lt l0 z2
    have W6 := W5.in4_1
    rw [show ns.length = (ns.map (inR n)).length from (List.length_map _).symm] at W6
    rw [lenI, show ns.length = (ns.map (inR n)).length from (List.length_map _).symm] at hat
    refine hQ ns n H1 g _ hR ⟨_, _, _, _, _, fun j => (ns.map (inR n)).getD j false, W6, hat, ?_, fun j b hb => by show (ns.map (inR n)).getD j false = b; rw [List.getD_eq_getElem?_getD, hb]; rfl, fun s' hm => ?_⟩
    · intro j yv sj Qj Ej hy hQj
      obtain ⟨i', hij, z, hz', rfl⟩ := hy
      obtain ⟨hj, ej⟩ := List.getElem?_eq_some_iff.mp hij
      rw [List.getElem_range] at ej
      subst ej
      refine wpAny_truthy_bool ?_
      have eb : (ns.map (inR n)).getD j false = inR n z := by
        rw [List.getD_eq_getElem?_getD, List.getElem?_map, hz']
        rfl
      have hQj' : Qj ((ns.map (inR n)).getD j false) sj := hQj
      rw [eb] at hQj'
      exact hQj'
    · have J := inv_tab (more := more) (h' := s'.heap) (g' := s'.gens) (d' := s'.drawn) (t' := s'.toks) I1 hP (fun b o nb e => hm.heap b o (oldA b o e) (hk5 b o (keep3 b o nb e))) (hm.heap P _ (oldA P _ atP) (hk5 P _ hP3)) (AllBare.movedS (I1.bare.push hbare) hm)
      rw [sh_eta s1 s' hm.os] at J
      exact ⟨upd H1 P (.tbl (ps ++ more)), ⟨⟨ps ++ more, upd_same, ht3⟩, fun b hb => upd_ne hb⟩, J⟩
/-- all(x in range(y) for x in e): e a tuple of ints, y an int in slot i -/
def tAllR (K : PySem.W.Frag) (P : Addr) (i : Nat) (te : TE) : TE := fun σ H Q => te σ H fun v H1 => ∃ (a : Addr) (ns : List Int) (n : Int), v = .ref a ∧ SqT K H1 a (ns.map V.int) ∧ GxR.TabG H1 P ∧ σ[i]? = some (some (.int n)) ∧
  ∀ H2, GxR.Tabbed P H1 H2 → Q (.bl (ns.all (inR n))) H2
theorem all_tr : ∀ (bs : List Bool) (tr : Nat → Bool), (∀ j b, bs[j]? = some b → tr j = b) → (List.range bs.length).all tr = bs.all id := by
  intro bs tr h
  rw [Bool.eq_iff_iff, List.all_eq_true, List.all_eq_true]
  constructor
  · intro g b hb
    obtain ⟨j, hj, e⟩ := List.getElem_of_mem hb
    have q := g j (List.mem_range.mpr hj)
    rw [h j b (by rw [List.getElem?_eq_getElem hj, e])] at q
    exact q
  · intro g j hj
    have hj' := List.mem_range.mp hj
    rw [h j bs[j] (List.getElem?_eq_getElem hj')]
    exact g _ (List.getElem_mem hj')
theorem pe_allR {c P : Addr} {iter : Expr} {x y : Str} {px p pos gpos p1 p2 p3 p4 p5 : Pos} {scope : Scope} {te : TE} {k i : Nat}
    (hr : Room k X.A) (hg : Gl X "all") (hm : X.mg "all" = none) (TB : GxR.TabB X.base X.mg c P) (hcode : X.env.code = .ref c) (S : GxR.GenS X.env scope x) (hi : PE X iter te) (hy : X.N[i]? = some y) (vy : X.env.kindOf y = some .cell) (fy : (y, NameKind.free) ∈ scope.names) (ly : scope.names.lookup y = some .free)
    (lr : scope.names.lookup ("range" : Str) = some .globalImplicit) (nr : X.mg "range" = none) (dx : (x == ("__debug__" : Str)) = false) (dy : (y == ("__debug__" : Str)) = false) (cy : (y == ("__classdict__" : Str)) = false)
    (hs : ∀ v, genFold iter X.env v = pure v)
    (he : starEach [.GeneratorExp (eltR x y p1 p2 p3 p4 p5) [⟨.Name x px, iter, [], 0⟩] scope gpos] X.env = (false, eval (.GeneratorExp (eltR x y p1 p2 p3 p4 p5) [⟨.Name x px, iter, [], 0⟩] scope gpos) X.env) :: starEach [] X.env := by rfl) :
    PE X (.Call (.Name "all" p) [.GeneratorExp (eltR x y p1 p2 p3 p4 p5) [⟨.Name x px, iter, [], 0⟩] scope gpos] [] pos) (tAllR X.K P i te) := by
  refine ⟨fun pins s σ H Q I h => wpAny_Call_Name_kw (ld_blt I hg hm (by decide +kernel) (PyProof.Rows.callWith_builtin1 (id := "all") ?_ he (by rfl)))⟩
  rw [he]
  show wpAny _ _ (spliced (_ :: backTo pos (starEach [] X.env))) _ _ s
  refine Calls.spliced_cons (gen_range (R := fun ns n H1 => ∀ H2, GxR.Tabbed P H1 H2 → Q (.bl (ns.all (inR n))) H2) hr TB hcode S hi hy vy fy ly lr nr dx dy cy hs I h fun ns n H1 g s5 hR ⟨fp, wr, G, F, St', tr, W, hst, htr, hb, hI⟩ => Calls.spliced_nil ?_)
  refine call_all_walkS (W.self 0 _ _ _ hst ⟨g, fp, wr, G, _, F, St', _, rfl, W, hst, htr, fun s' hmv => ?_⟩)
  obtain ⟨H2, hT, J⟩ := hI s' hmv
  refine ⟨.bl _, H2, J, rfl, ?_⟩
  rw [all_tr _ tr hb, List.all_map]
  exact hR H2 hT
end
/-! ### a def of the text whose code object is known -/
structure FunT (K : PySem.W.Frag) (x qual : Str) (st : Stmt) (f : Addr) (fd : FuncData) (c : Addr) : Prop where
  ex : ∃ (oc : Value) (od : Option Addr) (kV doc pm : Value) (an : Option Addr) (ct : Value) (osl : Array (Option Value)),
    fd = PySem.W.fnOf x qual (defArgs st) (defBody st) (defScope st) .none kV doc pm an (.ref c) ct ∧ K.lookup f = some ⟨oc, od, .func fd, osl⟩ ∧ PySem.W.codeIn K (.ref c) qual = true
  kp : PySem.W.keepIn K (.ref f) = true
/-- x not in range(..) -/
theorem op_notIn_rng {X : Cx} : OpR X (compareOp .NotIn) (fun x y H Q => ∃ i a lo hi, x = V.int i ∧ y = V.ref a ∧ H a = some (.rng lo hi) ∧ Q (.bl (!decide (lo ≤ i ∧ i < hi))) H) := by
  intro pins s σ H x y v u Q I rx ry ⟨i, a, lo, hi, ex, ey, ha, q⟩
  subst ex ey
  obtain ⟨k, rfl⟩ := rx
  have e2 : u = Value.ref a := ry
  subst e2
  obtain ⟨t1, t2, t3, ho⟩ := I.hok a _ ha
  show wpAny _ _ (do return Value.bool (!(← contains (Value.ref a) (Value.int i k)))) _ _ s
  refine wpAny_bind (wpAny_contains_slot (T := "range") ⟨_, ho, rfl⟩ F.slot_range_contains (call_meets F.slot_range_contains ⟨_, ho, rfl⟩ F.entry_range_contains (F.args_range_contains_2 _ _) (q_contains a lo hi i t1 t2 t3 k) ⟨ho, wpAny_truthy_bool ?_⟩))
  refine wpAny_pure ⟨.bl _, H, I, rfl, ?_⟩
  rw [place1]
  exact q
section
variable {P : Program} {w : World} {K : PySem.W.Frag} {mg : Str → Option Value} {base : Heap}
/-! ### _is_move -/
theorem scIsMove : FnScope ["many", "move", "weight", "whither"] ["many", "move"] (defScope sIsMove) := ⟨rfl, rfl, rfl, by decide +kernel, rfl, by decide +kernel, by decide +kernel⟩
def isMv (many : Int) (m : Mv) : Bool := decide (1 ≤ m.1 ∧ m.1 < 100) && decide ((m.2.length : Int) = many) && m.2.all (inR many)
def spIsMove (T : Addr) : Sp := fun vs H Q _ => ∃ (many : Int) (v : V) (m : Mv), vs = [.int many, v] ∧ MoveAt H v m ∧ GxR.TabG H T ∧ ∀ H', Gr T H H' → GxR.TabG H' T → Q (.bl (isMv many m)) H'
/-- the program's names that a chain leans on -/
structure ChTxt (K : PySem.W.Frag) (mg : Str → Option Value) (fM cM tM : Addr) (fdM : FuncData) (C fI : Addr) (fdI : FuncData) : Prop where
  FM : FunT K "_is_move" "_is_move" sIsMove fM fdM cM
  bM : Binds K fdM ["many", "move"] []
  gM : mg "_is_move" = some (.ref fM)
  FI : Fun K "__init__" "Chain.__init__" (inClass cChain 0) fI fdI
  bI : Binds K fdI ["self", "many", "moves"] []
  mC : Mk K C fI
  cl : Cls K C
  nM : NoAttr K C "_many"
  nV : NoAttr K C "_moves"
  gC : mg "Chain" = some (.ref C)
  gP : ∃ t, mg "MOST_PLACES" = some (.int 6 t)
  gV : ∃ t, mg "MOST_MOVES" = some (.int 8 t)
  gW : ∃ t, mg "MOST_WEIGHT" = some (.int 99 t)
  ml : mg "len" = none
  mi : mg "isinstance" = none
  mt : mg "tuple" = none
  mr : mg "range" = none
  ma : mg "all" = none
  me : mg "enumerate" = none
  mL : mg "list" = none
section
variable {fM cM tM : Addr} {fdM : FuncData} {C fI : Addr} {fdI : FuncData}
theorem genS_move {L f : Addr} {cdv : Value} {scope : Scope} (hs : scope.names = [((".0" : Str), .local), (("place" : Str), .local), (("many" : Str), .free), (("range" : Str), .globalImplicit)]) (hk : scope.kind = .function) (hc : scope.isCoroutine = false) (ha : (envOfC "_is_move" (defScope sIsMove) L f cdv).cells.lookup ("many" : Str) ≠ none) :
    GxR.GenS (envOfC "_is_move" (defScope sIsMove) L f cdv) scope "place" := by
  refine ⟨hk, hc, ?_, ?_, ?_, ?_⟩
  · rw [hs]
    decide +kernel
  · rw [hs]
    decide +kernel
  · rw [hs]
    decide +kernel
  · intro y hy hf
    rw [hs] at hy
    have e : y.1 = ("many" : Str) := by
      rcases List.mem_cons.mp hy with e | hy
      · rw [e] at hf
        cases hf
      rcases List.mem_cons.mp hy with e | hy
      · rw [e] at hf
        cases hf
      rcases List.mem_cons.mp hy with e | hy
      · rw [e]
      rcases List.mem_cons.mp hy with e | hy
      · rw [e] at hf
        cases hf
      · cases hy
    rw [e]
    cases q : (envOfC "_is_move" (defScope sIsMove) L f cdv).cells.lookup ("many" : Str) with
    | none => exact absurd q ha
    | some c => exact ⟨c, rfl⟩
theorem ok_ismove (T : ChTxt K mg fM cM tM fdM C fI fdI) (TB : GxR.TabB base mg cM tM) : FnOk P w K mg base CX0 1 fM fdM ["many", "move"] (spIsMove tM) := by
  obtain ⟨oc, od, kV, doc, pm, an, ct, osl, efd, lk, hcd⟩ := T.FM.ex
  subst efd
  obtain ⟨tw, gW⟩ := T.gW
  refine fn_of (N := ["many", "move", "weight", "whither"]) lk hcd scIsMove (fun vs H Q E h => ?_) (fun A outer s H vs Q E hr h => ?_)
  · obtain ⟨many, v, m, rfl, _⟩ := h
    rfl
  · obtain ⟨many, v, m, rfl, ⟨a, b, rfl, ha, hb⟩, hTab, q⟩ := h
    refine ⟨_, pss_cons (ps_if (PW.pt (pw_or (pt_not (pt_val (pe_callB RZ.call_isTy (by rfl) T.mi (by decide +kernel) (pa_cons (pv 1) (pa_cons (pe_bltn (v := .ty "tuple") (by rfl) T.mt (by decide +kernel) rfl) pa_nil)))))
          (pw_or1 (pt_cmpR op_ne (pe_callB call_len_seq (by rfl) T.ml PySem.boot_len (pa_cons (pv 1) pa_nil)) pe_int (nomark _))))) (pss_one (ps_ret pe_bl)) pss_nil)
      (pss_cons (ps_asg (pv 1) (pg_tup rfl (pgs_cons (pg_name (i := 2) scIsMove.nd rfl (.inl rfl)) (pgs_cons (pg_name (i := 3) scIsMove.nd rfl (.inl rfl)) pgs_nil))))
      (pss_cons (ps_if (pt_cmpR op_notIn_rng (pv 2) (pe_callTy cr_range2 (by rfl) T.mr (by decide +kernel) (pa_cons pe_int (pa_cons (pe_op op_add (pe_glob (v := .int 99) (by rfl) gW ⟨_, rfl⟩) pe_int) pa_nil))) rfl) (pss_one (ps_ret pe_bl)) pss_nil)
      (pss_cons (ps_if (PW.pt (pw_or (pt_not (pt_val (pe_callB RZ.call_isTy (by rfl) T.mi (by decide +kernel) (pa_cons (pv 3) (pa_cons (pe_bltn (v := .ty "tuple") (by rfl) T.mt (by decide +kernel) rfl) pa_nil)))))
          (pw_or1 (pt_cmpR op_ne (pe_callB call_len_seq (by rfl) T.ml PySem.boot_len (pa_cons (pv 3) pa_nil)) (pv 0) (nomark _))))) (pss_one (ps_ret pe_bl)) pss_nil)
      (pss_one (ps_ret (pe_allR (k := 0) (x := "place") (y := "many") (i := 0) hr (by rfl) T.ma TB rfl (genS_move (by rfl) rfl rfl ?hcell) (pv 3) rfl rfl (by decide +kernel) (by decide +kernel) (by decide +kernel) T.mr (by decide) (by decide) (by decide) (fun _ => rfl) (by rfl))))))), ?_⟩
    case hcell =>
      intro z
      have q : ((envOfC "_is_move" (defScope sIsMove) s.heap.objs.size fM (.ref cM)).cells.lookup ("many" : Str)).isSome = true := PySem.W.cellsFrom_some _ _ _ (.inl (by decide +kernel))
      rw [z] at q
      cases q
    have neT : ∀ {p : Addr}, H p = none → p ≠ tM := fun np z => by
      obtain ⟨ps, e, _⟩ := hTab
      rw [z, e] at np
      cases np
    refine ⟨.ref a, rfl, .ref a, "tuple", rfl, .tup ha, true, rfl, ?_⟩
    refine ⟨.ref a, rfl, a, _, rfl, .inr (SqT.of ha), rfl, _, rfl, iteNS rfl ?_⟩
    refine ⟨.ref a, rfl, a, _, rfl, SqT.of ha, rfl, .int m.1, [.ref b], rfl, .ref b, [], rfl, rfl, ?_⟩
    refine ⟨.int m.1, rfl, 99, 1, rfl, rfl, 1, 100, rfl, fun r nr => ⟨m.1, r, 1, 100, rfl, rfl, upd_same, _, rfl, ?_⟩⟩
    have g1 : Same H (upd H r (.rng 1 100)) := same_new nr
    have tab1 : GxR.TabG (upd H r (.rng 1 100)) tM := by
      obtain ⟨ps, e, t⟩ := hTab
      exact ⟨ps, g1 _ _ e, t⟩
    have hb1 := g1 _ _ hb
    by_cases h1 : 1 ≤ m.1 ∧ m.1 < 100
    · refine iteNS h1 ?_
      refine ⟨.ref b, rfl, .ref b, "tuple", rfl, .tup hb1, true, rfl, ?_⟩
      refine ⟨.ref b, rfl, b, _, rfl, .inr (SqT.of hb1), .int many, rfl, rfl, _, rfl, ?_⟩
      by_cases h2 : (((m.2.map V.int).length : Nat) : Int) = many
      · refine iteNS (congrArg V.int h2) ?_
        refine ⟨.ref b, rfl, b, m.2, many, rfl, SqT.of hb1, tab1, rfl, fun H2 ⟨t2, k2⟩ => ?_⟩
        have e : isMv many m = m.2.all (inR many) := by
          unfold isMv
          rw [List.length_map] at h2
          rw [decide_eq_true h1, decide_eq_true h2, Bool.true_and, Bool.true_and]
        have q2 := q H2 (fun x o nx ex => by rw [k2 x nx]; exact g1 _ _ ex) t2
        rw [e] at q2
        exact q2
      · have e : isMv many m = false := by
          unfold isMv
          rw [List.length_map] at h2
          rw [decide_eq_false h2, Bool.and_false, Bool.false_and]
        have q2 := q _ (Gr.of_same g1) tab1
        rw [e] at q2
        have h3 : ¬ V.int (((m.2.map V.int).length : Nat) : Int) = V.int many := fun z => h2 (V.int.inj z)
        show if (!decide (V.int (((m.2.map V.int).length : Nat) : Int) = V.int many)) = true then _ else _
        rw [decide_eq_false h3]
        exact q2
    · have e : isMv many m = false := by
        unfold isMv
        rw [decide_eq_false h1, Bool.false_and, Bool.false_and]
      have q2 := q _ (Gr.of_same g1) tab1
      rw [e] at q2
      rw [decide_eq_false h1]
      exact q2
end
end
def rLenSq (K : PySem.W.Frag) : List V → Hp → VK → Prop := fun xs H Q => ∃ p ys, xs = [V.ref p] ∧ (SqL K H p ys ∨ SqT K H p ys) ∧ Q (.int ((ys.length : Nat) : Int)) H
section
variable {P : Program} {w : World} {K : PySem.W.Frag} {mg : Str → Option Value} {base : Heap}
variable {fM cM tM : Addr} {fdM : FuncData} {C fI : Addr} {fdI : FuncData}
/-! ### class Chain -/
theorem scInit : FnScope ["self", "many", "moves", "number", "move"] ["self", "many", "moves"] (defScope (inClass cChain 0)) := ⟨rfl, rfl, rfl, by decide +kernel, rfl, by decide +kernel, by decide +kernel⟩
def chF (many : Int) (a : Addr) : List (Str × V) := putF "_moves" (.ref a) (putF "_many" (.int many) [])
theorem ne_mm : ¬ (("_many" : Str) = "_moves") := by decide +kernel
theorem chF_many (many : Int) (a : Addr) : (chF many a).lookup ("_many" : Str) = some (.int many) := by
  unfold chF
  rw [lookup_putF, if_neg ne_mm, lookup_putF, if_pos rfl]
theorem chF_moves (many : Int) (a : Addr) : (chF many a).lookup ("_moves" : Str) = some (.ref a) := by
  unfold chF
  rw [lookup_putF, if_pos rfl]
theorem chF_no (many : Int) (a : Addr) {m : Str} (h1 : ¬ m = "_many") (h2 : ¬ m = "_moves") : (chF many a).lookup m = none := by
  unfold chF
  rw [lookup_putF, if_neg h2, lookup_putF, if_neg h1]
  all_goals rfl
def ChainAt (C : Addr) (H : Hp) (x : Addr) (many : Nat) (ms : List Mv) : Prop := ∃ dx a ws, H x = some (.ins C dx (chF (many : Int) a)) ∧ H a = some (.lst ws) ∧ MovesAt H ws ms
theorem ChainAt.same {C : Addr} {H H' : Hp} {x : Addr} {many : Nat} {ms : List Mv} (s : Same H H') (h : ChainAt C H x many ms) : ChainAt C H' x many ms := by
  obtain ⟨dx, a, ws, h1, h2, h3⟩ := h
  exact ⟨dx, a, ws, s _ _ h1, s _ _ h2, h3.same (Same.tups s)⟩
theorem moves_no_dl {H : Hp} {ws : List V} {ms : List Mv} (h : MovesAt H ws ms) (s0 : Int) (l : Addr) (k big : Int) : HO.lst ws ≠ .lst (dl s0 l k big) := by
  intro z
  injection z with z
  subst z
  cases h with
  | cons a _ =>
    obtain ⟨_, _, e, _⟩ := a
    cases e
theorem ChainAt.gr {C d l : Addr} {ns : List Int} {H H' : Hp} {x : Addr} {many : Nat} {ms : List Mv} (hd : Dc K l ns H d) (s : Gr d H H') (h : ChainAt C H x many ms) : ChainAt C H' x many ms := by
  obtain ⟨dx, a, ws, h1, h2, h3⟩ := h
  exact ⟨dx, a, ws, s _ _ (hd.ne_of h1 fun _ _ _ _ z => nomatch z) h1, s _ _ (hd.ne_of h2 (moves_no_dl h3)) h2, h3.same (s.tups hd)⟩
/-- all that is tracked, but at x and t, is as it was -/
def Gr2 (x t : Addr) (H H' : Hp) : Prop := ∀ b o, b ≠ x → b ≠ t → H b = some o → H' b = some o
/-- a chain that has just been made: its list of moves is its own -/
def ChainNew (C : Addr) (H H' : Hp) (x : Addr) (many : Nat) (ms : List Mv) : Prop := ∃ dx a ws, H' x = some (.ins C dx (chF (many : Int) a)) ∧ H' a = some (.lst ws) ∧ MovesAt H' ws ms ∧ H a = none
theorem ChainNew.at {C : Addr} {H H' : Hp} {x : Addr} {many : Nat} {ms : List Mv} (h : ChainNew C H H' x many ms) : ChainAt C H' x many ms := by
  obtain ⟨dx, a, ws, h1, h2, h3, _⟩ := h
  exact ⟨dx, a, ws, h1, h2, h3⟩
def spInitG (C T : Addr) : Sp := fun vs H Q _ => ∃ (x dx l : Addr) (many : Nat) (ws : List V) (ms : List Mv), vs = [.ref x, .int (many : Int), .ref l] ∧ H x = some (.ins C dx []) ∧ H l = some (.lst ws) ∧ MovesAt H ws ms ∧ Good many ms ∧ GxR.TabG H T ∧
  ∀ H', ChainNew C H H' x many ms → Gr2 x T H H' → GxR.TabG H' T → Q .non H'
theorem isMv_good {many : Nat} {m : Mv} (h : GoodMv many m) : isMv (many : Int) m = true := by
  obtain ⟨h1, h2, h3, h4⟩ := h
  unfold isMv
  rw [decide_eq_true (show 1 ≤ m.1 ∧ m.1 < 100 from ⟨h1, by omega⟩), decide_eq_true (show (m.2.length : Int) = (many : Int) by rw [h3]), Bool.true_and, Bool.true_and, List.all_eq_true]
  intro x hx
  unfold inR
  exact decide_eq_true (h4 x hx)
theorem ok_initG (T : ChTxt K mg fM cM tM fdM C fI fdI) (TB : GxR.TabB base mg cM tM) : FnOk P w K mg base CX0 2 fI fdI ["self", "many", "moves"] (spInitG C tM) := by
  have GM : FnOk P w K mg base CX0 1 fM fdM ["many", "move"] (spIsMove tM) := ok_ismove T TB
  obtain ⟨tp, gP⟩ := T.gP
  obtain ⟨tv, gV⟩ := T.gV
  refine T.FI.ok scInit (fun vs H Q E h => ?_) (fun cdv A outer s H vs Q E hr h => ?_)
  · obtain ⟨x, dx, l, many, ws, ms, rfl, _⟩ := h
    rfl
  · obtain ⟨x, dx, l, many, ws, ms, rfl, hx, hl, hM, G, hTab, q⟩ := h
    have lenW := hM.length
    refine ⟨_, pss_cons (ps_if (pt_not (pt_chain op_le op_le pe_int (pv 1) (pe_glob (v := .int 6) (by rfl) gP ⟨_, rfl⟩))) pss_never pss_nil)
      (pss_cons (ps_if (pt_not (pt_chain op_le op_le pe_int (pe_callB call_len_seq (by rfl) T.ml PySem.boot_len (pa_cons (pv 2) pa_nil)) (pe_glob (v := .int 8) (by rfl) gV ⟨_, rfl⟩))) pss_never pss_nil)
      (pss_cons (ps_for PassesOwn.never rfl (pi_enum (by rfl) T.me (pa_cons (pv 2) pa_nil)) (pg_tup rfl (pgs_cons (pg_name (i := 3) scInit.nd rfl (.inl rfl)) (pgs_cons (pg_name (i := 4) scInit.nd rfl (.inl rfl)) pgs_nil)))
          (pss_one (ps_if (pt_not (pt_val (pe_call GM hr (by rfl) T.gM T.FM.kp T.bM .nil pass0 (pa_cons (pv 1) (pa_cons (pv 4) pa_nil))))) pss_never pss_nil)))
      (pss_cons (ps_fld (pv 0) (pv 1) rfl)
      (pss_one (ps_fld (pv 0) (pe_callTy call_list_of (by rfl) T.mL (by decide +kernel) (pa_cons (pv 2) pa_nil)) rfl))))), ?_⟩
    have G1 := G.m1
    have G2 := G.m6
    have G3 := G.l1
    have G4 := G.l8
    refine ⟨.int (many : Int), rfl, 1, (many : Int), rfl, rfl, _, rfl, ifD (by omega) ⟨_, _, rfl, rfl, _, rfl, iteNS (by omega) ?_⟩⟩
    have hS : SqL K H l ws := SqL.of hl
    refine ⟨.ref l, rfl, l, ws, rfl, .inl hS, 1, _, rfl, rfl, _, rfl, ifD (by omega) ⟨_, _, rfl, rfl, _, rfl, iteNS (by omega) ?_⟩⟩
    -- for number, move in enumerate(moves)
    have nxT : x ≠ tM := fun z => by
      obtain ⟨ps, e, _⟩ := hTab
      rw [z, e] at hx
      cases hx
    have nlT : l ≠ tM := fun z => by
      obtain ⟨ps, e, _⟩ := hTab
      rw [z, e] at hl
      cases hl
    have nxl : x ≠ l := ne_of hx hl (fun z => nomatch z)
    have tupK : ∀ {H'}, Gr tM H H' → ∀ b xs, H b = some (.tup xs) → H' b = some (.tup xs) := fun {H'} g b xs e => g b _ (fun z => by
      obtain ⟨ps, e2, _⟩ := hTab
      rw [z, e2] at e
      cases e) e
    refine ⟨.ref l, rfl, l, ws, rfl, hS, for_it (walk_enum (K := K) (a := l) (xs := ws)) (fun i σ H' => ∃ y3 y4, σ = [some (.ref x), some (.int (many : Int)), some (.ref l), y3, y4] ∧ Gr tM H H' ∧ GxR.TabG H' tM)
      ⟨none, none, rfl, Gr.refl _ _, hTab⟩ (fun i σ H' hi ⟨y3, y4, e, g, t⟩ => SqL.of (g l _ nlT hl)) ?_ ?_⟩
    · rintro i z σ H1 H2 hi ⟨y3, y4, rfl, g1, t1⟩ ⟨Tp, u, v, rfl, nT, rfl, eu, ev⟩
      have g2 : Gr tM H (upd H1 Tp (.tup [u, v])) := g1.new nT
      have t2 : GxR.TabG (upd H1 Tp (.tup [u, v])) tM := by
        obtain ⟨ps, e, t⟩ := t1
        exact ⟨ps, (same_new nT) _ _ e, t⟩
      refine ⟨Tp, [u, v], rfl, SqT.of upd_same, rfl, u, [v], rfl, v, [], rfl, rfl, ?_⟩
      obtain ⟨m, em, hm⟩ := hM.get' ev
      have hgood := G.mv m (List.mem_of_getElem? em)
      have hm2 : MoveAt (upd H1 Tp (.tup [u, v])) v m := hm.same (tupK g2)
      refine ⟨.int (many : Int), rfl, v, rfl, (many : Int), v, m, rfl, hm2, t2, fun H3 g3 t3 => ?_⟩
      rw [isMv_good hgood]
      refine ⟨true, rfl, ?_⟩
      exact ⟨some u, some v, rfl, g2.trans g3, t3⟩
    · rintro σ H1 ⟨y3, y4, rfl, g1, t1⟩
      have hx1 := g1 x _ nxT hx
      have hl1 := g1 l _ nlT hl
      refine ⟨.int (many : Int), rfl, .ref x, rfl, x, C, dx, [], rfl, hx1, T.cl, T.nM, (by show 0 < 1000; decide), ?_⟩
      have hx2 : (upd H1 x (.ins C dx (putF "_many" (.int (many : Int)) []))) x = some (.ins C dx (putF "_many" (.int (many : Int)) [])) := upd_same
      have hl2 : (upd H1 x (.ins C dx (putF "_many" (.int (many : Int)) []))) l = some (.lst ws) := by
        rw [upd_ne (Ne.symm nxl)]
        exact hl1
      refine ⟨.ref l, rfl, l, ws, rfl, .inl (SqL.of hl2), fun a na => ?_⟩
      have nxa : x ≠ a := ne_of_none hx2 na
      refine ⟨.ref x, rfl, x, C, dx, _, rfl, (by rw [upd_ne nxa]; exact hx2), T.cl, T.nV, (by show 1 < 1000; decide), ?_⟩
      have naH1 : H1 a = none := by
        rw [upd_ne (Ne.symm nxa)] at na
        exact na
      have keepT : ∀ b o, b ≠ x → H1 b = some o → (upd (upd (upd H1 x (.ins C dx (putF "_many" (.int (many : Int)) []))) a (.lst ws)) x (.ins C dx (chF (many : Int) a))) b = some o := fun b o nb e => by
        rw [upd_ne nb, upd_ne (ne_of_none e naH1), upd_ne nb]
        exact e
      have ntx : ∀ xs, H1 x ≠ some (.tup xs) := fun xs z => by
        rw [hx1] at z
        cases z
      have naH : H a = none := by
        cases h : H a with
        | none => rfl
        | some o =>
          have nat : a ≠ tM := fun z => by
            obtain ⟨ps, e, _⟩ := t1
            rw [z, e] at naH1
            cases naH1
          rw [g1 a o nat h] at naH1
          cases naH1
      refine q _ ⟨dx, a, ws, upd_same, ?_, hM.same (fun b xs e => ?_), naH⟩ (fun b o nb nt e => keepT b o nb (g1 b o nt e)) ?_
      · rw [upd_ne (Ne.symm nxa)]
        exact upd_same
      · have e1 := tupK g1 b xs e
        refine keepT b _ (fun z => ?_) e1
        rw [z] at e1
        exact ntx xs e1
      · obtain ⟨ps, e, t⟩ := t1
        exact ⟨ps, keepT _ _ (Ne.symm nxT) e, t⟩
/-! ### places, told -/
theorem scPlaces : FnScope ["self"] ["self"] (defScope (inClass cChain 1)) := ⟨rfl, rfl, rfl, by decide +kernel, rfl, by decide +kernel, by decide +kernel⟩
theorem scTold : FnScope ["self"] ["self"] (defScope (inClass cChain 2)) := ⟨rfl, rfl, rfl, by decide +kernel, rfl, by decide +kernel, by decide +kernel⟩
def spPlaces (C : Addr) : Sp := fun vs H Q _ => ∃ (x : Addr) (many : Nat) (ms : List Mv), vs = [.ref x] ∧ ChainAt C H x many ms ∧ Q (.int (many : Int)) H
def spTold (C : Addr) : Sp := fun vs H Q _ => ∃ (x : Addr) (many : Nat) (ms : List Mv), vs = [.ref x] ∧ ChainAt C H x many ms ∧ ∀ (l : Addr) (ws : List V), H l = none → MovesAt (upd H l (.lst ws)) ws ms → Q (.ref l) (upd H l (.lst ws))
theorem ok_places {f : Addr} {fd : FuncData} {k : Nat} (F : Fun K "places" "Chain.places" (inClass cChain 1) f fd) (cl : Cls K C) (nM : NoAttr K C "_many") : FnOk P w K mg base CX0 (k + 1) f fd ["self"] (spPlaces C) := by
  refine F.ok scPlaces (fun vs H Q E h => ?_) (fun cdv A outer s H vs Q E hr h => ?_)
  · obtain ⟨x, many, ms, rfl, _⟩ := h
    rfl
  · obtain ⟨x, many, ms, rfl, ⟨dx, a, ws, h1, h2, h3⟩, q⟩ := h
    exact ⟨_, pss_one (ps_ret (pe_fld (pv 0) rfl)), .ref x, rfl, x, C, dx, _, _, rfl, h1, cl, nM, chF_many _ _, q⟩
theorem ok_told {f : Addr} {fd : FuncData} {k : Nat} (F : Fun K "told" "Chain.told" (inClass cChain 2) f fd) (cl : Cls K C) (nV : NoAttr K C "_moves") (mL : mg "list" = none) : FnOk P w K mg base CX0 (k + 1) f fd ["self"] (spTold C) := by
  refine F.ok scTold (fun vs H Q E h => ?_) (fun cdv A outer s H vs Q E hr h => ?_)
  · obtain ⟨x, many, ms, rfl, _⟩ := h
    rfl
  · obtain ⟨x, many, ms, rfl, ⟨dx, a, ws, h1, h2, h3⟩, q⟩ := h
    exact ⟨_, pss_one (ps_ret (pe_callTy call_list_of (by rfl) mL (by decide +kernel) (pa_cons (pe_fld (pv 0) rfl) pa_nil))), .ref x, rfl, x, C, dx, _, _, rfl, h1, cl, nV, chF_moves _ _, a, ws, rfl, .inl (SqL.of h2), fun l nl => q l ws nl (h3.same (Same.tups (same_new nl)))⟩
end
section
variable {P : Program} {w : World} {K : PySem.W.Frag} {mg : Str → Option Value} {base : Heap}
variable {fM cM tM : Addr} {fdM : FuncData} {C fI : Addr} {fdI : FuncData}
/-! ### _law_made -/
theorem scMade : FnScope ["_law_told"] ["_law_told"] (defScope sMade) := ⟨rfl, rfl, rfl, by decide +kernel, rfl, by decide +kernel, by decide +kernel⟩
def spMade (C T : Addr) : Sp := fun vs H Q _ => ∃ (t m : Addr) (many : Nat) (ws : List V) (ms : List Mv), vs = [.ref t] ∧ ToldAt H t m many ws ms ∧ Good many ms ∧ GxR.TabG H T ∧ ∀ H' x, ChainAt C H' x many ms → H x = none → Gr T H H' → GxR.TabG H' T → Q (.ref x) H'
theorem ok_made {f : Addr} {fd : FuncData} (F : Fun K "_law_made" "_law_made" sMade f fd) (T : ChTxt K mg fM cM tM fdM C fI fdI) (TB : GxR.TabB base mg cM tM) : FnOk P w K mg base CX0 4 f fd ["_law_told"] (spMade C tM) := by
  have GI : FnOk P w K mg base CX0 2 fI fdI ["self", "many", "moves"] (spInitG C tM) := ok_initG T TB
  refine F.ok scMade (fun vs H Q E h => ?_) (fun cdv A outer s H vs Q E hr h => ?_)
  · obtain ⟨t, m, many, ws, ms, rfl, _⟩ := h
    rfl
  · obtain ⟨t, m, many, ws, ms, rfl, ⟨h1, h2, h3⟩, G, ⟨ps, hT, htr⟩, q⟩ := h
    refine ⟨_, pss_one (ps_ret (pe_make T.mC GI hr (by rfl) T.gC T.bI .nil pass0 (pa_cons (pe_ix ix_tup (pv 0) pe_int (fun _ _ => rfl)) (pa_cons (pe_callTy call_list_of (by rfl) T.mL (by decide +kernel) (pa_cons (pe_ix ix_tup (pv 0) pe_int (fun _ _ => rfl)) pa_nil)) pa_nil)))), ?_⟩
    refine ⟨.ref t, rfl, t, _, 0, _, rfl, rfl, SqT.of h1, atI_nat (j := 0) rfl, .ref t, rfl, t, _, 1, _, rfl, rfl, SqT.of h1, atI_nat (j := 1) rfl, m, ws, rfl, .inl (SqL.of h2), fun l nl x dx nx ndx nxd => ?_⟩
    have s1 : Same H (upd H l (.lst ws)) := same_new nl
    have s2 : Same (upd H l (.lst ws)) (upd (upd H l (.lst ws)) dx (.own x)) := same_new ndx
    have nx' : (upd (upd H l (.lst ws)) dx (.own x)) x = none := by
      rw [upd_ne (Ne.symm nxd)]
      exact nx
    have s3 := same_new (o := .ins C dx []) nx'
    have s := (s1.trans s2).trans s3
    refine ⟨x, dx, l, many, ws, ms, rfl, upd_same, (s2.trans s3) _ _ upd_same, h3.same (Same.tups s), G, ⟨ps, s _ _ hT, htr⟩, fun H' hc g t' => ⟨rfl, ?_⟩⟩
    exact q H' x hc.at (s1.free nx) (fun b o nb e => g b o (ne_of_none (s1 _ _ e) nx) nb (s _ _ e)) t'
end
/-- a def of the module, named -/
structure Df (K : PySem.W.Frag) (mg : Str → Option Value) (x : Str) (st : Stmt) (ps : List Str) (f : Addr) (fd : FuncData) : Prop where
  F : Fun K x x st f fd
  b : Binds K fd ps []
  g : mg x = some (.ref f)
def spLaw (K : PySem.W.Frag) (T : Addr) : Sp := fun vs H Q _ => ∃ (a : Addr) (ns : List Int), vs = [.ref a] ∧ SqL K H a (ns.map V.int) ∧ ns.length ≤ 63 ∧ GxR.TabG H T ∧ ∀ H', Q (.bl true) H'
theorem Same.put {H H1 : Hp} {p : Addr} {o : HO} (s : Same H H1) (n : H p = none) : Same H (upd H1 p o) := fun b u e => by
  rw [upd_ne (ne_of_none e n)]
  exact s b u e
theorem ToldAt.same {H H' : Hp} {t m : Addr} {many : Nat} {ws : List V} {ms : List Mv} (s : Same H H') (h : ToldAt H t m many ws ms) : ToldAt H' t m many ws ms := ⟨s _ _ h.1, s _ _ h.2.1, h.2.2.same (Same.tups s)⟩
theorem ToldAt.gr {K : PySem.W.Frag} {d l : Addr} {ns : List Int} {H H' : Hp} {t m : Addr} {many : Nat} {ws : List V} {ms : List Mv} (hd : Dc K l ns H d) (g : Gr d H H') (h : ToldAt H t m many ws ms) : ToldAt H' t m many ws ms :=
  ⟨g.tups hd _ _ h.1, g _ _ (hd.ne_of h.2.1 (moves_no_dl h.2.2)) h.2.1, h.2.2.same (g.tups hd)⟩
/-- a table stands while the dice turns -/
theorem tab_gr {K : PySem.W.Frag} {d l : Addr} {ns : List Int} {H H' : Hp} {T : Addr} (hd : Dc K l ns H d) (g : Gr d H H') (h : GxR.TabG H T) : GxR.TabG H' T := by
  obtain ⟨ps, e, t⟩ := h
  exact ⟨ps, g _ _ (hd.ne_of e fun _ _ _ _ z => nomatch z) e, t⟩
theorem tab_same {H H' : Hp} {T : Addr} (s : Same H H') (h : GxR.TabG H T) : GxR.TabG H' T := by
  obtain ⟨ps, e, t⟩ := h
  exact ⟨ps, s _ _ e, t⟩
/-- what is no table stands while the table grows -/
theorem Gr.tab {T p : Addr} {H H' : Hp} {o : HO} (hT : GxR.TabG H T) (g : Gr T H H') (n : ∀ qs, o ≠ .tbl qs) (h : H p = some o) : H' p = some o := g p o (fun z => by
  obtain ⟨ps, e, _⟩ := hT
  rw [z, e] at h
  exact n ps (Option.some.inj h).symm) h
theorem ToldAt.tab {T t m : Addr} {H H' : Hp} {many : Nat} {ws : List V} {ms : List Mv} (hT : GxR.TabG H T) (g : Gr T H H') (h : ToldAt H t m many ws ms) : ToldAt H' t m many ws ms :=
  ⟨g.tab hT (fun _ z => nomatch z) h.1, g.tab hT (fun _ z => nomatch z) h.2.1, h.2.2.same fun _ _ e => g.tab hT (fun _ z => nomatch z) e⟩
theorem Dc.tabT {K : PySem.W.Frag} {T d l : Addr} {ns : List Int} {H H' : Hp} (hT : GxR.TabG H T) (g : Gr T H H') (h : Dc K l ns H d) : Dc K l ns H' d := by
  obtain ⟨s0, k, big, h1, h2, h3⟩ := h
  refine ⟨s0, k, big, g.tab hT (fun _ z => nomatch z) h1, ?_, h3⟩
  rcases h2 with (h | ⟨o, h⟩) | h
  · exact .inl (.inl (g.tab hT (fun _ z => nomatch z) h))
  · exact .inl (.inr ⟨o, g.tab hT (fun _ z => nomatch z) h⟩)
  · exact .inr h
theorem Gr.put {d : Addr} {H H1 : Hp} {p : Addr} {o : HO} (a : Gr d H H1) (h : H p = none) : Gr d H (upd H1 p o) := fun b u n e => by
  rw [upd_ne (ne_of_none e h)]
  exact a b u n e
theorem Gr.free {d : Addr} {H H1 : Hp} {p : Addr} (a : Gr d H H1) (n : H1 p = none) (h : p ≠ d) : H p = none := by
  cases e : H p with
  | none => rfl
  | some o =>
    rw [a p o h e] at n
    cases n
theorem paired_drop {α β : Type} {F : α → β → Prop} : ∀ {l₁ : List α} {l₂ : List β} (n : Nat), Paired F l₁ l₂ → Paired F (l₁.drop n) (l₂.drop n)
  | _, _, 0, h => h
  | _, _, _ + 1, .nil => .nil
  | _, _, n + 1, .cons _ t => paired_drop n t
theorem paired_take {α β : Type} {F : α → β → Prop} : ∀ {l₁ : List α} {l₂ : List β} (n : Nat), Paired F l₁ l₂ → Paired F (l₁.take n) (l₂.take n)
  | _, _, 0, _ => .nil
  | _, _, _ + 1, .nil => .nil
  | _, _, n + 1, .cons h t => .cons h (paired_take n t)
theorem paired_app {α β : Type} {F : α → β → Prop} : ∀ {l₁ : List α} {l₂ : List β} {k₁ : List α} {k₂ : List β}, Paired F l₁ l₂ → Paired F k₁ k₂ → Paired F (l₁ ++ k₁) (l₂ ++ k₂)
  | _, _, _, _, .nil, h => h
  | _, _, _, _, .cons q t, h => .cons q (paired_app t h)
theorem paired_rep {α β : Type} {F : α → β → Prop} {a : α} {b : β} (h : F a b) : ∀ n, Paired F (List.replicate n a) (List.replicate n b)
  | 0 => .nil
  | n + 1 => .cons h (paired_rep h n)
theorem filter_snoc {l : List Int} {i : Nat} {x : Int} {F : Int → Bool} (h : l[i]? = some x) : (l.take (i + 1)).filter F = (l.take i).filter F ++ (if F x = true then [x] else []) := by
  rw [List.take_add_one, h, List.filter_append]
  cases hk : F x with
  | true => simp [hk]
  | false => simp [hk]
theorem paired_get {α β : Type} {F : α → β → Prop} : ∀ {l₁ : List α} {l₂ : List β} {i : Nat} {b : β}, Paired F l₁ l₂ → l₂[i]? = some b → ∃ a, l₁[i]? = some a ∧ F a b
  | _, _, _, _, .nil, e => by simp at e
  | _, _, 0, _, .cons h _, e => by
    simp at e
    subst e
    exact ⟨_, rfl, h⟩
  | _, _, i + 1, b, .cons _ t, e => by
    obtain ⟨a, h1, h2⟩ := paired_get (i := i) (b := b) t (by simpa using e)
    exact ⟨a, by simpa using h1, h2⟩
theorem paired_end {α β : Type} {F : α → β → Prop} {a : α} {b : β} (h : F a b) : ∀ {l₁ : List α} {l₂ : List β}, Paired F l₁ l₂ → Paired F (l₁ ++ [a]) (l₂ ++ [b])
  | _, _, .nil => .cons h .nil
  | _, _, .cons q t => .cons q (paired_end h t)
theorem take_snoc {α : Type} {l : List α} {i : Nat} {x : α} (h : l[i]? = some x) : l.take (i + 1) = l.take i ++ [x] := by
  rw [List.take_add_one, h]
  rfl
theorem small1k {n : Nat} (h : n ≤ 1001) : n < sizeLine := Nat.lt_of_le_of_lt h (by decide)
section
variable {P : Program} {w : World} {K : PySem.W.Frag} {mg : Str → Option Value} {base : Heap} {C : Addr}
/-- range(n) as a value -/
theorem cr_range1 {X : Cx} : CallR X (.type "range") (fun vs H Q => ∃ n, vs = [V.int n] ∧ ∀ p, H p = none → Q (.ref p) (upd H p (.rng 0 n))) := by
  intro pins s σ H vs us Q I r ⟨n, ev, q⟩
  subst ev
  cases r with
  | cons rn rr =>
    cases rr
    obtain ⟨t, rfl⟩ := rn
    refine call_range_1 ⟨.ref s.heap.objs.size, upd H s.heap.objs.size (.rng 0 n), I.laid (t' := s.toks + 1 + 1) (fun b o e => Heap.get?_push_of_some _ e) (Nat.le_refl _) ?_, rfl, q _ (I.hok.fresh (Nat.le_refl _))⟩
    exact ⟨s.toks, t, s.toks + 1, Heap.get?_push_size _ rfl⟩
/-! ### steps_of -/
structure ChM (K : PySem.W.Frag) (C fP fT : Addr) (fdP fdT : FuncData) : Prop where
  FP : Fun K "places" "Chain.places" (inClass cChain 1) fP fdP
  bP : Binds K fdP ["self"] []
  hP : Meth K C "places" fP
  FT : Fun K "told" "Chain.told" (inClass cChain 2) fT fdT
  bT : Binds K fdT ["self"] []
  hT : Meth K C "told" fT
  cl : Cls K C
  nM : NoAttr K C "_many"
  nV : NoAttr K C "_moves"
theorem ch_no {many : Int} {a : Addr} : (chF many a).lookup ("places" : Str) = none := chF_no _ _ (by decide +kernel) (by decide +kernel)
theorem ch_noT {many : Int} {a : Addr} : (chF many a).lookup ("told" : Str) = none := chF_no _ _ (by decide +kernel) (by decide +kernel)
theorem rg_ends (n : Nat) : rgV 0 (n : Int) = ((List.range n).map fun (i : Nat) => (i : Int)).map V.int := by
  unfold rgV
  rw [List.map_map]
  have e : ((n : Int) - 0).toNat = n := by omega
  rw [e]
  refine List.map_congr_left fun i _ => ?_
  show V.int (0 + (i : Int)) = V.int (i : Int)
  rw [Int.zero_add]
end
/-! ### data that are compared -/
def Sh (n : Nat) (d : PyData) : Prop := d.canLay0 = true ∧ d.depth ≤ n
theorem canAll : ∀ {ds : List PyData}, (∀ d ∈ ds, d.canLay0 = true) → PyData.canLayAll0 ds = true
  | [], _ => rfl
  | d :: ds, h => by
    show (d.canLay0 && PyData.canLayAll0 ds) = true
    rw [h d List.mem_cons_self, canAll fun z hz => h z (List.mem_cons_of_mem _ hz)]
    rfl
theorem depAll {n : Nat} : ∀ {ds : List PyData}, (∀ d ∈ ds, d.depth ≤ n) → PyData.depthAll ds ≤ n
  | [], _ => Nat.zero_le _
  | d :: ds, h => by
    show max d.depth (PyData.depthAll ds) ≤ n
    exact Nat.max_le.mpr ⟨h d List.mem_cons_self, depAll fun z hz => h z (List.mem_cons_of_mem _ hz)⟩
theorem Sh.int {n : Nat} (i : Int) : Sh n (.int i) := ⟨rfl, Nat.zero_le _⟩
theorem Sh.bool {n : Nat} (b : Bool) : Sh n (.bool b) := ⟨rfl, Nat.zero_le _⟩
theorem Sh.none {n : Nat} : Sh n .none := ⟨rfl, Nat.zero_le _⟩
theorem Sh.tuple {n : Nat} {ds : List PyData} (h : ∀ d ∈ ds, Sh n d) : Sh (n + 1) (.tuple ds) := ⟨canAll fun d hd => (h d hd).1, Nat.succ_le_succ (depAll fun d hd => (h d hd).2)⟩
theorem Sh.list {n : Nat} {ds : List PyData} (h : ∀ d ∈ ds, Sh n d) : Sh (n + 1) (.list ds) := ⟨canAll fun d hd => (h d hd).1, Nat.succ_le_succ (depAll fun d hd => (h d hd).2)⟩
theorem Sh.mono {n m : Nat} {d : PyData} (h : Sh n d) (le : n ≤ m) : Sh m d := ⟨h.1, Nat.le_trans h.2 le⟩
theorem Sh.shaped {n : Nat} {d : PyData} (h : Sh n d) (le : n ≤ 64) : SeqAt.shaped d = true := by
  unfold SeqAt.shaped
  rw [h.1, decide_eq_true (Nat.le_trans h.2 le)]
  rfl
theorem Sh.refl {n : Nat} {d : PyData} (h : Sh n d) : PyData.eqv d d = true := SeqAt.eqv_refl d h.1
theorem Sh.ints {n : Nat} (ns : List Int) : ∀ d ∈ ns.map PyData.int, Sh n d := fun d hd => by
  obtain ⟨i, _, rfl⟩ := List.mem_map.mp hd
  exact .int i
def mvD (m : Mv) : PyData := .tuple [.int m.1, .tuple (m.2.map PyData.int)]
theorem Sh.mv (m : Mv) : Sh 2 (mvD m) := Sh.tuple fun d hd => by
  rcases List.mem_cons.mp hd with rfl | hd
  · exact .int _
  rcases List.mem_cons.mp hd with rfl | hd
  · exact Sh.tuple (Sh.ints _)
  · cases hd
theorem Sh.mvs (ms : List Mv) : Sh 3 (.list (ms.map mvD)) := Sh.list fun d hd => by
  obtain ⟨m, _, rfl⟩ := List.mem_map.mp hd
  exact .mv m
theorem dp_ints (K : PySem.W.Frag) (H : Hp) : ∀ ns : List Int, DpAll K H (ns.map V.int) (ns.map PyData.int)
  | [] => .nil
  | n :: ns => .cons (.int n) (dp_ints K H ns)
theorem dp_lst {K : PySem.W.Frag} {H : Hp} {a : Addr} {ns : List Int} (h : H a = some (.lst (ns.map V.int))) : Dp K H (.ref a) (.list (ns.map PyData.int)) := .lst (SqL.of h) (dp_ints K H ns)
theorem dp_tup {K : PySem.W.Frag} {H : Hp} {a : Addr} {ns : List Int} (h : H a = some (.tup (ns.map V.int))) : Dp K H (.ref a) (.tuple (ns.map PyData.int)) := .tup (SqT.of h) (dp_ints K H ns)
theorem dp_mv {K : PySem.W.Frag} {H : Hp} {v : V} {m : Mv} (h : MoveAt H v m) : Dp K H v (mvD m) := by
  obtain ⟨a, q, rfl, ha, hq⟩ := h
  exact .tup (SqT.of ha) (.cons (.int _) (.cons (dp_tup hq) .nil))
theorem dp_mvAll {K : PySem.W.Frag} {H : Hp} : ∀ {ws : List V} {ms : List Mv}, MovesAt H ws ms → DpAll K H ws (ms.map mvD)
  | _, _, .nil => .nil
  | _, _, .cons h t => .cons (dp_mv h) (dp_mvAll t)
theorem dp_mvs {K : PySem.W.Frag} {H : Hp} {a : Addr} {ws : List V} {ms : List Mv} (h : H a = some (.lst ws)) (hM : MovesAt H ws ms) : Dp K H (.ref a) (.list (ms.map mvD)) := .lst (SqL.of h) (dp_mvAll hM)
theorem hu64 {A : Around} {k : Nat} (hr : Room k A) : A.units + 64 < cLine := by
  have := hr.un
  omega
/-- d != d is False, d == d is True -/
theorem ne_same {K : PySem.W.Frag} {x y : V} {d : PyData} {n : Nat} {H : Hp} {Q : VK} (hx : Dp K H x d) (hy : Dp K H y d) (h : Sh n d) (le : n ≤ 64) (q : Q (.bl false) H) : rNeD K x y H Q := by
  refine ⟨d, d, hx, hy, h.shaped le, h.shaped le, ?_⟩
  rw [h.refl]
  exact q
theorem eq_same {K : PySem.W.Frag} {x y : V} {d : PyData} {n : Nat} {H : Hp} {Q : VK} (hx : Dp K H x d) (hy : Dp K H y d) (h : Sh n d) (le : n ≤ 64) (q : Q (.bl true) H) : rEqD K x y H Q := by
  refine ⟨d, d, hx, hy, h.shaped le, h.shaped le, ?_⟩
  rw [h.refl]
  exact q
/-! ### sorted(set(a list of ints)): a rule of our own -/
section
variable {prog : Program} {w : World} {A : Around} {E : Value → Shared → Prop} {s : Shared}
/-- a set as it is when it has just been made -/
def bareSet (w : World) : Obj :=
  { cls := .type "set", dict := none, data := .set #[] 0 (.fresh 0 0 (!w.params.followText "set-order")) }
set_option maxHeartbeats 3200000 in
open PySem PyProof.Rows in
/-- the set at S takes what a list gives -/
theorem set_takes {l : Addr} {its : Array Value} {ns : List Int} {R : Result → Shared → Prop} (S : Addr) (hh : A.handled = none) (hS : s.heap.get? S = some (bareSet w)) (hl : s.heap.IsList l its) (neq : l ≠ S) (hi : IntsAre its.toList ns) (small : ns.length + 1 < scanBound)
    (hR : ∀ (g : Heap) (tk c : Nat), SetR w g S (fun j => decide (j ∈ ns)) c → c ≤ ns.length → (∀ b o, b ≠ S → s.heap.get? b = some o → g.get? b = some o) → R (.ok (.ret .none)) { s with heap := g, toks := tk }) :
    wpAny (model prog w) A.in1 (Builtin.«set.__init__» ⟨[.ref S, .ref l], []⟩)
      (fun fin s' => match fin with | .done f => R (.ok f) s' | .again c' => c'.quiet = true ∧ codeAny (model prog w) A c' R s') (fun e s' => R (.error e) s') s := by
  have sz : its.size = ns.length := by
    rw [← Array.length_toList]
    exact IntsAre.length hi
  have ltl : l < s.heap.objs.size := let ⟨_, g, _⟩ := hl; Heap.lt_size g
  have ltS : S < s.heap.objs.size := Heap.lt_size hS
  have hl' := hl
  obtain ⟨⟨k1, k2, k3, k4⟩, g, k5, k6, k7⟩ := hl'
  simp only at k5 k7
  subst k5
  subst k7
  have tS := F.sub_list_set
  have tF := F.sub_list_frozenset
  have tD : (Value.type "list" == Value.type "dict") = false := by decide
  have hi3 : A.in1.in1.handled = none := by
    simp [hh]
  unfold Builtin.«set.__init__» noKeywords
  unfold Builtin.Frozenset.updateFrom
  generalize hq : pyIter = q
  wp_walk
  subst hq
  refine wpAny_pyIter_list hl ?_
  refine wpAny_bind (wpAny_runValue ?_)
  generalize hI : s.heap.objs.size = I at *
  have offS : S ∉ [I, l] := by
    intro h
    rcases List.mem_cons.mp h with e | e
    · exact absurd e (Nat.ne_of_lt ltS)
    · exact neq (List.mem_singleton.mp e).symm
  have offL : l ≠ I := Nat.ne_of_lt ltl
  have vals : ∀ (i : Nat) (v : Value), its[i]? = some v → ∃ k t, ns[i]? = some k ∧ v = .int k t := by
    intro i v hv
    have lt : i < ns.length := by
      rw [← sz]
      exact (Array.getElem?_eq_some_iff.mp hv).1
    obtain ⟨t, e⟩ := IntsAre.int_at hi i v (by rw [Array.getElem?_toList]; exact hv)
    refine ⟨ns[i], t, List.getElem?_eq_getElem lt, ?_⟩
    rw [e, List.getD_eq_getElem?_getD, List.getElem?_eq_getElem lt]
    rfl
  have W := (Walks.list (prog := prog) (w := w) (A := A.in1.in1) hi3 I l offL its).toS
  have fresh1 : ∀ b o, s.heap.get? b = some o → (s.heap.push { cls := .type "list_iterator", data := .fields #[.ref l, .int 0 0] }).get? b = some o := fun b o e => Heap.get?_push_of_some _ e
  have new1 : (s.heap.push { cls := .type "list_iterator", data := .fields #[.ref l, .int 0 0] }).get? I = some { cls := .type "list_iterator", data := .fields #[.ref l, .int 0 0] } := by
    rw [← hI]
    exact Heap.get?_push_size _ rfl
  refine set_update_ints W S offS ns sz small vals its.size 0 _ (Nat.sub_zero _) (Nat.zero_le _) ⟨⟨_, new1, rfl, rfl⟩, ⟨_, fresh1 _ _ g, rfl, _, rfl⟩⟩ ⟨0, Nat.le_refl _, setR_new_at (fresh1 _ _ hS)⟩ fun s' c mv hc hs => ?_
  refine wpAny_pure (wpAny_pure ?_)
  rw [Moved.eq_with mv]
  refine hR s'.heap s'.toks c hs (by rw [← sz]; exact hc) fun b o nb e => mv.heap b o (fun z => ?_) (fresh1 b o e)
  rcases List.mem_cons.mp z with z | z
  · exact nb z
  · have : b < I := by
      rw [← hI]
      exact Heap.lt_size e
    exact absurd (List.mem_singleton.mp z) (Nat.ne_of_lt this)
/-- callType_codes, where the check of __init__'s arguments is proved by itself -/
theorem callType_checked {T nid iid : String} {Bi : Builtin} {args : List Value} {Q Q₁ : Value → Shared → Prop} (ft : TypeCalled T nid iid) (ct : checkTypeCall T ⟨args, []⟩ = pure ()) (en : PySem.entryFor PySem.table iid = some Bi)
    (mk : codeAny (model prog w) A.in1 (.call (.builtin nid) ⟨.type T :: args, []⟩) (wants Q₁ E) s)
    (nx : ∀ obj t, Q₁ obj t → t.TypeIs obj T ∧ (∀ (M : Model) (B : Around) (F : Value → Shared → Prop) (Z : Unit → Shared → Prop), Z () t → wpAny M B (checkBuiltinCall iid ⟨obj :: args, []⟩) Z F t) ∧
      wpAny (model prog w) A.in1.in1 (Bi ⟨obj :: args, []⟩)
        (fun fin u => match fin with | .done f => wants (fun r v => r = .none ∧ Q obj v) E (.ok f) u | .again c => c.quiet = true ∧ codeAny (model prog w) A.in1 c (wants (fun r v => r = .none ∧ Q obj v) E) u)
        (fun e u => wants (fun r v => r = .none ∧ Q obj v) E (.error e) u) t) :
    wpAny (model prog w) A (call (.type T) args) Q E s := by
  have ⟨c0, t0, mr⟩ := ft.mro
  have md := ft.made
  have sb := ft.sub
  refine wpAny_call (codeAny_of_tree ?_)
  show wpAny _ _ (callAny (.type T) _) _ _ _
  refine wpAny_pure ⟨PySem.Code.quiet_builtin _ (by decide +kernel), codeAny_builtin F.entry_type_call ?_⟩
  rw [Around.under_plain (weight_type_call_type T args []) rfl]
  have n1 := ft.notType
  have n2 := ft.canCreate
  repeat (any_goals (first | assumption | wp_step))
  refine codeAny_mono mk fun r t ht => ?_
  match r, ht with
  | .error e, ht => exact ht
  | .ok (.ret obj), ht =>
    obtain ⟨hT, ck, run⟩ := nx _ _ ht
    have li := ft.init.lookup
    have bi := ft.init.bind obj
    repeat (any_goals (first | assumption | wp_step))
    refine codeAny_mono (codeAny_call_builtin ft.init.plain en (ck _ _ _ _ run)) fun r2 t2 h2 => ?_
    match r2, h2 with
    | .error e, h2 => exact h2
    | .ok (.ret r), h2 =>
      obtain ⟨rfl, hq⟩ := h2
      repeat (any_goals (first | assumption | wp_step))
open PyProof.Rows in
theorem call_setL {l : Addr} {its : Array Value} (ns : List Int) {Q : Value → Shared → Prop} (hh : A.handled = none) (hl : s.heap.IsList l its) (hi : IntsAre its.toList ns) (small : ns.length + 1 < scanBound)
    (h : ∀ (g : Heap) (tk c : Nat), SetR w g s.heap.objs.size (fun j => decide (j ∈ ns)) c → c ≤ ns.length → (∀ b o, s.heap.get? b = some o → g.get? b = some o) → Q (.ref s.heap.objs.size) { s with heap := g, toks := tk }) :
    wpAny (model prog w) A (call (.type "set") [.ref l]) Q E s := by
  have ltl : l < s.heap.objs.size := let ⟨_, g, _⟩ := hl; Heap.lt_size g
  refine callType_checked (Q₁ := fun obj t => obj = .ref s.heap.objs.size ∧ t = { s with heap := s.heap.push (bareSet w) }) F.called_set (F.typeCall_set_1 _) F.entry_set_init (code_set_led1 _ ⟨rfl, rfl⟩) fun obj t ht => ?_
  obtain ⟨rfl, rfl⟩ := ht
  have hS : (s.heap.push (bareSet w)).get? s.heap.objs.size = some (bareSet w) := Heap.get?_push_size _ rfl
  refine ⟨⟨_, hS, rfl⟩, fun M B F Z hz => check_set_init_1 ⟨_, hS, rfl⟩ hz, ?_⟩
  refine set_takes (A := A.in1) (s := { s with heap := s.heap.push (bareSet w) }) s.heap.objs.size (by simp [hh]) hS (hl.push _) (Nat.ne_of_lt ltl) hi small fun g tk c hs hc kp => ⟨rfl, h g tk c hs hc fun b o e => kp b o (Nat.ne_of_lt (Heap.lt_size e)) (Heap.get?_push_of_some _ e)⟩
/-- sorted(set(e)), e a list of ints: a new list that rises -/
def tSSet (K : PySem.W.Frag) (ta : TE) : TE := fun σ H Q => ta σ H fun x H1 => ∃ (l : Addr) (ns : List Int), x = V.ref l ∧ SqL K H1 l (ns.map V.int) ∧ ns.length < 64 ∧
  ∀ (p : Addr) (xs : List Int) (c : Nat), xs.Pairwise (· < ·) → (∀ k : Int, k ∈ xs ↔ k ∈ ns) → xs.length = c → c ≤ ns.length → H1 p = none → Q (.ref p) (upd H1 p (.lst (xs.map V.int)))
open RZ in
theorem pe_sset {X : Cx} {a : Expr} {ta : TE} {p p2 q pos : Pos} (hg : Gl X "sorted") (hm : X.mg "sorted" = none) (hg2 : Gl X "set") (hm2 : X.mg "set" = none) (ha : PE X a ta) (hc : X.calm = true := by rfl)
    (na : starEach [a] X.env = (false, eval a X.env) :: starEach [] X.env := by rfl) (nb : starEach [.Call (.Name "set" p2) [a] [] q] X.env = (false, eval (.Call (.Name "set" p2) [a] [] q) X.env) :: starEach [] X.env := by rfl) :
    PE X (.Call (.Name "sorted" p) [.Call (.Name "set" p2) [a] [] q] [] pos) (tSSet X.K ta) := by
  refine ⟨fun pins s σ H Q I h => Call_ (ld_blt I hg hm PyProof.Rows.boot_sorted (PyProof.Rows.callWith_builtin1 (PyProof.Rows.args_cons (Call_ (ld_blt I hg2 hm2 PyProof.Rows.boot_set
    (PyProof.Rows.callWith_type1 (PyProof.Rows.args_cons (thn (ha.run pins s σ H _ I h) fun v s1 hq => PyProof.Rows.args_nil ?_) na) na rfl))) nb) nb rfl))⟩
  obtain ⟨x, H1, I1, r1, l, ns, ex, hq, hl, q1⟩ := hq
  subst ex
  have e0 : v = Value.ref l := r1
  subst e0
  obtain ⟨its, r, pl, hz⟩ := I1.list hq
  have hit : PyProof.Rows.IntsAre its.toArray.toList ns := by simpa using intsAre_vals r
  refine call_setL ns (I1.ok.hd hc) pl.isList hit (by unfold scanBound; omega) fun g tk c hs hcn kp => PyProof.Rows.args_nil ?_
  have I2 : Inv X pins σ H1 { s1 with heap := g, toks := tk } := I1.kept kp
  refine sorted_set hs (I2.ok.hd hc) (by omega) fun s2 p out c2 xs k gs os hp hg' hix hsx hm' hl' => ?_
  have hn : H1 p = none := I2.hok.fresh hp
  have len : (xs.map V.int).length ≤ sizeLine := by
    rw [List.length_map, hl']
    exact Nat.le_of_lt (small1k (by omega))
  have J : Inv X pins σ (upd H1 p (.lst (xs.map V.int))) { s1 with heap := s2.heap, gens := s2.gens, drawn := s2.drawn, toks := s2.toks } :=
    Inv.call (s := { s1 with heap := g, toks := tk }) I2 (ch := []) (Un.laid k hp hn) (I2.hok.laid k hp ⟨len, out.toList, c2, vals_of_ints hix, hg'⟩) (by rw [gs]; exact I2.bare) (fun _ z => nomatch z)
  have e : s2 = { s1 with heap := s2.heap, gens := s2.gens, drawn := s2.drawn, toks := s2.toks } := by
    have o2 : s2.os = s1.os := os
    rw [← o2]
  rw [e]
  exact ⟨.ref p, _, J, rfl, q1 p xs c hsx (fun z => (hm' z).trans (by simp)) hl' hcn hn⟩
end
/-! ### len(set(a list of ints)): a rule of our own, whatever stands twice in it -/
def dist (ns : List Int) : List Int := PyProof.Rows.firstMet (fun i => ns.getD i 0) ns.length
def one (ns : List Int) : Bool := decide (V.int (((dist ns).length : Nat) : Int) = V.int 1)
open RZ in
def tLenSetN (K : PySem.W.Frag) (ta : TE) : TE := fun σ H Q => ta σ H fun x H1 => ∃ (l : Addr) (ns : List Int), x = V.ref l ∧ SqL K H1 l (ns.map V.int) ∧ ns.length < 64 ∧ Q (.int (((dist ns).length : Nat) : Int)) H1
open RZ in
theorem pe_lenSetN {X : Cx} {a : Expr} {ta : TE} {p p2 q pos : Pos} (hg : Gl X "len") (hm : X.mg "len" = none) (hg2 : Gl X "set") (hm2 : X.mg "set" = none) (ha : PE X a ta) (hc : X.calm = true := by rfl)
    (na : starEach [a] X.env = (false, eval a X.env) :: starEach [] X.env := by rfl) : PE X (.Call (.Name "len" p) [.Call (.Name "set" p2) [a] [] q] [] pos) (tLenSetN X.K ta) := by
  refine ⟨fun pins s σ H Q I h => Call_ (ld_blt I hg hm PySem.boot_len (PyProof.Rows.callWith_builtin1 (PyProof.Rows.args_cons (Call_ (ld_blt I hg2 hm2 PyProof.Rows.boot_set
    (PyProof.Rows.callWith_type1 (PyProof.Rows.args_cons (thn (ha.run pins s σ H _ I h) fun v s1 hq => PyProof.Rows.args_nil ?_) na) na rfl))) rfl) rfl rfl))⟩
  obtain ⟨x, H1, I1, r1, l, ns, ex, hq, hl, q1⟩ := hq
  subst ex
  have e0 : v = Value.ref l := r1
  subst e0
  obtain ⟨its, r, pl, hz⟩ := I1.list hq
  have sz : its.toArray.size = ns.length := by
    have e := r.length
    rw [List.length_map] at e
    rw [List.size_toArray, e]
  refine call_set_list (I1.ok.hd hc) pl.isList (by simpa using intsAre_vals r) (by rw [sz]; unfold scanBound; omega) fun h' tk hS hk => PyProof.Rows.args_nil ?_
  rw [sz] at hS
  have hle := PyProof.Rows.firstMet_length_le (fun i => ns.getD i 0) ns.length
  obtain ⟨o, es, ep, t, ho, hex, hd, _, _, _, hf, hn⟩ := hS
  have J : Inv X pins σ H1 { s1 with heap := h', toks := tk } := I1.kept fun b o e => hk b o (Heap.lt_size e) e
  refine call_len_set ho hex hd hf (by rw [hn] <;> omega) ⟨.int (((dist ns).length : Nat) : Int), H1, J.tok _, ⟨_, by rw [hn]; rfl⟩, q1⟩
/-! ### set(a list of tuples of ints), however long: few of them differ -/
section
open PySem.Spec
/-- how many of them may differ -/
def FewT (ks : List (Addr × List Int)) : Prop := ∀ L : List (Addr × List Int), (∀ p ∈ L, p ∈ ks) → (L.map (·.2)).Nodup → L.length + 1 < 64
variable {P : Program} {w : World} {A : Around} {E : Value → Shared → Prop} {s : Shared}
theorem upd_tupsN {I : Addr} {fp wr : List Addr} {G : Array GenState → Array GenState → Prop} {n : Nat} {Pv : Nat → Value → Prop} {St : Nat → Shared → Prop} {R : Result → Shared → Prop}
    (W : WalksS P w A.in1 I fp wr G n Pv St) (S : Addr) (hSf : S ∉ fp) (ks : List (Addr × List Int)) (hn : n = ks.length) (few : FewT ks) (hval : ∀ i v, Pv i v → ∃ p, ks[i]? = some p ∧ v = .ref p.1)
    (h0 : Heap) (hk : ∀ p ∈ ks, IsT P w h0 p.2 p.1) (hS0 : h0.get? S = none) (hw0 : ∀ b ∈ wr, h0.get? b = none) (hu : A.in1.units < cLine) (left : Nat) :
    ∀ (i : Nat) (s : Shared), n = i + left → St i s → (∀ b o, h0.get? b = some o → s.heap.get? b = some o) → (∃ L es ep t, SetTR P w s.heap S L es ep t ∧ Got ks i L) →
      (∀ s' L es ep t, Moved (S :: wr) G s s' → SetTR P w s'.heap S L es ep t → Got ks n L → (∀ b o, h0.get? b = some o → s'.heap.get? b = some o) → R (.ok (.ret .none)) s') →
      codeAny (model P w) A (.builtin "set.update.loop" ⟨[.ref S, .ref I], []⟩) R s := by
  have sw : S ∉ wr := fun z => hSf (W.sub _ z)
  have up : ∀ b ∈ wr, b ∈ S :: wr := fun b z => List.mem_cons_of_mem _ z
  have keeps : ∀ {s s' : Shared}, Moved wr G s s' → (∀ b o, h0.get? b = some o → s.heap.get? b = some o) → ∀ b o, h0.get? b = some o → s'.heap.get? b = some o := fun hm hs b o e =>
    hm.heap b o (fun z => by rw [hw0 b z] at e; cases e) (hs b o e)
  induction left with
  | zero =>
    rintro i s rfl hst hs ⟨L, es, ep, t, hS, g⟩ hR
    refine codeAny_builtin PyProof.Rows.F.entry_set_update_loop ?_
    rw [Around.under_plainId PyProof.Rows.F.plain_set_update_loop _]
    show wpAny _ A.in1 (pyNext (.ref I) >>= _) _ _ s
    refine wpAny_bind (W.done s _ _ hst fun s' hm => ?_)
    show wpAny _ A.in1 (ret Value.none) _ _ s'
    have hs' := keeps hm hs
    exact wpAny_pure (hR s' L es ep t (hm.mono up) (hS.keep (fun o e => hm.heap S o sw e) fun p hp => isT_keep (hk p (List.mem_of_mem_take (g.sub p hp))) hs') g hs')
  | succ left ih =>
    rintro i s en hst hs ⟨L, es, ep, t, hS, g⟩ hR
    have hlt : i < n := by omega
    refine codeAny_builtin PyProof.Rows.F.entry_set_update_loop ?_
    rw [Around.under_plainId PyProof.Rows.F.plain_set_update_loop _]
    show wpAny _ A.in1 (pyNext (.ref I) >>= _) _ _ s
    refine wpAny_bind (W.item i s _ _ hlt hst fun v s' hP hst' hm => ?_)
    obtain ⟨p, hp, rfl⟩ := hval i v hP
    have hs' := keeps hm hs
    have inK : ∀ q ∈ L, q ∈ ks := fun q hq => List.mem_of_mem_take (g.sub q hq)
    have hS' : SetTR P w s'.heap S L es ep t := hS.keep (fun o e => hm.heap S o sw e) fun q hq => isT_keep (hk q (inK q hq)) hs'
    have hx : IsT P w s'.heap p.2 p.1 := isT_keep (hk p (List.mem_of_getElem? hp)) hs'
    show wpAny _ A.in1 (holding [Value.ref p.1] (setAdd S (.ref p.1)) >>= _) _ _ s'
    refine wpAny_bind (wpAny_holding ?_)
    unfold setAdd
    refine wpAny_holding ?_
    refine wpAny_bind (wpAny_pyHash_tuple hu hx ?_)
    refine add_at (s := { s' with toks := s'.toks + (p.2.length + 1) }) hS' hx hu (few L inK hS'.nd) fun b h' L' es' ep' t' same hS2 c1 c2 => ?_
    have g' : Got ks (i + 1) L' := (Classical.em (p.2 ∈ L.map (·.2))).elim (fun c => by rw [c1 c]; exact g.same hp c) fun c => g.more hp (c2 c)
    have hs2 : ∀ b o, h0.get? b = some o → h'.get? b = some o := fun b o e => (same.2 b (fun z => by rw [z, hS0] at e; cases e)).trans (hs' b o e)
    refine wpAny_pure ⟨plainId_quiet PyProof.Rows.F.plain_set_update_loop _, ih (i + 1) _ (by omega) (W.frame _ s' _ _ hst' (Nat.le_add_right _ _) fun b hb o e => ?_) hs2 ⟨L', es', ep', t', hS2, g'⟩ fun s'' L2 es2 ep2 t2 hm'' hS'' g'' hs'' => ?_⟩
    · rw [same.2 b (fun z : b = S => hSf (by rw [← z]; exact hb))]
      exact e
    · refine hR s'' L2 es2 ep2 t2 (Moved.trans W.gtrans ((hm.mono up).then_heap (Nat.le_add_right _ _) fun b o hb e => ?_) hm'') hS'' g'' hs''
      rw [same.2 b (fun z : b = S => hb (by rw [z]; exact List.mem_cons_self))]
      exact e
set_option maxHeartbeats 3200000 in
open PySem PyProof.Rows in
theorem setT_takes {l : Addr} {its : Array Value} {ks : List (Addr × List Int)} {R : Result → Shared → Prop} {h0 : Heap} (S : Addr) (hh : A.handled = none) (hS : s.heap.get? S = some (bareSet w)) (hl : s.heap.IsList l its) (neq : l ≠ S) (hit : its.toList = ks.map fun p => Value.ref p.1) (few : FewT ks)
    (hu : A.in1.in1.units < cLine) (hk : ∀ p ∈ ks, IsT P w h0 p.2 p.1) (hS0 : h0.get? S = none) (h0n : h0.get? s.heap.objs.size = none) (h0k : ∀ b o, h0.get? b = some o → s.heap.get? b = some o)
    (hR : ∀ (g : Heap) (tk : Nat) L es ep t, SetTR P w g S L es ep t → Got ks ks.length L → (∀ b o, h0.get? b = some o → g.get? b = some o) → R (.ok (.ret .none)) { s with heap := g, toks := tk }) :
    wpAny (model P w) A.in1 (Builtin.«set.__init__» ⟨[.ref S, .ref l], []⟩)
      (fun fin s' => match fin with | .done f => R (.ok f) s' | .again c' => c'.quiet = true ∧ codeAny (model P w) A c' R s') (fun e s' => R (.error e) s') s := by
  have sz : its.size = ks.length := by
    have q := congrArg List.length hit
    rw [Array.length_toList, List.length_map] at q
    exact q
  have ltl : l < s.heap.objs.size := let ⟨_, g, _⟩ := hl; Heap.lt_size g
  have ltS : S < s.heap.objs.size := Heap.lt_size hS
  have hl' := hl
  obtain ⟨⟨k1, k2, k3, k4⟩, g, k5, k6, k7⟩ := hl'
  simp only at k5 k7
  subst k5
  subst k7
  have tS := F.sub_list_set
  have tF := F.sub_list_frozenset
  have tD : (Value.type "list" == Value.type "dict") = false := by decide
  have hi3 : A.in1.in1.handled = none := by
    simp [hh]
  unfold Builtin.«set.__init__» noKeywords
  unfold Builtin.Frozenset.updateFrom
  generalize hq : pyIter = q
  wp_walk
  subst hq
  refine wpAny_pyIter_list hl ?_
  refine wpAny_bind (wpAny_runValue ?_)
  generalize hI : s.heap.objs.size = I at *
  have offS : S ∉ [I, l] := by
    intro h
    rcases List.mem_cons.mp h with e | e
    · exact absurd e (Nat.ne_of_lt ltS)
    · exact neq (List.mem_singleton.mp e).symm
  have offL : l ≠ I := Nat.ne_of_lt ltl
  have vals : ∀ (i : Nat) (v : Value), its[i]? = some v → ∃ p, ks[i]? = some p ∧ v = .ref p.1 := by
    intro i v hv
    have e : its.toList[i]? = some v := by rw [Array.getElem?_toList]; exact hv
    rw [hit, List.getElem?_map] at e
    obtain ⟨p, hp, e2⟩ := Option.map_eq_some_iff.mp e
    exact ⟨p, hp, e2.symm⟩
  have W := (Walks.list (prog := P) (w := w) (A := A.in1.in1) hi3 I l offL its).toS
  have fresh1 : ∀ b o, s.heap.get? b = some o → (s.heap.push { cls := .type "list_iterator", data := .fields #[.ref l, .int 0 0] }).get? b = some o := fun b o e => Heap.get?_push_of_some _ e
  have new1 : (s.heap.push { cls := .type "list_iterator", data := .fields #[.ref l, .int 0 0] }).get? I = some { cls := .type "list_iterator", data := .fields #[.ref l, .int 0 0] } := by
    rw [← hI]
    exact Heap.get?_push_size _ rfl
  refine upd_tupsN W S offS ks sz few vals h0 hk hS0 (fun b hb => by rw [List.mem_singleton.mp hb]; exact h0n) hu its.size 0 _ (Nat.zero_add _).symm ⟨⟨_, new1, rfl, rfl⟩, ⟨_, fresh1 _ _ g, rfl, _, rfl⟩⟩ (fun b o e => fresh1 b o (h0k b o e)) ⟨[], #[], 0, _, setTR_fresh (fresh1 _ _ hS), Got.zero ks⟩ fun s' L es ep t mv hs g' kp => ?_
  refine wpAny_pure (wpAny_pure ?_)
  rw [Moved.eq_with mv]
  exact hR s'.heap s'.toks L es ep t hs (by rw [← sz]; exact g') kp
open PyProof.Rows in
theorem call_setN {l : Addr} {its : Array Value} (ks : List (Addr × List Int)) {Q : Value → Shared → Prop} (hh : A.handled = none) (hl : s.heap.IsList l its) (hit : its.toList = ks.map fun p => Value.ref p.1) (hk : ∀ p ∈ ks, IsT P w s.heap p.2 p.1) (few : FewT ks) (hu : A.in1.in1.in1.units < cLine)
    (h : ∀ (g : Heap) (tk : Nat) L es ep t, SetTR P w g s.heap.objs.size L es ep t → Got ks ks.length L → (∀ b o, s.heap.get? b = some o → g.get? b = some o) → Q (.ref s.heap.objs.size) { s with heap := g, toks := tk }) :
    wpAny (model P w) A (call (.type "set") [.ref l]) Q E s := by
  have ltl : l < s.heap.objs.size := let ⟨_, g, _⟩ := hl; Heap.lt_size g
  have out : ∀ b, s.heap.objs.size ≤ b → s.heap.get? b = none := fun b hb => by
    cases q : s.heap.get? b with
    | none => rfl
    | some o => exact absurd (Nat.lt_of_lt_of_le (Heap.lt_size q) hb) (Nat.lt_irrefl _)
  refine callType_checked (Q₁ := fun obj t => obj = .ref s.heap.objs.size ∧ t = { s with heap := s.heap.push (bareSet w) }) F.called_set (F.typeCall_set_1 _) F.entry_set_init (code_set_led1 _ ⟨rfl, rfl⟩) fun obj t ht => ?_
  obtain ⟨rfl, rfl⟩ := ht
  have hS : (s.heap.push (bareSet w)).get? s.heap.objs.size = some (bareSet w) := Heap.get?_push_size _ rfl
  refine ⟨⟨_, hS, rfl⟩, fun M B F Z hz => check_set_init_1 ⟨_, hS, rfl⟩ hz, ?_⟩
  refine setT_takes (A := A.in1) (s := { s with heap := s.heap.push (bareSet w) }) (h0 := s.heap) s.heap.objs.size (by simp [hh]) hS (hl.push _) (Nat.ne_of_lt ltl) hit few hu hk (out _ (Nat.le_refl _)) (out _ (by show _ ≤ (s.heap.push _).objs.size; rw [Heap.size_push]; exact Nat.le_succ _)) (fun b o e => Heap.get?_push_of_some _ e) fun g tk L es ep t hs g' kp => ⟨rfl, h g tk L es ep t hs g' kp⟩
/-- set(xs), xs a list of tuples of ints, however long -/
def rSetN (K : PySem.W.Frag) (P : Program) (w : World) : List V → Hp → VK → Prop := fun xs H Q => ∃ (l : Addr) (ks : List (Addr × List Int)), xs = [V.ref l] ∧ SqL K H l (ks.map fun p => V.ref p.1) ∧ (∀ p ∈ ks, SqT K H p.1 (p.2.map V.int)) ∧ FewT ks ∧
  ∀ a L, H a = none → (∀ p ∈ L, p ∈ ks) → (∀ p ∈ ks, p.2 ∈ L.map (·.2)) → Q (.ref a) (upd H a (SetTO P w a L))
theorem cr_setN {X : Cx} (hc : X.calm = true) (hu : X.A.units + 64 < cLine) : CallR X (.type "set") (rSetN X.K X.prog X.w) := by
  intro pins s σ H xs us Q I r h
  obtain ⟨l, ks, rfl, hl, hk, hf, q⟩ := h
  rw [Vals.ref1 r]
  obtain ⟨its, rv, pl, hz⟩ := I.list hl
  have hn : H s.heap.objs.size = none := I.hok.fresh (Nat.le_refl _)
  refine call_setN (P := X.prog) (w := X.w) ks (I.ok.hd hc) pl.isList (by simpa using refs_of_vals rv) (fun p hp => I.isT (hk p hp)) hf (by have e : X.A.in1.in1.in1.units = X.A.units + 3 := rfl; omega) fun h' tk L es ep t R g k => ?_
  refine ⟨.ref s.heap.objs.size, upd H s.heap.objs.size (SetTO X.prog X.w s.heap.objs.size L), I.laid (t' := tk) k (Nat.le_refl _) (setTO_new R.t0), rfl, q _ L hn (fun p hp => ?_) fun p hp => ?_⟩
  · exact List.mem_of_mem_take (g.sub p hp)
  · exact g.all p (by rw [List.take_length]; exact hp)
end
theorem Same.seqt {K : PySem.W.Frag} {H H' : Hp} {a : Addr} {xs : List V} (s : Same H H') (h : SqT K H a xs) : SqT K H' a xs := by
  rcases h with (h | ⟨o, h⟩) | h
  · exact .inl (.inl (s _ _ h))
  · exact .inl (.inr ⟨o, s _ _ h⟩)
  · exact .inr h
/-! ### t + u, t[i:j] of tracked tuples, whatever they are -/
theorem catA_of {K : PySem.W.Frag} {H : Hp} {a b : Addr} {xs ys : List V} {Q : VK} (ha : H a = some (.tup xs)) (hb : H b = some (.tup ys)) (hz : xs.length + ys.length ≤ sizeLine) (h : ∀ p H', Same H H' → H' p = some (.tup (xs ++ ys)) → Q (.ref p) H') : rCatA K (.ref a) (.ref b) H Q := by
  refine ⟨a, b, xs, ys, rfl, rfl, SqT.of ha, SqT.of hb, hz, fun e => ?_, fun _ e => ?_, fun _ _ p np => h p _ (same_new np) upd_same⟩
  · subst e
    exact h b H (Same.refl _) hb
  · subst e
    exact h a H (Same.refl _) (by rw [List.append_nil]; exact ha)
theorem slA_of {K : PySem.W.Frag} {H : Hp} {a : Addr} {xs : List V} {lo hi : Option Int} {Q : VK} (ha : H a = some (.tup xs)) (h : ∀ p H', Same H H' → H' p = some (.tup (cutV xs lo hi)) → Q (.ref p) H') : rSlA K (.ref a) lo hi H Q := by
  refine ⟨a, xs, rfl, SqT.of ha, fun e => ?_, fun _ p np => h p _ (same_new np) upd_same⟩
  refine h a H (Same.refl _) ?_
  unfold cutV
  rw [e.1, e.2, List.drop_zero, Nat.sub_zero, List.take_length]
  exact ha
theorem slA_no {K : PySem.W.Frag} {σ : L2.St} {H : Hp} {a : Addr} {xs : List V} {lo : Option Int} {Q : VK} (ha : H a = some (.tup xs)) (h : ∀ p H', Same H H' → H' p = some (.tup (cutV xs lo none)) → Q (.ref p) H') : tNoPart σ H fun u H3 => rSlA K (.ref a) lo u H3 Q := slA_of ha h
theorem cut_from (xs : List V) (k : Nat) (hk : k ≤ xs.length) : cutV xs (some (k : Int)) none = xs.drop k := by
  unfold cutV
  rw [HT.sIx_nat, HT.sIx_none, Nat.min_eq_left hk]
  exact List.take_of_length_le (by rw [List.length_drop]; exact Nat.le_refl _)
theorem cut_to (xs : List V) (k : Nat) (hk : k ≤ xs.length) : cutV xs none (some (k : Int)) = xs.take k := by
  unfold cutV
  rw [HT.sIx_nat, HT.sIx_none, Nat.min_eq_left hk, Nat.sub_zero, List.drop_zero]
theorem le1k {n : Nat} (h : n ≤ 1000) : n ≤ sizeLine := Nat.le_trans h (by decide)
theorem lt1k {n : Nat} (h : n ≤ 1000) : n < sizeLine := Nat.lt_of_le_of_lt h (by decide)
/-! ### a set comprehension of ints: a rule of our own -/
/-- what one turn with item v asks: the target, the tests, the element, and then the set D with it -/
def oneTurn (w : World) (D : Addr) (gt : TG) (tst : TT) (elm : TE) (gone : List Nat) (σ : L2.St) (v : V) (Ha : Hp) (nxt : Hp → Prop) : Prop :=
  gt v (wipe σ gone) Ha fun σb Hb => wipe σb gone = wipe σ gone ∧ tst σb Hb fun yes Hc =>
    if yes = true then elm σb Hc fun z Hd => ∃ (k : Int) (M : Int → Bool) (c : Nat), z = .int k ∧ Hd D = some (SetO w D M c) ∧ c + 1 < scanBound ∧
      nxt (upd Hd D (SetO w D (fun j => M j || decide (j = k)) (if M k = true then c else c + 1)))
    else nxt Hc
def tScI (w : World) (src : TI) (gt : TG) (tst : TT) (elm : TE) (gone : List Nat) : TE := fun σ H Q =>
  src σ H fun J Ha => ∀ D, Ha D = none → ∃ Z : Nat → Nat → Hp → Prop, (∃ m, Z 0 m (upd Ha D (SetO w D (fun _ => false) 0))) ∧
    ∀ i m Hb, Z i m Hb → (J.stop i Hb ∧ Q (.ref D) Hb) ∨
      (J.go i Hb ∧ ∃ nxt : Hp → Prop, (∀ Hc, nxt Hc → ∃ m', m' < m ∧ Z (i + 1) m' Hc) ∧ ∀ v Hc, J.yld i Hb v Hc → oneTurn w D gt tst elm gone σ v Hc nxt)
section
variable {X : Cx}
theorem pe_scI {elt tg iter : Expr} {ifs : List Expr} {scope : Scope} {own : List (PySem.Str × Nat)} {pos : Pos} {src : TI} {gt : TG} {tst : TT} {elm : TE}
    (calm : X.calm = true) (nd : X.N.Nodup) (hsrc : PI X tg iter src) (blk : BlkOk X.N X.env.scope scope own)
    (hgt : ∀ (s0 : Shared) (H0 : Hp) (B : Addr) (cls : List (PySem.Str × Addr)) (held : List Addr), PG (X.blk s0 H0 scope (compEnvC scope cls B X.env) held) tg gt)
    (htst : ∀ (s0 : Shared) (H0 : Hp) (B : Addr) (cls : List (PySem.Str × Addr)) (held : List Addr), PTs (X.blk s0 H0 scope (compEnvC scope cls B X.env) held) ifs tst)
    (helm : ∀ (s0 : Shared) (H0 : Hp) (B : Addr) (cls : List (PySem.Str × Addr)) (held : List Addr), PE (X.blk s0 H0 scope (compEnvC scope cls B X.env) held) elt elm)
    (fold : ∀ z, foldedSetIterable iter X.env z = pure z := by intro _; rfl) :
    PE X (.SetComp elt [⟨tg, iter, ifs, 0⟩] scope pos) (tScI X.w src gt tst elm (own.map (·.2))) := by
  constructor
  intro pins s σ H Q Iv want
  rw [PpSet.eval_SetComp]
  have caps : ∀ y ∈ scope.names, y.2 = .free → ∃ c, X.env.cells.lookup y.1 = some c := by
    intro y my fy
    cases blk.free y my fy with
    | inl k => exact Iv.ok.has _ (.inl k)
    | inr k => exact Iv.ok.has _ (.inr k)
  refine wpAny_comprehension_free (use := none) rfl fold (closure_ok caps) blk.kind (fun y my ey => by rw [blk.uniq y my, ey]) ?_
  refine thn (hsrc.run pins s σ H _ Iv want) fun u0 sA gotIt => thn gotIt fun u1 sB two => ?_
  obtain ⟨itr, held, turns, J, HB, eu, IB, TW, atZero, clear, rest⟩ := two
  subst eu
  refine PpSet.newSet_ok (newEnv_comp ?_)
  -- D is where the set will stand
  obtain ⟨D, eD⟩ : ∃ D, D = sB.heap.objs.size := ⟨_, rfl⟩
  rw [← eD]
  have freeD : HB D = none := IB.hok.fresh (by rw [eD]; exact Nat.le_refl _)
  obtain ⟨Z, ⟨mz, z0⟩, go1⟩ := rest D freeD
  obtain ⟨bare, ebare⟩ : ∃ bare : Obj, bare = { cls := .type "set", dict := none, data := .set #[] 0 (.fresh 0 0 (!X.w.params.followText "set-order")) } := ⟨_, rfl⟩
  rw [← ebare]
  obtain ⟨sC, eC⟩ : ∃ sC : Shared, sC = { sB with heap := sB.heap.push bare } := ⟨_, rfl⟩
  have hC : sC.heap = sB.heap.push bare := by rw [eC]
  have setNew : SetR X.w sC.heap D (fun _ => false) 0 := by
    rw [hC, eD]
    refine SetR.congr (setR_new_at (ns := []) ?_) (fun _ => rfl)
    rw [ebare]
    exact Heap.get?_push_size _ rfl
  have IC : Inv X pins σ (upd HB D (SetO X.w D (fun _ => false) 0)) sC := by
    rw [eC]
    refine IB.laid (t' := sB.toks) (fun b o e => Heap.get?_push_of_some _ e) (by rw [eD]; exact Nat.le_refl _) ?_
    have e1 : ({ sB with heap := sB.heap.push bare } : Shared).heap = sC.heap := by rw [eC]
    show ObjOk _ _ _ (sB.heap.push bare) D _
    rw [← hC]
    exact setO_new setNew
  have below : ∀ b ∈ held, b < sB.heap.objs.size := by
    intro b hb
    obtain ⟨o, e, _⟩ := TW.obj _ _ atZero b hb
    exact Heap.lt_size e
  have clearC : ∀ b ∈ held, FpOk X pins (upd HB D (SetO X.w D (fun _ => false) 0)) b ∧ b < sC.heap.objs.size := by
    intro b hb
    have lt := below b hb
    refine ⟨⟨?_, (clear b hb).2⟩, ?_⟩
    · rw [upd_ne (by rw [eD]; exact Nat.ne_of_lt lt)]
      exact (clear b hb).1
    · rw [hC, Heap.size_push]
      exact Nat.lt_succ_of_lt lt
  have atC : turns 0 sC.heap := TW.keep _ _ _ atZero fun b _ o e => by
    rw [hC]
    exact Heap.get?_push_of_some _ e
  have IE := block_start IC blk nd clearC
  obtain ⟨HC, eHC⟩ : ∃ HC, HC = upd HB D (SetO X.w D (fun _ => false) 0) := ⟨_, rfl⟩
  rw [← eHC] at IC IE clearC z0
  obtain ⟨cells, ecells⟩ : ∃ cells, cells = cellsFrom (sC.heap.objs.size + 1) scope.names (cloFrom X.env.cells scope.names []) := ⟨_, rfl⟩
  obtain ⟨ce, ece⟩ : ∃ ce, ce = compEnvC scope cells sC.heap.objs.size X.env := ⟨_, rfl⟩
  have jg := hgt sC HC sC.heap.objs.size cells held
  have jt := htst sC HC sC.heap.objs.size cells held
  have je := helm sC HC sC.heap.objs.size cells held
  rw [← ece] at jg jt je
  obtain ⟨sE, eE⟩ : ∃ sE : Shared, sE = { sC with heap := pushCells (sC.heap.push { cls := .type "dict", data := .dict #[] }) scope.names } := ⟨_, rfl⟩
  rw [← ecells, ← ece, ← eE] at IE
  have lce : ce.locals = sC.heap.objs.size := by rw [ece]; rfl
  have none0 : ∀ b ∈ held, HC b = none := fun b hb => (clearC b hb).1.1
  have atE : turns 0 sE.heap := TW.keep _ _ _ atC fun b _ o e => by
    rw [eE]
    exact pushCells_keeps _ _ _ _ (Heap.get?_push_of_some _ e)
  rw [← eC, ← ecells]
  show codeAny _ _ (.compStart (.SetComp elt [⟨tg, iter, ifs, 0⟩] scope pos) 0 (.ref itr) (.ref D) (compEnvC scope cells sC.heap.objs.size X.env)) _ _
  rw [← ece]
  have still : ∀ {σ' : L2.St} {H' : Hp} {s' : Shared}, Inv (X.blk sC HC scope ce held) [] σ' H' s' → (∀ b ∈ held, H' b = none) → ∀ b ∈ held, FpOk (X.blk sC HC scope ce held) [] H' b := by
    intro σ' H' s' I' n0 b hb
    exact ⟨n0 b hb, (I'.ok.exf b hb).1, I'.ok.exfs b hb, .inl hb, fun x c e => (I'.ok.exf b hb).2 x c e, fun p hp => absurd (show p ∈ ([] : List (Addr × Obj)) ++ [] from hp) (by simp)⟩
  let Here : Nat → Shared → Prop := fun n s' => ∃ i H', Inv (X.blk sC HC scope ce held) [] (wipe σ (own.map (·.2))) H' s' ∧ turns i s'.heap ∧ (∀ b ∈ held, H' b = none) ∧ Z i n H'
  have loop : codeAny (model X.prog X.w) X.A (.compLoop (.SetComp elt [⟨tg, iter, ifs, 0⟩] scope pos) 0 (.ref itr) (.ref D) ce) (compPost (model X.prog X.w) X.A X.xe none (EP X pins σ Q) (.ref D) sC.heap.objs.size) sE := by
    refine PpSet.compLoopS_any Here ?_ mz ⟨0, HC, IE, atE, none0, z0⟩
    rintro n s5 ⟨i, H5, I5, at5, n5, z5⟩
    cases go1 i n H5 z5 with
    | inl stops =>
      obtain ⟨stop, fin⟩ := stops
      refine thnF (TW.done (X.blk sC HC scope ce held) rfl rfl rfl calm i [] s5 _ H5 (fun _ _ => False) I5 (still I5 n5) at5 stop) fun r s6 both => ?_
      obtain ⟨er, I6⟩ := both
      subst er
      have I7 : Inv X pins σ H5 s6 := IC.call' (ch := held) I6.os I6.base I6.hok I6.bare fun b hb => ⟨(clearC b hb).1.2.2.2.1, (clearC b hb).1.2.1, (clearC b hb).1.2.2.2.2.1, (clearC b hb).1.2.2.2.2.2⟩
      have frC : H5 sC.heap.objs.size = none := by
        have q : H5 ce.locals = none := I6.free
        rw [lce] at q
        exact q
      obtain ⟨m, mns, _⟩ := I6.loc
      have mns' : s6.heap.Ns ce.locals m := mns
      rw [lce] at mns'
      refine ⟨m, mns', fun h2 same => ?_⟩
      obtain ⟨k0, k1, k2, k3, k4, k5⟩ := IC.fpOk (Nat.le_refl _) frC
      exact ⟨.ref D, H5, I7.turned (t' := s6.toks) (fun b o hb e => (same.2 b hb).trans e) k0 k1 k3 k4 k5, rfl, fin⟩
    | inr goes =>
      obtain ⟨go, nxt, down, step⟩ := goes
      refine thnF (TW.item (X.blk sC HC scope ce held) rfl rfl rfl calm i [] s5 _ H5 (fun _ _ => False) I5 (still I5 n5) at5 go) fun r s6 both => ?_
      obtain ⟨u, er, more⟩ := both
      subst er
      refine thnF more fun _ s7 drawn => ?_
      obtain ⟨x, H7, I7, r7, y7, at7, n7⟩ := drawn
      have I7p := I7.pinned (still I7 n7) (TW.obj _ _ at7)
      refine thnF (jg.run _ s7 _ H7 x u _ I7p r7 (step x H7 y7)) fun _ s8 g8 => ?_
      obtain ⟨σ8, H8, I8, w8, q8⟩ := g8
      refine thnF (jt.run _ s8 σ8 H8 _ I8 q8) fun yes s9 g9 => ?_
      obtain ⟨H9, I9, q9⟩ := g9
      have next : ∀ {s' : Shared} {H' : Hp}, Inv (X.blk sC HC scope ce held) ([] ++ pinsAt held s7.heap) σ8 H' s' → nxt H' → ∃ m, m < n ∧ Here m s' := by
        intro s' H' I' nx
        obtain ⟨m', lt, z'⟩ := down H' nx
        have pinned : ∀ b ∈ held, ∀ o, s7.heap.get? b = some o → s'.heap.get? b = some o ∧ H' b = none := by
          intro b hb o e
          have q := I'.pin (b, o) (List.mem_append_right _ (List.mem_append_right _ (mem_pinsAt hb e)))
          exact ⟨q.1, q.2.1⟩
        have lens : (wipe σ (own.map (·.2))).length = σ8.length := by rw [← w8, wipe_length]
        refine ⟨m', lt, i + 1, H', (I'.unpinned (pins := [])).weak lens (fun j v e => ?_), TW.keep _ _ _ at7 (fun b hb o e => (pinned b hb o e).1), fun b hb => ?_, z'⟩
        · rw [← w8] at e
          exact (wipe_some e).1
        · obtain ⟨o, e, _⟩ := TW.obj _ _ at7 b hb
          exact (pinned b hb o e).2
      cases yes with
      | false =>
        simp only [Bool.false_eq_true, if_false] at q9 ⊢
        exact next I9 q9
      | true =>
        simp only [if_true] at q9 ⊢
        refine thnF (je.run _ s9 σ8 H9 _ I9 q9) fun z s10 g10 => ?_
        obtain ⟨yv, H10, I10, r10, k, M, c, ey, hD10, room, nx⟩ := g10
        subst ey
        refine thnF (mt_sadd (X := X.blk sC HC scope ce held) _ s10 σ8 H10 (.ref D) [.int k] (.ref D) [z] (fun v H' => v = .non ∧ nxt H') I10 rfl (.cons r10 .nil) ⟨D, k, M, c, rfl, rfl, hD10, room, rfl, nx⟩) fun v s11 g11 => ?_
        obtain ⟨v', H11, I11, _, _, nx'⟩ := g11
        exact next I11 nx'
  have start := PpSet.codeAny_compStart_set loop (TW.self X.A 0 _ _ _ atE loop)
  rw [eE] at start
  exact start
end
/-! ### {t: v}: a dict of one pair, its key a tuple of ints and texts: a rule of our own -/
def tDisp1T (trs : List (TE × TE)) : TE := fun σ H Q => ∀ p, H p = none → tPairs trs σ (upd H p (.dT [])) fun ps H2 =>
  H2 p = some (.dT []) ∧ ∃ (b : Addr) (k : List Key) (v : V), ps = [(.ref b, v)] ∧ H2 b = some (.tup (k.map kV)) ∧ Q (.ref p) (upd H2 p (.dT [(k, v)]))
theorem pe_disp1T {X : Cx} {pos : Pos} {ke ve : Expr} {trs : List (TE × TE)} (hu : X.A.units + 1 < cLine) (h : PPs X pos [some ke] [ve] trs) : PE X (.Dict [some ke] [ve] pos) (tDisp1T trs) := by
  constructor
  intro pins s σ H Q I q
  have fresh := I.hok.fresh (Nat.le_refl s.heap.objs.size)
  have I1 := I.laid (a := s.heap.objs.size) (o := .dT []) (h' := s.heap.push { cls := .type "dict", data := .dict #[] }) (t' := s.toks) (fun _ _ e => Heap.get?_push_of_some _ e) (Nat.le_refl _) (dt_empty s.heap I.big)
  have run := h.run pins _ σ _ _ I1 (q _ fresh)
  rw [arm_eval_Dict, zip_pairTrees [some ke] [ve] X.env pos rfl rfl, dictDisplay_pairs _ (by simp [pairTrees]) (by simp [pairTrees])]
  refine wpAny_bind (wpAny_standAt (wpAny_bind (wpAny_subDictH (knd := tupleKind (mixKind X.prog X.w)) (Q := fun d s' => wpAny (model X.prog X.w) X.A (pure (Value.ref d)) (EP X pins σ Q) X.xe s') (by show X.A.units < cLine; omega) (by simp [pairTrees]) ?_)))
  refine thn run fun ws s2 res => ?_
  obtain ⟨ps, H2, I2, rel, e, b, k, v, eps, hb, q2⟩ := res
  subst eps
  cases rel with
  | cons r1 r2 =>
    cases r2
    rename_i kw
    obtain ⟨ku, vu⟩ := kw
    obtain ⟨rk, rv⟩ := r1
    have ek : ku = Value.ref b := rk
    subst ek
    obtain ⟨z, hd, xs, rel0, dd⟩ := dt_of I2.hok e
    cases rel0
    refine ⟨[(k, b, vu)], ⟨rfl, rfl, key_of I2.hok hb, trivial⟩, dd, fun h' tk dd' hs => wpAny_pure ?_⟩
    obtain ⟨o, es, ep, ho, h2, h3, h4, _, h5⟩ := dd'
    refine ⟨.ref s.heap.objs.size, _, d_write (ob := .dT [(k, v)]) I2 (by rw [e]; exact True.intro) hs ⟨o, ho⟩ ⟨Nat.le_of_lt (by decide : (1 : Nat) < sizeLine), hd, [(k, b, vu)], .cons ⟨rfl, ?_, rv⟩ .nil, o, es, ep, ho, h2, h3, h4, h5⟩, rfl, q2⟩
    rw [upd_ne (ne_of hb e (fun z => nomatch z))]
    exact hb
/-! ### groups of places: the mathematics -/
def goodG (many : Nat) (g : List Int) : Prop := g.Pairwise (· < ·) ∧ ∀ x ∈ g, 0 ≤ x ∧ x < (many : Int)
theorem rise_lenG : ∀ {g : List Int} {lo hi : Int}, g.Pairwise (· < ·) → (∀ x ∈ g, lo ≤ x ∧ x < hi) → (g.length : Int) ≤ max 0 (hi - lo)
  | [], lo, hi, _, _ => by
    show ((0 : Nat) : Int) ≤ max 0 (hi - lo)
    omega
  | x :: g, lo, hi, hp, hb => by
    obtain ⟨h1, h2⟩ := List.pairwise_cons.mp hp
    obtain ⟨b1, b2⟩ := hb x List.mem_cons_self
    have ih := rise_lenG (lo := x + 1) (hi := hi) h2 fun y hy => ⟨by have := h1 y hy; omega, (hb y (List.mem_cons_of_mem _ hy)).2⟩
    rw [List.length_cons]
    omega
theorem goodG.len {many : Nat} {g : List Int} (h : goodG many g) : g.length ≤ many := by
  have := rise_lenG h.1 h.2
  omega
def ids (many : Nat) : List Int := (List.range many).map fun (i : Nat) => (i : Int)
theorem ids_pair (many : Nat) : (ids many).Pairwise (· < ·) := by
  unfold ids
  rw [List.pairwise_map]
  refine List.Pairwise.imp ?_ List.pairwise_lt_range
  intro a b h
  omega
theorem mem_ids {many : Nat} {k : Int} : k ∈ ids many ↔ 0 ≤ k ∧ k < (many : Int) := by
  unfold ids
  rw [List.mem_map]
  constructor
  · rintro ⟨i, hi, rfl⟩
    have := List.mem_range.mp hi
    omega
  · rintro ⟨h0, h1⟩
    exact ⟨k.toNat, List.mem_range.mpr (by omega), by omega⟩
theorem ids_good (many : Nat) : goodG many (ids many) := ⟨ids_pair many, fun _ h => mem_ids.mp h⟩
def ledG (many : Nat) (row g : List Int) : List Int := (ids many).filter fun k => decide (k ∈ g.map (goK row))
theorem ledG_good (many : Nat) (row g : List Int) : goodG many (ledG many row g) := by
  refine ⟨List.Pairwise.filter _ (ids_pair many), fun x hx => ?_⟩
  exact mem_ids.mp (List.mem_filter.mp hx).1
theorem goK_in' {many : Nat} {f : List Int} {p : Int} (h : GoodRow many f) (h0 : 0 ≤ p) (h1 : p < (many : Int)) : 0 ≤ goK f p ∧ goK f p < (many : Int) := by
  have hl : p.toNat < f.length := by rw [h.1]; omega
  unfold goK
  rw [List.getD_eq_getElem?_getD, List.getElem?_eq_getElem hl]
  exact h.2 _ (List.getElem_mem hl)
theorem mem_ledG {many : Nat} {row g : List Int} {k : Int} (hr : GoodRow many row) (hg : ∀ x ∈ g, 0 ≤ x ∧ x < (many : Int)) : k ∈ ledG many row g ↔ ∃ x ∈ g, goK row x = k := by
  unfold ledG
  rw [List.mem_filter, mem_ids]
  constructor
  · rintro ⟨_, h⟩
    exact List.mem_map.mp (of_decide_eq_true h)
  · rintro ⟨x, hx, rfl⟩
    exact ⟨goK_in' hr (hg x hx).1 (hg x hx).2, decide_eq_true (List.mem_map.mpr ⟨x, hx, rfl⟩)⟩
theorem at_goK {row : List Int} {p : Int} (h0 : 0 ≤ p) (h : p.toNat < row.length) : (row.map V.int)[p.toNat]? = some (.int (goK row p)) := by
  rw [List.getElem?_map, List.getElem?_eq_getElem h]
  unfold goK
  rw [List.getD_eq_getElem?_getD, List.getElem?_eq_getElem h]
  rfl
/-- a set comprehension over a tuple of ints, its element an int -/
theorem scI_tup {w : World} {K : PySem.W.Frag} {a D : Addr} {ns : List Int} {f : Int → Int} {j : Nat} {elm : TE} {σ : L2.St} {H1 : Hp} {gone : List Nat} {Qd : Hp → Prop} (nD : H1 D = none) (hT : SqT K H1 a (ns.map V.int)) (small : ns.length + 1 < scanBound)
    (keep : ∀ n : Int, wipe ((wipe σ gone).set j (some (.int n))) gone = wipe σ gone)
    (turn : ∀ n ∈ ns, ∀ (H' : Hp) (q : VK), Same H1 H' → q (.int (f n)) H' → elm ((wipe σ gone).set j (some (.int n))) H' q)
    (done : ∀ H' M c, Same H1 H' → H' D = some (SetO w D M c) → (∀ k, M k = true ↔ k ∈ ns.map f) → c ≤ ns.length → Qd H') :
    ∃ Z : Nat → Nat → Hp → Prop, (∃ m, Z 0 m (upd H1 D (SetO w D (fun _ => false) 0))) ∧
      ∀ i m Hb, Z i m Hb → ((Itt K a).stop i Hb ∧ Qd Hb) ∨
        ((Itt K a).go i Hb ∧ ∃ nxt : Hp → Prop, (∀ Hc, nxt Hc → ∃ m', m' < m ∧ Z (i + 1) m' Hc) ∧ ∀ v Hc, (Itt K a).yld i Hb v Hc → oneTurn w D (gName j) tYes elm gone σ v Hc nxt) := by
  let At : Nat → Hp → Prop := fun i Hb => Same H1 Hb ∧ ∃ M c, Hb D = some (SetO w D M c) ∧ (∀ k, M k = true ↔ k ∈ (ns.take i).map f) ∧ c ≤ i
  refine ⟨fun i m Hb => m = ns.length - i ∧ i ≤ ns.length ∧ At i Hb, ⟨ns.length, rfl, Nat.zero_le _, same_new nD, _, 0, upd_same, fun k => by simp, Nat.le_refl _⟩, ?_⟩
  rintro i m Hb ⟨rfl, hi, sH, M, c, hD, hM, hc⟩
  have hT' := Same.seqt sH hT
  by_cases lt : i < ns.length
  · refine .inr ⟨⟨_, .int ns[i], hT', by rw [List.getElem?_map, List.getElem?_eq_getElem lt]; rfl⟩, At (i + 1), fun Hc p => ⟨ns.length - (i + 1), by omega, rfl, lt, p⟩, fun v Hc y => ?_⟩
    obtain ⟨e, y⟩ := y
    subst e
    have ev := y _ hT'
    rw [List.getElem?_map, List.getElem?_eq_getElem lt] at ev
    have ev' : v = .int ns[i] := (Option.some.inj ev).symm
    subst ev'
    refine ⟨keep _, turn ns[i] (List.getElem_mem lt) _ _ sH ⟨f ns[i], M, c, rfl, hD, by omega, ?_⟩⟩
    refine ⟨fun b o e => by rw [upd_ne (ne_of_none e nD)]; exact sH b o e, _, _, upd_same, fun k => ?_, ?_⟩
    · rw [Bool.or_eq_true, hM k, decide_eq_true_iff, take_snoc (List.getElem?_eq_getElem lt), List.map_append, List.mem_append]
      constructor
      · rintro (h | h)
        · exact .inl h
        · exact .inr (by rw [h]; simp)
      · rintro (h | h)
        · exact .inl h
        · exact .inr (by simpa using h)
    · split <;> omega
  · have e : i = ns.length := by omega
    subst e
    refine .inl ⟨⟨_, hT', by rw [List.length_map]; exact Nat.le_refl _⟩, done Hb M c sH hD (fun k => by rw [hM k, List.take_length]) hc⟩
section
variable {P : Program} {w : World} {K : PySem.W.Frag} {mg : Str → Option Value} {base : Heap}
/-! ### led_to -/
theorem scLed : FnScope ["whither", "group", "place"] ["whither", "group"] (defScope sLedTo) := ⟨rfl, rfl, rfl, by decide +kernel, rfl, by decide +kernel, by decide +kernel⟩
def spLed : Sp := fun vs H Q _ => ∃ (wa ga : Addr) (many : Nat) (row g : List Int), vs = [.ref wa, .ref ga] ∧ H wa = some (.tup (row.map V.int)) ∧ H ga = some (.tup (g.map V.int)) ∧ many ≤ 6 ∧ GoodRow many row ∧ goodG many g ∧
  ∀ p H', Same H H' → H p = none → H' p = some (.tup ((ledG many row g).map V.int)) → Q (.ref p) H'
theorem ok_led {f : Addr} {fd : FuncData} {k : Nat} (F : Fun K "led_to" "led_to" sLedTo f fd) (mt : mg "tuple" = none) (ms : mg "sorted" = none) : FnOk P w K mg base CX0 (k + 1) f fd ["whither", "group"] spLed := by
  refine F.ok scLed (fun vs H Q E h => ?_) (fun cdv A outer s H vs Q E hr h => ?_)
  · obtain ⟨wa, ga, many, row, g, rfl, _⟩ := h
    rfl
  · obtain ⟨wa, ga, many, row, g, rfl, hw, hg, m6, hrow, gg, q⟩ := h
    refine ⟨_, pss_one (ps_ret (pe_callTy call_tuple_of (by rfl) mt (by decide +kernel) (pa_cons (pe_callB (cr_sortedSet rfl) (by rfl) ms (by decide +kernel) (pa_cons
      (pe_scI (own := [("place", 2)]) (gt := gName 2) (tst := tYes) (elm := tOp (rIxT K) (tVar 0) (tVar 2)) rfl scLed.nd (pi_tup (pv 1)) (blkOk_by (N := ["whither", "group", "place"]) (sc := defScope sLedTo) (by decide +kernel)) (fun _ _ _ _ _ => pg_name (i := 2) scLed.nd rfl (.inl rfl)) (fun _ _ _ _ _ => pts_nil) (fun _ _ _ _ _ => by exact (pe_ix ix_tup (pv 0) (pv 2) (fun _ _ => rfl)))) pa_nil)) pa_nil))), ?_⟩
    have len := gg.len
    refine ⟨.ref ga, rfl, ga, rfl, ⟨_, SqT.of hg⟩, fun D nD => ?_⟩
    refine scI_tup (w := w) (ns := g) (f := goK row) (j := 2) nD (SqT.of hg) (by unfold scanBound; omega) (fun n => rfl) (fun n hn H' q' sH hq => ?_) (fun H' M c sH hD hM hc => ?_)
    · obtain ⟨n0, n1⟩ := gg.2 n hn
      refine ⟨.ref wa, rfl, .int n, rfl, wa, _, n, _, rfl, rfl, SqT.of (sH _ _ hw), at_of (show n = ((n.toNat : Nat) : Int) by omega) (at_goK n0 (by rw [hrow.1]; omega)), hq⟩
    · refine ⟨D, M, c, rfl, hD, by omega, fun ns p hp hmem hlen np => ?_⟩
      refine ⟨p, _, rfl, .inl ⟨SqL.of upd_same, fun t nt => ?_⟩⟩
      have e : ns = ledG many row g := by
        refine rise_same hp (ledG_good many row g).1 fun k => ?_
        rw [hmem k, hM k, mem_ledG hrow gg.2, List.mem_map]
      rw [e] at nt ⊢
      have s2 := sH.trans (same_new (o := .lst ((ledG many row g).map V.int)) np)
      exact q t _ (s2.trans (same_new nt)) (s2.free nt) upd_same
end
/-! ### all groups to which rows lead: the mathematics -/
abbrev GR := List Int × List Int
def keysG (l : List GR) : List (List Int) := l.map (·.1)
def addG (l : List GR) (g r : List Int) : List GR := if g ∈ keysG l then l else l ++ [(g, r)]
def rowM (ms : List Mv) (n : Nat) : List Int := (ms.getD n (0, [])).2
def visitN (many : Nat) (ms : List Mv) (g r : List Int) (l : List GR) : Nat → List GR
  | 0 => l
  | k + 1 => addG (visitN many ms g r l k) (ledG many (rowM ms k) g) (r ++ [(k : Int)])
def stepN (many : Nat) (ms : List Mv) (l : List GR) (d : Nat) : List GR := match l[d]? with
  | none => l
  | some p => visitN many ms p.1 p.2 l ms.length
def bfsN (many : Nat) (ms : List Mv) (b : List Int) : Nat → List GR
  | 0 => [(b, [])]
  | d + 1 => stepN many ms (bfsN many ms b d) d
def gf (many : Nat) (ms : List Mv) (b : List Int) : List GR := bfsN many ms b 64
/-- what stood stands, at its place -/
def Pre (l l' : List GR) : Prop := ∃ t, l' = l ++ t
theorem Pre.refl (l : List GR) : Pre l l := ⟨[], (List.append_nil l).symm⟩
theorem Pre.trans {a b c : List GR} (h : Pre a b) (k : Pre b c) : Pre a c := by
  obtain ⟨t, rfl⟩ := h
  obtain ⟨u, rfl⟩ := k
  exact ⟨t ++ u, by rw [List.append_assoc]⟩
theorem Pre.at {a b : List GR} (h : Pre a b) {i : Nat} {p : GR} (e : a[i]? = some p) : b[i]? = some p := by
  obtain ⟨t, rfl⟩ := h
  obtain ⟨lt, _⟩ := List.getElem?_eq_some_iff.mp e
  rw [List.getElem?_append_left lt]
  exact e
theorem Pre.len {a b : List GR} (h : Pre a b) : a.length ≤ b.length := by
  obtain ⟨t, rfl⟩ := h
  rw [List.length_append]
  omega
theorem Pre.keys {a b : List GR} (h : Pre a b) {g : List Int} (m : g ∈ keysG a) : g ∈ keysG b := by
  obtain ⟨t, rfl⟩ := h
  unfold keysG at *
  rw [List.map_append]
  exact List.mem_append.mpr (.inl m)
theorem addG_pre (l : List GR) (g r : List Int) : Pre l (addG l g r) := by
  unfold addG
  split
  · exact Pre.refl l
  · exact ⟨_, rfl⟩
theorem addG_mem (l : List GR) (g r : List Int) : g ∈ keysG (addG l g r) := by
  unfold addG
  split
  · assumption
  · unfold keysG
    rw [List.map_append]
    exact List.mem_append.mpr (.inr List.mem_cons_self)
theorem visitN_pre (many : Nat) (ms : List Mv) (g r : List Int) (l : List GR) : ∀ k, Pre l (visitN many ms g r l k)
  | 0 => Pre.refl l
  | k + 1 => (visitN_pre many ms g r l k).trans (addG_pre _ _ _)
theorem stepN_pre (many : Nat) (ms : List Mv) (l : List GR) (d : Nat) : Pre l (stepN many ms l d) := by
  unfold stepN
  split
  · exact Pre.refl l
  · exact visitN_pre _ _ _ _ _ _
theorem bfsN_pre (many : Nat) (ms : List Mv) (b : List Int) (d : Nat) : ∀ e, Pre (bfsN many ms b d) (bfsN many ms b (d + e))
  | 0 => Pre.refl _
  | e + 1 => (bfsN_pre many ms b d e).trans (stepN_pre _ _ _ _)
/-- a property of all that is found -/
theorem addG_all {F : GR → Prop} {l : List GR} {g r : List Int} (h : ∀ p ∈ l, F p) (n : F (g, r)) : ∀ p ∈ addG l g r, F p := by
  unfold addG
  split
  · exact h
  · intro p hp
    rcases List.mem_append.mp hp with hp | hp
    · exact h p hp
    · rw [List.mem_singleton.mp hp]
      exact n
theorem visitN_all {F : GR → Prop} {many : Nat} {ms : List Mv} {g r : List Int} {l : List GR} (h : ∀ p ∈ l, F p) (n : ∀ k, k < ms.length → F (ledG many (rowM ms k) g, r ++ [(k : Int)])) : ∀ k, k ≤ ms.length → ∀ p ∈ visitN many ms g r l k, F p
  | 0, _ => h
  | k + 1, hk => addG_all (visitN_all h n k (by omega)) (n k (by omega))
theorem bfsN_all {F : GR → Prop} {many : Nat} {ms : List Mv} {b : List Int} (h0 : F (b, [])) (n : ∀ p k, F p → k < ms.length → F (ledG many (rowM ms k) p.1, p.2 ++ [(k : Int)])) : ∀ d, ∀ p ∈ bfsN many ms b d, F p
  | 0 => fun p hp => by rw [List.mem_singleton.mp hp]; exact h0
  | d + 1 => by
    have ih := bfsN_all h0 n d
    show ∀ p ∈ stepN many ms (bfsN many ms b d) d, F p
    unfold stepN
    split
    · exact ih
    · rename_i q hq
      exact visitN_all ih (fun k hk => n q k (ih q (List.mem_of_getElem? hq)) hk) _ (Nat.le_refl _)
theorem addG_nodup {l : List GR} {g r : List Int} (h : (keysG l).Nodup) : (keysG (addG l g r)).Nodup := by
  unfold addG
  split
  · exact h
  · rename_i n
    unfold keysG at *
    rw [List.map_append]
    refine List.nodup_append.mpr ⟨h, by simp, fun a ha c hc => ?_⟩
    rw [List.mem_singleton.mp hc]
    intro e
    subst e
    exact n ha
theorem visitN_nodup {many : Nat} {ms : List Mv} {g r : List Int} {l : List GR} (h : (keysG l).Nodup) : ∀ k, (keysG (visitN many ms g r l k)).Nodup
  | 0 => h
  | k + 1 => addG_nodup (visitN_nodup h k)
theorem bfsN_nodup (many : Nat) (ms : List Mv) (b : List Int) : ∀ d, (keysG (bfsN many ms b d)).Nodup
  | 0 => by simp [bfsN, keysG]
  | d + 1 => by
    have ih := bfsN_nodup many ms b d
    show (keysG (stepN many ms (bfsN many ms b d) d)).Nodup
    unfold stepN
    split
    · exact ih
    · exact visitN_nodup ih _
theorem bfsN_good {many : Nat} {ms : List Mv} {b : List Int} (hb : goodG many b) (d : Nat) : ∀ p ∈ bfsN many ms b d, goodG many p.1 :=
  bfsN_all (F := fun p => goodG many p.1) hb (fun _ _ _ _ => ledG_good _ _ _) d
/-! how many there may be -/
def subs : List Int → List (List Int)
  | [] => [[]]
  | x :: xs => subs xs ++ (subs xs).map (x :: ·)
theorem subs_len : ∀ xs : List Int, (subs xs).length = 2 ^ xs.length
  | [] => rfl
  | x :: xs => by
    show (subs xs ++ (subs xs).map (x :: ·)).length = _
    rw [List.length_append, List.length_map, subs_len xs, List.length_cons, Nat.pow_succ]
    omega
theorem mem_subs : ∀ {xs g : List Int}, xs.Pairwise (· < ·) → g.Pairwise (· < ·) → (∀ k ∈ g, k ∈ xs) → g ∈ subs xs
  | [], g, _, _, h => by
    cases g with
    | nil => exact List.mem_cons_self
    | cons a r => exact absurd (h a List.mem_cons_self) (by simp)
  | x :: xs, g, hx, hg, h => by
    obtain ⟨x1, x2⟩ := List.pairwise_cons.mp hx
    show g ∈ subs xs ++ (subs xs).map (x :: ·)
    cases g with
    | nil => exact List.mem_append.mpr (.inl (mem_subs x2 .nil fun k hk => nomatch hk))
    | cons a r =>
      obtain ⟨a1, a2⟩ := List.pairwise_cons.mp hg
      by_cases e : a = x
      · subst e
        refine List.mem_append.mpr (.inr (List.mem_map.mpr ⟨r, mem_subs x2 a2 fun k hk => ?_, rfl⟩))
        rcases List.mem_cons.mp (h k (List.mem_cons_of_mem _ hk)) with z | z
        · have := a1 k hk
          omega
        · exact z
      · refine List.mem_append.mpr (.inl (mem_subs x2 hg fun k hk => ?_))
        have ha : a ∈ xs := (List.mem_cons.mp (h a List.mem_cons_self)).resolve_left e
        rcases List.mem_cons.mp (h k hk) with z | z
        · have := x1 a ha
          rcases List.mem_cons.mp hk with w | w
          · exact absurd (w.symm.trans z) e
          · have := a1 k w
            omega
        · exact z
theorem pigeon {α : Type} [DecidableEq α] : ∀ {l m : List α}, l.Nodup → (∀ x ∈ l, x ∈ m) → l.length ≤ m.length
  | [], _, _, _ => Nat.zero_le _
  | x :: l, m, hn, h => by
    obtain ⟨n1, n2⟩ := List.nodup_cons.mp hn
    have hx := h x List.mem_cons_self
    have ih := pigeon (m := m.erase x) n2 fun y hy => (List.mem_erase_of_ne (fun e => n1 (by rw [← e]; exact hy))).mpr (h y (List.mem_cons_of_mem _ hy))
    rw [List.length_erase_of_mem hx] at ih
    have : 0 < m.length := List.length_pos_of_mem hx
    rw [List.length_cons]
    omega
theorem bfsN_len {many : Nat} {ms : List Mv} {b : List Int} (hb : goodG many b) (m6 : many ≤ 6) (d : Nat) : (bfsN many ms b d).length ≤ 64 := by
  have h := pigeon (m := subs (ids many)) (bfsN_nodup many ms b d) fun g hg => by
    obtain ⟨p, hp, rfl⟩ := List.mem_map.mp hg
    obtain ⟨g1, g2⟩ := bfsN_good hb d p hp
    exact mem_subs (ids_pair many) g1 fun k hk => mem_ids.mpr (g2 k hk)
  rw [subs_len] at h
  unfold keysG at h
  rw [List.length_map] at h
  have e : (ids many).length = many := by
    unfold ids
    rw [List.length_map, List.length_range]
  rw [e] at h
  exact Nat.le_trans h (Nat.pow_le_pow_right (n := 2) (by decide) m6)
/-- once all are done there is no more -/
theorem bfsN_end {many : Nat} {ms : List Mv} {b : List Int} {d : Nat} (h : (bfsN many ms b d).length ≤ d) : ∀ e, bfsN many ms b (d + e) = bfsN many ms b d
  | 0 => rfl
  | e + 1 => by
    have ih := bfsN_end h e
    show stepN many ms (bfsN many ms b (d + e)) (d + e) = _
    rw [ih]
    unfold stepN
    rw [List.getElem?_eq_none_iff.mpr (by omega)]
theorem bfsN_gf {many : Nat} {ms : List Mv} {b : List Int} {d : Nat} (h : (bfsN many ms b d).length ≤ d) (d64 : d ≤ 64) : bfsN many ms b d = gf many ms b := by
  have := bfsN_end h (64 - d)
  rw [show d + (64 - d) = 64 by omega] at this
  exact this.symm
theorem visitN_mem {many : Nat} {ms : List Mv} {g r : List Int} {l : List GR} : ∀ {k n : Nat}, n < k → ledG many (rowM ms n) g ∈ keysG (visitN many ms g r l k)
  | k + 1, n, h => by
    by_cases e : n = k
    · subst e
      exact addG_mem _ _ _
    · exact (addG_pre _ _ _).keys (visitN_mem (k := k) (by omega))
theorem bfsN_done {many : Nat} {ms : List Mv} {b : List Int} : ∀ (d : Nat) {i : Nat} {p : GR}, i < d → (bfsN many ms b d)[i]? = some p → ∀ n, n < ms.length → ledG many (rowM ms n) p.1 ∈ keysG (bfsN many ms b d)
  | d + 1, i, p, hi, e, n, hn => by
    have pre := bfsN_pre many ms b d 1
    by_cases c : i < (bfsN many ms b d).length
    · have e0 : (bfsN many ms b d)[i]? = some p := by
        have := pre.at (List.getElem?_eq_getElem c)
        rw [this] at e
        cases e
        exact List.getElem?_eq_getElem c
      by_cases c2 : i < d
      · exact pre.keys (bfsN_done d c2 e0 n hn)
      · have ed : i = d := by omega
        subst ed
        show _ ∈ keysG (stepN many ms (bfsN many ms b i) i)
        unfold stepN
        rw [e0]
        exact visitN_mem hn
    · exfalso
      have h : (bfsN many ms b d).length ≤ d := by omega
      have := bfsN_end h 1
      rw [this, List.getElem?_eq_none_iff.mpr (by omega)] at e
      cases e
theorem gf_len {many : Nat} {ms : List Mv} {b : List Int} (hb : goodG many b) (m6 : many ≤ 6) : (gf many ms b).length ≤ 64 := bfsN_len hb m6 64
/-- all is closed under moves -/
theorem gf_closed {many : Nat} {ms : List Mv} {b : List Int} (hb : goodG many b) (m6 : many ≤ 6) {g : List Int} (hg : g ∈ keysG (gf many ms b)) {n : Nat} (hn : n < ms.length) : ledG many (rowM ms n) g ∈ keysG (gf many ms b) := by
  obtain ⟨p, hp, rfl⟩ := List.mem_map.mp hg
  obtain ⟨i, hi, e⟩ := List.getElem_of_mem hp
  have := gf_len (ms := ms) hb m6
  exact bfsN_done 64 (i := i) (p := p) (by omega) (by rw [← e]; exact List.getElem?_eq_getElem hi) n hn
theorem gf_begin {many : Nat} {ms : List Mv} {b : List Int} : (gf many ms b)[0]? = some (b, []) := by
  have := (bfsN_pre many ms b 0 64).at (i := 0) (p := (b, [])) rfl
  rw [Nat.zero_add] at this
  exact this
theorem bfsN_rowlen {many : Nat} {ms : List Mv} {b : List Int} : ∀ d, ∀ p ∈ bfsN many ms b d, p.2.length ≤ d
  | 0 => fun p hp => by rw [List.mem_singleton.mp hp]; exact Nat.le_refl _
  | d + 1 => by
    have ih := bfsN_rowlen (many := many) (ms := ms) (b := b) d
    show ∀ p ∈ stepN many ms (bfsN many ms b d) d, p.2.length ≤ d + 1
    unfold stepN
    split
    · exact fun p hp => Nat.le_succ_of_le (ih p hp)
    · rename_i q hq
      refine visitN_all (F := fun p => p.2.length ≤ d + 1) (fun p hp => Nat.le_succ_of_le (ih p hp)) (fun k _ => ?_) _ (Nat.le_refl _)
      have := ih q (List.mem_of_getElem? hq)
      show (q.2 ++ [(k : Int)]).length ≤ d + 1
      rw [List.length_append]
      show q.2.length + 1 ≤ d + 1
      omega
theorem snocInd {α : Type} {F : List α → Prop} (h0 : F []) (h : ∀ l x, F l → F (l ++ [x])) (l : List α) : F l := by
  have : ∀ n (l : List α), l.length = n → F l := by
    intro n
    induction n with
    | zero =>
      intro l hl
      rw [List.eq_nil_of_length_eq_zero hl]
      exact h0
    | succ n ih =>
      intro l hl
      have ne : l ≠ [] := fun e => by rw [e] at hl; cases hl
      rw [← List.dropLast_concat_getLast ne]
      exact h _ _ (ih _ (by rw [List.length_dropLast]; omega))
  exact this l.length l rfl
/-- where a row leads a group -/
def runG (many : Nat) (ms : List Mv) (b : List Int) (r : List Int) : List Int := r.foldl (fun g n => ledG many (rowM ms n.toNat) g) b
theorem runG_snoc (many : Nat) (ms : List Mv) (b r : List Int) (n : Int) : runG many ms b (r ++ [n]) = ledG many (rowM ms n.toNat) (runG many ms b r) := by
  unfold runG
  rw [List.foldl_append]
  rfl
theorem gf_row {many : Nat} {ms : List Mv} {b : List Int} : ∀ p ∈ gf many ms b, runG many ms b p.2 = p.1 ∧ ∀ n ∈ p.2, 0 ≤ n ∧ n < (ms.length : Int) :=
  bfsN_all (F := fun p => runG many ms b p.2 = p.1 ∧ ∀ n ∈ p.2, 0 ≤ n ∧ n < (ms.length : Int)) ⟨rfl, fun _ h => nomatch h⟩ (fun p k h hk => by
    refine ⟨?_, fun n hn => ?_⟩
    · show runG many ms b (p.2 ++ [(k : Int)]) = _
      rw [runG_snoc, h.1]
      rfl
    · rcases List.mem_append.mp hn with hn | hn
      · exact h.2 n hn
      · rw [List.mem_singleton.mp hn]
        omega) 64
theorem gf_run {many : Nat} {ms : List Mv} {b : List Int} (hb : goodG many b) (m6 : many ≤ 6) : ∀ {r : List Int}, (∀ n ∈ r, 0 ≤ n ∧ n < (ms.length : Int)) → runG many ms b r ∈ keysG (gf many ms b) := by
  intro r
  refine snocInd (F := fun r => (∀ n ∈ r, 0 ≤ n ∧ n < (ms.length : Int)) → runG many ms b r ∈ keysG (gf many ms b)) ?_ ?_ r
  · intro _
    exact List.mem_map.mpr ⟨_, List.mem_of_getElem? gf_begin, rfl⟩
  · intro r n ih h
    rw [runG_snoc]
    have hn := h n (List.mem_append.mpr (.inr List.mem_cons_self))
    exact gf_closed hb m6 (ih fun z hz => h z (List.mem_append.mpr (.inl hz))) (by omega)
section
variable {P : Program} {w : World} {K : PySem.W.Frag} {mg : Str → Option Value} {base : Heap}
/-! ### groups_from -/
/-- a dict of groups and rows -/
abbrev KvAt (H : Hp) : List Key × V → GR → Prop := fun kv p => kv.1 = p.1.map Sum.inl ∧ ∃ a, kv.2 = .ref a ∧ H a = some (.lst (p.2.map V.int))
def GfAt (H : Hp) (D : Addr) (l : List GR) : Prop := ∃ kvs, H D = some (.dT kvs) ∧ Paired (KvAt H) kvs l
/-- a list of groups, as tuples -/
def GrpsAt (H : Hp) (vs : List V) (l : List GR) : Prop := Paired (fun v (p : GR) => ∃ a, v = V.ref a ∧ H a = some (.tup (p.1.map V.int))) vs l
theorem key_ints (g : List Int) : (g.map (Sum.inl (β := Str))).map kV = g.map V.int := by
  rw [List.map_map]
  rfl
theorem key_inj {g k : List Int} (h : g.map (Sum.inl (β := Str)) = k.map Sum.inl) : g = k := by
  have : ∀ {g k : List Int}, g.map (Sum.inl (β := Str)) = k.map Sum.inl → g = k := by
    intro g
    induction g with
    | nil =>
      intro k e
      cases k with
      | nil => rfl
      | cons a r => cases e
    | cons a r ih =>
      intro k e
      cases k with
      | nil => cases e
      | cons b t =>
        rw [List.map_cons, List.map_cons] at e
        injection e with e1 e2
        injection e1 with e1
        rw [e1, ih e2]
  exact this h
theorem val_none {H : Hp} {g : List Int} : ∀ {kvs : List (List Key × V)} {l : List GR}, Paired (KvAt H) kvs l → g ∉ keysG l → valV kvs (g.map Sum.inl) = none
  | _, _, .nil, _ => rfl
  | _, _, .cons (a := kv) (b := p) h t, n => by
    have n1 : ¬ g = p.1 := fun e => n (by rw [e]; exact List.mem_cons_self)
    rw [valV_neg (fun e => n1 (key_inj (e.symm.trans h.1)))]
    exact val_none t fun m => n (List.mem_cons_of_mem _ m)
theorem val_some {H : Hp} : ∀ {kvs : List (List Key × V)} {l : List GR} {p : GR}, Paired (KvAt H) kvs l → (keysG l).Nodup → p ∈ l → ∃ a, valV kvs (p.1.map Sum.inl) = some (.ref a) ∧ H a = some (.lst (p.2.map V.int))
  | _, _, p, .nil, _, m => nomatch m
  | _, _, p, .cons (a := kv) (b := q) h t, nd, m => by
    obtain ⟨n1, n2⟩ := List.nodup_cons.mp (show (q.1 :: keysG _).Nodup from nd)
    rcases List.mem_cons.mp m with e | m
    · subst e
      obtain ⟨h1, a, h2, h3⟩ := h
      exact ⟨a, by rw [valV_pos h1, h2], h3⟩
    · have ne : ¬ kv.1 = p.1.map Sum.inl := fun e => n1 (by
        rw [key_inj (h.1.symm.trans e)]
        exact List.mem_map.mpr ⟨p, m, rfl⟩)
      rw [valV_neg ne]
      exact val_some t n2 m
theorem key_dec {l : List GR} {g : List Int} {H : Hp} {kvs : List (List Key × V)} (h : Paired (KvAt H) kvs l) : (valV kvs (g.map Sum.inl)).isSome = decide (g ∈ keysG l) := by
  by_cases m : g ∈ keysG l
  · rw [decide_eq_true m, ← valV_any]
    obtain ⟨p, hp, e⟩ := List.mem_map.mp m
    have : ∀ {kvs : List (List Key × V)} {l : List GR}, Paired (KvAt H) kvs l → p ∈ l → (kvs.any fun kv => decide (kv.1 = g.map Sum.inl)) = true := by
      intro kvs l h
      induction h with
      | nil => intro m; cases m
      | @cons kv q ks qs hk t ih =>
        intro m
        rw [List.any_cons]
        rcases List.mem_cons.mp m with e2 | m
        · subst e2
          rw [decide_eq_true (show kv.1 = g.map Sum.inl by rw [hk.1, e]), Bool.true_or]
        · rw [ih m, Bool.or_true]
    exact this h hp
  · rw [decide_eq_false m, val_none h m]
    rfl
theorem GfAt.same {H H' : Hp} {D : Addr} {l : List GR} (s : Same H H') (h : GfAt H D l) : GfAt H' D l := by
  obtain ⟨kvs, e, p⟩ := h
  exact ⟨kvs, s _ _ e, L2.Paired.mapP p fun kv q ⟨h1, a, h2, h3⟩ => ⟨h1, a, h2, s _ _ h3⟩⟩
theorem GrpsAt.same {H H' : Hp} {vs : List V} {l : List GR} (s : ∀ b xs, H b = some (.tup xs) → H' b = some (.tup xs)) (h : GrpsAt H vs l) : GrpsAt H' vs l :=
  L2.Paired.mapP h fun v q ⟨a, h2, h3⟩ => ⟨a, h2, s _ _ h3⟩
theorem GrpsAt.snoc {H : Hp} {vs : List V} {l : List GR} {a : Addr} {g r : List Int} (h : GrpsAt H vs l) (e : H a = some (.tup (g.map V.int))) : GrpsAt H (vs ++ [.ref a]) (l ++ [(g, r)]) := paired_end (F := fun v (p : GR) => ∃ a, v = V.ref a ∧ H a = some (.tup (p.1.map V.int))) (b := (g, r)) ⟨a, rfl, e⟩ h
theorem ints_no_ref {ns : List Int} {i : Nat} {a : Addr} (h : (ns.map V.int)[i]? = some (.ref a)) : False := by
  rw [List.getElem?_map] at h
  obtain ⟨n, _, e⟩ := Option.map_eq_some_iff.mp h
  cases e
/-- D and F are other things -/
def Gr0 (D F : Addr) (H H' : Hp) : Prop := ∀ b o, b ≠ D → b ≠ F → H b = some o → H' b = some o
theorem scGf : FnScope ["moves", "begin", "rows", "found", "done", "row", "number", "_", "whither", "group"] ["moves", "begin"] (defScope sGroupsFrom) := ⟨rfl, rfl, rfl, by decide +kernel, rfl, by decide +kernel, by decide +kernel⟩
def spGf : Sp := fun vs H Q _ => ∃ (m ba : Addr) (many : Nat) (ws : List V) (ms : List Mv) (b : List Int), vs = [.ref m, .ref ba] ∧ H m = some (.lst ws) ∧ MovesAt H ws ms ∧ (∀ mv ∈ ms, GoodMv many mv) ∧ ms.length ≤ 8 ∧ many ≤ 6 ∧ H ba = some (.tup (b.map V.int)) ∧ goodG many b ∧
  ∀ D H', Same H H' → H D = none → GfAt H' D (gf many ms b) → Q (.ref D) H'
/-- the state of the search: the dict at D, the list at F, both of what is found -/
def Sea (H H' : Hp) (D F : Addr) (l : List GR) : Prop := Same H H' ∧ ∃ kvs fs, H' D = some (.dT kvs) ∧ H' F = some (.lst fs) ∧ Paired (KvAt H') kvs l ∧ GrpsAt H' fs l
theorem rowM_at {ms : List Mv} {n : Nat} {m : Mv} (h : ms[n]? = some m) : rowM ms n = m.2 := by
  unfold rowM
  rw [List.getD_eq_getElem?_getD, h]
  rfl
theorem ok_gf {f fL : Addr} {fd fdL : FuncData} (F : Fun K "groups_from" "groups_from" sGroupsFrom f fd) (DL : Df K mg "led_to" sLedTo ["whither", "group"] fL fdL) (ml : mg "len" = none) (mE : mg "enumerate" = none) (mt : mg "tuple" = none) (ms' : mg "sorted" = none) : FnOk P w K mg base CX0 2 f fd ["moves", "begin"] spGf := by
  have GL : FnOk P w K mg base CX0 1 fL fdL ["whither", "group"] spLed := ok_led DL.F mt ms'
  refine F.ok scGf (fun vs H Q E h => ?_) (fun cdv A outer s H vs Q E hr h => ?_)
  · obtain ⟨m, ba, many, ws, ms, b, rfl, _⟩ := h
    rfl
  · obtain ⟨m, ba, many, ws, ms, b, rfl, hm, hM, hgood, l8, m6, hb, gb, q⟩ := h
    have hu1 := hu_of hr
    refine ⟨_, (pss_cons (ps_set (i := 2) scGf.nd rfl (.inl rfl) (pe_disp1T hu1 (pps_cons (pv 1) (pe_lst pa_nil) pps_nil)))
      (pss_cons (ps_set (i := 3) scGf.nd rfl (.inl rfl) (pe_lst (pa_cons (pv 1) pa_nil)))
      (pss_cons (ps_set (i := 4) scGf.nd rfl (.inl rfl) pe_int)
      (pss_cons (ps_while PassesOwn.never (pt_cmpR op_lt (pv 4) (pe_callB call_len_seq (by rfl) ml PySem.boot_len (pa_cons (pv 3) pa_nil)) (nomark _)) (pss_cons (ps_set (i := 5) scGf.nd rfl (.inl rfl) (pe_dget (hu1) (pv 2) (pe_ix ix_list (pv 3) (pv 4) (fun _ _ => rfl)) (fun _ _ => rfl)))
      (pss_cons (ps_for PassesOwn.never rfl (pi_enum (by rfl) mE (pa_cons (pv 0) pa_nil)) (pg_tup rfl (pgs_cons (pg_name (i := 6) scGf.nd rfl (.inl rfl)) (pgs_cons (pg_tup rfl (pgs_cons (pg_name (i := 7) scGf.nd rfl (.inl rfl)) (pgs_cons (pg_name (i := 8) scGf.nd rfl (.inl rfl)) pgs_nil))) pgs_nil))) (pss_cons (ps_set (i := 9) scGf.nd rfl (.inl rfl) (pe_call GL hr (by rfl) DL.g DL.F.kp DL.b .nil pass0 (pa_cons (pv 8) (pa_cons (pe_ix ix_list (pv 3) (pv 4) (fun _ _ => rfl)) pa_nil))))
      (pss_one (ps_if (pt_cmp (pc_dnotin (hu1) (pv 9) (pv 2))) (pss_cons (ps_dput (hu1) (pv 2) (pv 9) (pe_op op_cat (pv 5) (pe_lst (pa_cons (pv 6) pa_nil))) rfl)
      (pss_one (ps_expr (pe_bm PySem.F.plainAttrs_list PySem.F.slot_list_append PySem.F.type_list_append mt_append (pv 3) (pa_cons (pv 9) pa_nil))))) pss_nil))))
      (pss_one (ps_aug (i := 4) scGf.nd rfl (.inl rfl) pe_int ip_add)))))
      (pss_one (ps_ret (pv 2))))))), ?_⟩
    have lenW := hM.length
    -- rows = {begin: []}
    refine fun D nD => ?_
    have s1 : Same H (upd H D (.dT [])) := same_new nD
    refine ⟨.ref ba, rfl, Nat.zero_le _, fun r0 nr0 => ?_⟩
    have hD1 : (upd (upd H D (.dT [])) r0 (.lst [])) D = some (.dT []) := same_new nr0 _ _ upd_same
    refine ⟨hD1, ba, b.map Sum.inl, .ref r0, rfl, by rw [key_ints]; exact same_new nr0 _ _ (s1 _ _ hb), ?_⟩
    have s2 : Same H (upd (upd (upd H D (.dT [])) r0 (.lst [])) D (.dT [(b.map Sum.inl, .ref r0)])) := Same.put (s1.trans (same_new nr0)) nD
    have hD2 : (upd (upd (upd H D (.dT [])) r0 (.lst [])) D (.dT [(b.map Sum.inl, .ref r0)])) D = some (.dT [(b.map Sum.inl, .ref r0)]) := upd_same
    have nr0D : r0 ≠ D := (ne_of_none upd_same nr0).symm
    have hr2 : (upd (upd (upd H D (.dT [])) r0 (.lst [])) D (.dT [(b.map Sum.inl, .ref r0)])) r0 = some (.lst []) := by
      rw [upd_ne nr0D]
      exact upd_same
    generalize upd (upd (upd H D (.dT [])) r0 (.lst [])) D (.dT [(b.map Sum.inl, .ref r0)]) = H2 at s2 hD2 hr2 ⊢
    -- found = [begin]
    refine ⟨.ref ba, rfl, (by show 1 ≤ sizeLine; decide), fun F' nF => ?_⟩
    have nF0 := s2.free nF
    have nDF : D ≠ F' := ne_of_none hD2 nF
    have sea0 : Sea H (upd H2 F' (.lst [.ref ba])) D F' (bfsN many ms b 0) := ⟨s2.trans (same_new nF), _, _, same_new nF _ _ hD2, upd_same, .cons ⟨rfl, r0, rfl, same_new nF _ _ hr2⟩ .nil, .cons ⟨ba, rfl, same_new nF _ _ (s2 _ _ hb)⟩ .nil⟩
    generalize upd H2 F' (.lst [.ref ba]) = H3 at sea0 ⊢
    have lenB := bfsN_len (ms := ms) gb m6
    refine while_by (fun σ H' => ∃ (d : Nat) (y5 y6 y7 y8 y9 : Option V), σ = [some (.ref m), some (.ref ba), some (.ref D), some (.ref F'), some (.int (d : Int)), y5, y6, y7, y8, y9] ∧ d ≤ (bfsN many ms b d).length ∧ Sea H H' D F' (bfsN many ms b d))
      (fun σ _ => match σ with | [_, _, _, _, some (.int d), _, _, _, _, _] => 65 - d.toNat | _ => 0) ⟨0, none, none, none, none, none, rfl, Nat.zero_le _, sea0⟩ ?_ ?_
    · rintro σ H4 ⟨d, y5, y6, y7, y8, y9, rfl, hd, sea⟩
      obtain ⟨s4, kvs, fs, hD4, hF4, pk, pf⟩ := id sea
      have lenF : fs.length = (bfsN many ms b d).length := pf.length
      refine ⟨.int (d : Int), rfl, .ref F', rfl, F', _, rfl, .inl (SqL.of hF4), _, _, rfl, rfl, _, rfl, ite2 (fun c => ?_) (fun c => ?_)⟩
      · have lt : d < (bfsN many ms b d).length := by
          have h1 : (d : Int) < ((fs.length : Nat) : Int) := of_decide_eq_true c
          omega
        have ep := List.getElem?_eq_getElem lt
        obtain ⟨p, ep'⟩ : ∃ p, (bfsN many ms b d)[d]? = some p := ⟨_, ep⟩
        have hp := List.mem_of_getElem? ep'
        obtain ⟨v, ev, ga, rfl, hga⟩ := paired_get (F := fun v (p : GR) => ∃ a, v = V.ref a ∧ H4 a = some (.tup (p.1.map V.int))) pf ep'
        obtain ⟨ra, hval, hra⟩ := val_some pk (bfsN_nodup many ms b d) hp
        have gp := bfsN_good (ms := ms) gb d p hp
        -- row = rows[found[done]]
        refine ⟨.ref D, rfl, .ref F', rfl, .int (d : Int), rfl, F', _, _, _, rfl, rfl, SqL.of hF4, atI_nat ev, D, .ref ra, rfl, by rw [← hval]; exact DGet.t hD4 (by rw [key_ints]; exact hga), ?_⟩
        have hm4 := s4 _ _ hm
        refine ⟨.ref m, rfl, m, ws, rfl, SqL.of hm4, for_it (walk_enum (K := K) (a := m) (xs := ws)) (fun k σ H' => ∃ y6 y7 y8 y9, σ = [some (.ref m), some (.ref ba), some (.ref D), some (.ref F'), some (.int (d : Int)), some (.ref ra), y6, y7, y8, y9] ∧ Sea H H' D F' (visitN many ms p.1 p.2 (bfsN many ms b d) k) ∧ H' ra = some (.lst (p.2.map V.int)) ∧ H' ga = some (.tup (p.1.map V.int)) ∧ ∃ fs', H' F' = some (.lst fs') ∧ fs'[d]? = some (.ref ga))
          ⟨y6, y7, y8, y9, rfl, sea, hra, hga, fs, hF4, ev⟩ (fun k σ H' hk ⟨_, _, _, _, _, ⟨s, _⟩, _⟩ => SqL.of (s _ _ hm)) ?_ ?_⟩
        · rintro k z σ H5 H6 hk ⟨y6, y7, y8, y9, rfl, sea5, hra5, hga5, fs5, hF5, ev5⟩ ⟨Tp, u, v, rfl, nT, rfl, eu, ewk⟩
          obtain ⟨mv, emv, hmv⟩ := hM.get' ewk
          have eu' : u = .int (k : Int) := (Option.some.inj eu).symm
          subst eu'
          have hk8 : k < ms.length := by omega
          obtain ⟨s5, kvs5, fs5', hD5, hF5', pk5, pf5⟩ := sea5
          have efs : fs5' = fs5 := by
            rw [hF5] at hF5'
            cases hF5'
            rfl
          subst efs
          have sT := same_new (o := .tup [.int (k : Int), v]) nT
          obtain ⟨ta, tb, rfl, hta, htb⟩ := hmv.same (Same.tups (s5.trans sT))
          have s5T := s5.trans sT
          refine ⟨Tp, [.int (k : Int), .ref ta], rfl, SqT.of upd_same, rfl, .int (k : Int), [.ref ta], rfl, .ref ta, [], rfl, ?_⟩
          refine ⟨ta, [.int mv.1, .ref tb], rfl, SqT.of hta, rfl, .int mv.1, [.ref tb], rfl, .ref tb, [], rfl, rfl, rfl, ?_⟩
          -- group = led_to(whither, found[done])
          have gm := hgood mv (List.mem_of_getElem? emv)
          refine ⟨.ref tb, rfl, .ref F', rfl, .int (d : Int), rfl, F', _, _, _, rfl, rfl, SqL.of (sT _ _ hF5), atI_nat ev5, ?_⟩
          refine ⟨tb, ga, many, mv.2, p.1, rfl, htb, sT _ _ hga5, m6, gm.2.2, gp, fun g7 H7 s7 ng7 hg7 => ?_⟩
          have sT7 := sT.trans s7
          have hD7 := sT7 _ _ hD5
          have hF7 := sT7 _ _ hF5
          have pk7 : Paired (KvAt H7) kvs5 _ := L2.Paired.mapP pk5 fun kv q ⟨h1, a, h2, h3⟩ => ⟨h1, a, h2, sT7 _ _ h3⟩
          have pf7 := GrpsAt.same (Same.tups sT7) pf5
          have erow : rowM ms k = mv.2 := rowM_at emv
          have evis : visitN many ms p.1 p.2 (bfsN many ms b d) (k + 1) = addG (visitN many ms p.1 p.2 (bfsN many ms b d) k) (ledG many mv.2 p.1) (p.2 ++ [(k : Int)]) := by
            show addG _ (ledG many (rowM ms k) p.1) _ = _
            rw [erow]
          have hra7 := sT7 _ _ hra5
          have hga7 := sT7 _ _ hga5
          have s07 := s5.trans sT7
          refine ⟨.ref g7, rfl, .ref D, rfl, D, _, rfl, DGet.t hD7 (by rw [key_ints]; exact hg7), ?_⟩
          rw [key_dec pk7]
          refine ⟨_, rfl, ite2 (fun c => ?_) (fun c => ?_)⟩
          · -- a new group
            have nm : ledG many mv.2 p.1 ∉ keysG (visitN many ms p.1 p.2 (bfsN many ms b d) k) := fun mem => by
              rw [decide_eq_true mem] at c
              cases c
            have lenK : kvs5.length ≤ 64 := by
              rw [pk5.length]
              have h1 := (visitN_pre many ms p.1 p.2 (bfsN many ms b d) k)
              have : Pre (visitN many ms p.1 p.2 (bfsN many ms b d) k) (visitN many ms p.1 p.2 (bfsN many ms b d) ms.length) := by
                have : ∀ j, Pre (visitN many ms p.1 p.2 (bfsN many ms b d) k) (visitN many ms p.1 p.2 (bfsN many ms b d) (k + j)) := by
                  intro j
                  induction j with
                  | zero => exact Pre.refl _
                  | succ j ih => exact ih.trans (addG_pre _ _ _)
                have h2 := this (ms.length - k)
                rw [show k + (ms.length - k) = ms.length by omega] at h2
                exact h2
              have h3 := this.len
              have h4 : bfsN many ms b (d + 1) = visitN many ms p.1 p.2 (bfsN many ms b d) ms.length := by
                show stepN many ms (bfsN many ms b d) d = _
                unfold stepN
                rw [ep']
              have h5 := lenB (d + 1)
              rw [h4] at h5
              omega
            have lenF5 : fs5'.length ≤ 64 := by
              have h1 := pf5.length
              have h2 := pk5.length
              omega
            have lenR : p.2.length ≤ 64 := by
              have h1 := bfsN_rowlen d p hp
              have h2 := lenB d
              omega
            refine ⟨.ref ra, rfl, .int (k : Int), rfl, (by show 1 ≤ sizeLine; decide), fun c1 nc1 => ⟨ra, c1, _, _, rfl, rfl, same_new nc1 _ _ hra7, upd_same, le1k (by rw [List.length_map]; show p.2.length + 1 ≤ 1000; omega), fun c2 nc2 => ?_⟩⟩
            have er : p.2.map V.int ++ [V.int (k : Int)] = (p.2 ++ [(k : Int)]).map V.int := by rw [List.map_append]; rfl
            rw [er]
            have s8 := (same_new (o := .lst [.int (k : Int)]) nc1).trans (same_new (o := .lst ((p.2 ++ [(k : Int)]).map V.int)) nc2)
            have hc2 : (upd (upd H7 c1 (.lst [.int (k : Int)])) c2 (.lst ((p.2 ++ [(k : Int)]).map V.int))) c2 = some (.lst ((p.2 ++ [(k : Int)]).map V.int)) := upd_same
            generalize upd (upd H7 c1 (.lst [.int (k : Int)])) c2 (.lst ((p.2 ++ [(k : Int)]).map V.int)) = H8 at s8 hc2 ⊢
            have hD8 := s8 _ _ hD7
            have hF8 := s8 _ _ hF7
            have hg8 := s8 _ _ hg7
            refine ⟨.ref D, rfl, .ref g7, rfl, D, _, rfl, DPut.t hD8 (by rw [key_ints]; exact hg8) (lt1k (by omega)), ?_⟩
            rw [putK_new _ (val_none pk7 nm)]
            have neD : ∀ {b o}, H8 b = some o → (∀ kvs, o ≠ .dT kvs) → b ≠ D := fun e n z => by
              rw [z, hD8] at e
              exact n _ (Option.some.inj e).symm
            have hF9 : (upd H8 D (.dT (kvs5 ++ [((ledG many mv.2 p.1).map Sum.inl, .ref c2)]))) F' = some (.lst fs5') := by
              rw [upd_ne (Ne.symm nDF)]
              exact hF8
            refine ⟨.ref F', rfl, .inl ⟨rfl, _, SqL.of hF9⟩, .ref g7, rfl, F', _, _, rfl, rfl, hF9, lt1k (by omega), ?_⟩
            have k9 : ∀ b o, b ≠ D → b ≠ F' → H8 b = some o → (upd (upd H8 D (.dT (kvs5 ++ [((ledG many mv.2 p.1).map Sum.inl, .ref c2)]))) F' (.lst (fs5' ++ [.ref g7]))) b = some o := fun b o n1 n2 e => by
              rw [upd_ne n2, upd_ne n1]
              exact e
            have neF : ∀ {b xs}, H8 b = some (.tup xs) → b ≠ F' := fun e z => by
              rw [z, hF8] at e
              cases e
            have kt : ∀ b xs, H8 b = some (.tup xs) → (upd (upd H8 D (.dT (kvs5 ++ [((ledG many mv.2 p.1).map Sum.inl, .ref c2)]))) F' (.lst (fs5' ++ [.ref g7]))) b = some (.tup xs) := fun b xs e => k9 b _ (neD e fun _ z => nomatch z) (neF e) e
            have neI : ∀ {b : Addr} {ns : List Int}, H8 b = some (.lst (ns.map V.int)) → b ≠ F' := fun {b ns} e z => by
              rw [z, hF8] at e
              injection e with e
              injection e with e
              rw [e] at ev5
              exact ints_no_ref ev5
            have kl : ∀ (b : Addr) (ns : List Int), H8 b = some (.lst (ns.map V.int)) → (upd (upd H8 D (.dT (kvs5 ++ [((ledG many mv.2 p.1).map Sum.inl, .ref c2)]))) F' (.lst (fs5' ++ [.ref g7]))) b = some (.lst (ns.map V.int)) := fun b ns e => k9 b _ (neD e fun _ z => nomatch z) (neI e) e
            have e2 : visitN many ms p.1 p.2 (bfsN many ms b d) (k + 1) = visitN many ms p.1 p.2 (bfsN many ms b d) k ++ [(ledG many mv.2 p.1, p.2 ++ [(k : Int)])] := by
              rw [evis]
              unfold addG
              rw [if_neg nm]
            refine ⟨some (.int (k : Int)), some (.int mv.1), some (.ref tb), some (.ref g7), rfl, ?_, kl _ _ (s8 _ _ hra7), kt _ _ (s8 _ _ hga7), _, upd_same, ?_⟩
            · rw [e2]
              refine ⟨fun b o e => k9 b o (ne_of_none e nD) (ne_of_none e nF0) (s8 _ _ (s07 _ _ e)), kvs5 ++ [((ledG many mv.2 p.1).map Sum.inl, .ref c2)], fs5' ++ [.ref g7], ?_, upd_same, ?_, ?_⟩
              · rw [upd_ne nDF]
                exact upd_same
              · exact paired_end (F := KvAt _) ⟨rfl, c2, rfl, kl _ _ hc2⟩ (L2.Paired.mapP pk7 fun kv q ⟨h1, a, h2, h3⟩ => ⟨h1, a, h2, kl _ _ (s8 _ _ h3)⟩)
              · exact GrpsAt.snoc (GrpsAt.same (fun b xs e => kt b xs (s8 _ _ e)) pf7) (kt _ _ hg8)
            · rw [List.getElem?_append_left (by obtain ⟨h, _⟩ := List.getElem?_eq_some_iff.mp ev5; exact h)]
              exact ev5
          · -- it is there already
            have mem : ledG many mv.2 p.1 ∈ keysG (visitN many ms p.1 p.2 (bfsN many ms b d) k) := by
              by_cases mm : ledG many mv.2 p.1 ∈ keysG (visitN many ms p.1 p.2 (bfsN many ms b d) k)
              · exact mm
              · rw [decide_eq_false mm] at c
                exact absurd rfl c
            have e2 : visitN many ms p.1 p.2 (bfsN many ms b d) (k + 1) = visitN many ms p.1 p.2 (bfsN many ms b d) k := by
              rw [evis]
              unfold addG
              rw [if_pos mem]
            refine ⟨some (.int (k : Int)), some (.int mv.1), some (.ref tb), some (.ref g7), rfl, ?_, hra7, hga7, fs5', hF7, ev5⟩
            rw [e2]
            exact ⟨s07, kvs5, fs5', hD7, hF7, pk7, pf7⟩
        · rintro σ H5 ⟨y6, y7, y8, y9, rfl, sea5, _⟩
          have eb : visitN many ms p.1 p.2 (bfsN many ms b d) ws.length = bfsN many ms b (d + 1) := by
            show _ = stepN many ms (bfsN many ms b d) d
            unfold stepN
            rw [ep', lenW]
          rw [eb] at sea5
          have pl := (bfsN_pre many ms b d 1).len
          have h64 := lenB d
          refine ⟨.int (d : Int), rfl, (d : Int), 1, rfl, rfl, ⟨d + 1, some (.ref ra), y6, y7, y8, y9, rfl, ?_, sea5⟩, ?_⟩
          · omega
          · show 65 - ((d : Int) + 1).toNat < 65 - ((d : Int)).toNat
            omega
      · have ge : (bfsN many ms b d).length ≤ d := by
          have h1 : ¬ ((d : Int) < ((fs.length : Nat) : Int)) := fun z => c (decide_eq_true z)
          omega
        have h64 := lenB d
        refine ⟨.ref D, rfl, q D H4 s4 nD ⟨kvs, hD4, ?_⟩⟩
        rw [← bfsN_gf ge (by omega)]
        exact pk
    · rintro σ H2 Q1 Q2 hq ⟨v, e1, u, e2, p, ys, e3, e4, i, j, e5, e6, b, e7, h⟩
      exact ⟨v, e1, u, e2, p, ys, e3, e4, i, j, e5, e6, b, e7, hq _ _ h⟩
end
/-! ### all(r[x] == g for x in e), e a list of ints: a rule of our own -/
def eltQ (x r g : Str) (p1 p2 p3 p4 p5 : Pos) : Expr := .Compare (.Subscript (.Name r p1) (.Name x p2) p3) [.Eq] [.Name g p4] p5
theorem elt_eqix {prog : Program} {w : World} {cenv : Env} {A : Around} {E : Value → Shared → Prop} {x r g : Str} {p1 p2 p3 p4 p5 : Pos} {s : Shared} {m : Str → Option Value} {cr cg R L G : Addr} {z : Int} {t : Tok} {its : Array Value} {dL dG : PyData} {as bs : List Addr}
    (kf : cenv.scope.kind = .function) (kx : cenv.kindOf x = some .local) (kr : cenv.kindOf r = some .free) (kg : cenv.kindOf g = some .free) (hm : s.heap.Ns cenv.locals m) (ex : m x = some (.int z t))
    (lr : cenv.cells.lookup r = some cr) (er : s.heap.IsCell cr (some (.ref R))) (lg : cenv.cells.lookup g = some cg) (eg : s.heap.IsCell cg (some (.ref G))) (hR : s.heap.IsList R its) (z0 : 0 ≤ z) (z1 : z < 2 ^ 63) (hz : its[z.toNat]? = some (.ref L))
    (rL : Reads s.heap (.ref L) dL as) (rG : Reads s.heap (.ref G) dG bs) (sL : SeqAt.shaped dL = true) (sG : SeqAt.shaped dG = true) (hu : A.units + 64 < cLine)
    (dx : (x == ("__debug__" : Str)) = false) (dr : (r == ("__debug__" : Str)) = false) (kcr : (r == ("__classdict__" : Str)) = false) (dg : (g == ("__debug__" : Str)) = false) (kcg : (g == ("__classdict__" : Str)) = false) :
    wpAny (model prog w) A (eval (eltQ x r g p1 p2 p3 p4 p5) cenv) (fun v s' => v = .bool (PyData.eqv dL dG) ∧ Keeps s s') E s := by
  refine wpAny_Compare1 (Subscript_ (wpAny_Name (wpAny_loadName_free kf kr lr er ?_ kcr) dr)) (by rfl)
  refine wpAny_Name (wpAny_loadName_local kf kx hm ex ?_) dx
  refine item_listR hR z0 z1 hz ?_
  refine wpAny_Name (wpAny_loadName_free kf kg lg eg ?_ kcg) dg
  exact SeqAt.compareEq_shaped rL rG sL sG hu ⟨rfl, s.heap, s.toks, rfl, fun _ _ e => e⟩
/-- a list of ints in a heap, read -/
theorem reads_ints {h : Heap} {a : Addr} {its : List Value} {ns : List Int} (hl : h.IsList a its.toArray) (r : Vals (ns.map V.int) its) : ∃ as, Reads h (.ref a) (.list (ns.map PyData.int)) as := by
  obtain ⟨o, ho, hc, n, hd⟩ := hl
  have all : ∀ {ns : List Int} {its : List Value}, Vals (ns.map V.int) its → ∃ as, ReadsAll h its (ns.map PyData.int) as := by
    intro ns
    induction ns with
    | nil =>
      intro its r
      cases r
      exact ⟨[], .nil⟩
    | cons n ns ih =>
      intro its r
      cases r with
      | cons rn rr =>
        obtain ⟨t, rfl⟩ := rn
        obtain ⟨as, ha⟩ := ih rr
        exact ⟨[] ++ as, .cons (.int n t) ha⟩
  obtain ⟨as, ha⟩ := all r
  exact ⟨_, .list ho hc hd (by simpa using ha)⟩
theorem eqvAll_ints : ∀ (a b : List Int), PyData.eqvAll (a.map PyData.int) (b.map PyData.int) = decide (a = b)
  | [], [] => by simp [PyData.eqvAll]
  | [], y :: ys => by simp [PyData.eqvAll]
  | x :: xs, [] => by simp [PyData.eqvAll]
  | x :: xs, y :: ys => by
    show ((x == y) && PyData.eqvAll (xs.map PyData.int) (ys.map PyData.int)) = _
    rw [eqvAll_ints xs ys]
    by_cases h : x = y
    · subst h
      simp
    · simp [h]
theorem eqv_ints (a b : List Int) : PyData.eqv (.list (a.map PyData.int)) (.list (b.map PyData.int)) = decide (a = b) := eqvAll_ints a b
section
variable {X : Cx} {pins : List (Addr × Obj)} {σ : L2.St} {H : Hp} {s : Shared}
/-- what is asked of the lists: r a list of lists of ints, g a list of ints -/
def EqRows (K : PySem.W.Frag) (H1 : Hp) (σ : L2.St) (ir ig : Nat) (ns gs : List Int) (row : Int → List Int) : Prop :=
  ∃ (R G : Addr) (rs : List V), σ[ir]? = some (some (.ref R)) ∧ σ[ig]? = some (some (.ref G)) ∧ SqL K H1 R rs ∧ SqL K H1 G (gs.map V.int) ∧
    ∀ n ∈ ns, 0 ≤ n ∧ n < 1000 ∧ ∃ L, rs[n.toNat]? = some (.ref L) ∧ SqL K H1 L ((row n).map V.int)
open GxR in
theorem gen_eqq {c P : Addr} {iter : Expr} {x r g : Str} {px gpos p1 p2 p3 p4 p5 : Pos} {scope : Scope} {te : TE} {k ir ig : Nat} {Q' : Value → Shared → Prop} {W : List Int → List Int → (Int → List Int) → Hp → Prop}
    (hr : Room k X.A) (TB : TabB X.base X.mg c P) (hcode : X.env.code = .ref c) (S : GenS X.env scope x) (hi : PE X iter te)
    (nr : X.N[ir]? = some r) (vr : X.env.kindOf r = some .cell) (fr : (r, NameKind.free) ∈ scope.names) (lr : scope.names.lookup r = some .free)
    (ng : X.N[ig]? = some g) (vg : X.env.kindOf g = some .cell) (fg : (g, NameKind.free) ∈ scope.names) (lg : scope.names.lookup g = some .free)
    (dx : (x == ("__debug__" : Str)) = false) (dr : (r == ("__debug__" : Str)) = false) (kcr : (r == ("__classdict__" : Str)) = false) (dg : (g == ("__debug__" : Str)) = false) (kcg : (g == ("__classdict__" : Str)) = false)
    (hs : ∀ v, genFold iter X.env v = pure v) (I : Inv X pins σ H s)
    (h : te σ H fun v H1 => ∃ (a : Addr) (ns gs : List Int) (row : Int → List Int), v = .ref a ∧ SqL X.K H1 a (ns.map V.int) ∧ TabG H1 P ∧ EqRows X.K H1 σ ir ig ns gs row ∧ W ns gs row H1)
    (hQ : ∀ ns gs row H1 q s5, W ns gs row H1 → AllReady X pins σ H1 P (ns.map fun n => decide (row n = gs)) q s5 → Q' (.ref q) s5) :
    wpAny (model X.prog X.w) X.A (eval (.GeneratorExp (eltQ x r g p1 p2 p3 p4 p5) [⟨.Name x px, iter, [], 0⟩] scope gpos) X.env) Q' X.xe s := by
  refine wpAny_GeneratorExp_walksQD hr.hd S.co (closure_ok S.free) S.cell S.dot S.loc S.kind (by have := hr.dp; omega) ?_ hs
  refine thn (hi.run pins s σ H _ I h) fun xv s1 got => ?_
  obtain ⟨v, H1, I1, r1, a, ns, gs, row, ev, hT, hTab, ⟨R, G, rs, hR, hG, qR, qG, hrows⟩, hW⟩ := got
  subst ev
  obtain rfl : xv = Value.ref a := r1
  obtain ⟨its, rv, plA, hz⟩ := I1.list hT
  have listAt : s1.heap.IsList a its.toArray := plA.isList
  -- the captured names
  have cellOf : ∀ (i : Nat) (y : Str) (b : Addr), X.N[i]? = some y → X.env.kindOf y = some .cell → σ[i]? = some (some (.ref b)) → ∃ cc, X.env.cells.lookup y = some cc ∧ s1.heap.IsCell cc (some (.ref b)) := by
    intro i y b hy vy hb
    obtain ⟨m, _, hl⟩ := I1.loc
    obtain ⟨uv, ru, lk⟩ := hl i y (.ref b) hy hb (.inr (.inl vy))
    have eu : uv = Value.ref b := ru
    subst eu
    rcases lk with ⟨k1, _⟩ | ⟨_, cc, e1, e2⟩
    · rw [vy] at k1
      cases k1
    · exact ⟨cc, e1, e2⟩
  obtain ⟨cr, hcr, hcellr⟩ := cellOf ir r R nr vr hR
  obtain ⟨cg, hcg, hcellg⟩ := cellOf ig g G ng vg hG
  obtain ⟨mb, bb1, bb2⟩ := I1.mod.blt
  have lenI : its.toArray.size = ns.length := by
    have e := rv.length
    rw [List.length_map] at e
    simp only [List.size_toArray]
    omega
  obtain ⟨ps, hP, hps⟩ := hTab
  refine wpAny_pyIter_list listAt ?_
  let it : Obj := { cls := .type "list_iterator", data := .fields #[.ref a, .int 0 0] }
  have atP : s1.heap.get? P = some { cls := .none, data := .fields ps } := I1.hok P _ hP
  have ltP : P < s1.heap.objs.size := Heap.lt_size atP
  have limI : (s1.heap.push it).NoLimit := I1.nolimit.push it
  have keepI : ∀ b o, s1.heap.get? b = some o → (s1.heap.push it).get? b = some o := fun b o e => Heap.get?_push_of_some _ e
  have codeI : PySem.W.CodeHd (s1.heap.push it) c P := TB.code.keeps fun b o e => keepI b o (I1.bk b o e)
  have ltS : cStatics < s1.heap.objs.size := let ⟨_, q, _⟩ := I1.nolimit; q.lt
  have neS : cStatics ≠ P := fun e => by
    obtain ⟨_, ⟨o', es, ep, g1, g2, _⟩, _⟩ := I1.nolimit
    rw [e, atP] at g1
    cases g1
    cases g2
  have szI : (s1.heap.push it).objs.size = s1.heap.objs.size + 1 := Heap.size_push ..
  have iterI : (s1.heap.push it).IsListIter s1.heap.objs.size a 0 := ⟨_, Heap.get?_push_size _ rfl, rfl, rfl⟩
  have listI : (s1.heap.push it).IsList a its.toArray := by
    obtain ⟨o, e, q⟩ := listAt
    exact ⟨o, keepI _ _ e, q⟩
  have neIt : a ≠ s1.heap.objs.size := by
    obtain ⟨o, e, _⟩ := listAt
    exact Nat.ne_of_lt (Heap.lt_size e)
  have neLP : ∀ {b : Addr} {vs : Array Value}, s1.heap.IsList b vs → b ≠ P := fun hl e => by
    obtain ⟨o, q, _, nn, dd⟩ := hl
    rw [e, atP] at q
    cases q
    cases dd
  have Wk : ∀ A' : Around, A'.handled = none → Walks X.prog X.w A' s1.heap.objs.size [s1.heap.objs.size, a] [s1.heap.objs.size] its.toArray.size (fun j v => its.toArray[j]? = some v) (fun j hp => hp.IsListIter s1.heap.objs.size a j ∧ hp.IsList a its.toArray) :=
    fun A' hA => Walks.list hA s1.heap.objs.size a neIt its.toArray
  refine ⟨limI, gen_code hcode codeI (keepI _ _ atP) hps fun code h3 tk more hx hge hP3 ht3 => ?_⟩
  have hge2 : s1.heap.objs.size + 1 ≤ h3.objs.size := by
    rw [← szI]
    exact hge
  have keep3 : ∀ b o, b ≠ P → s1.heap.get? b = some o → h3.get? b = some o := fun b o nb e => hx b o nb (keepI b o e)
  obtain ⟨bm, ob, f1, f2, f3, f4, f5, f6, f7, f8⟩ := TB.bm
  have glob3 : h3.Ns X.env.globals X.mg := by
    rw [I1.ok.glob]
    exact ((I1.mod.glob.keeps I1.bk).push it).extBut hx TB.gP
  refine wpAny_builtinsFor (m := X.mg) glob3 f1 f2 (keep3 _ _ f4 (I1.bk _ _ f5)) f6 f7 f8 ?_
  refine ⟨s1.heap.objs.size, [s1.heap.objs.size, a], [s1.heap.objs.size], its.toArray.size, fun j v => its.toArray[j]? = some v, _, fun _ => true, fun j v => ∃ z, ns[j]? = some z ∧ v = .bool (decide (row z = gs)), rfl, Wk, ?_, ?_, limI.extBut hx neS, ?_, ?_, ?_⟩
  · refine ⟨?_, ?_⟩
    · obtain ⟨o, e, q⟩ := iterI
      exact ⟨o, hx _ _ (Nat.ne_of_gt ltP) e, q⟩
    · obtain ⟨o, e, q⟩ := listI
      exact ⟨o, hx _ _ (neLP listAt) e, q⟩
  · intro b hb
    show b < h3.objs.size
    rcases List.mem_cons.mp hb with e | e
    · rw [e]
      exact Nat.lt_of_succ_le hge2
    · have e2 : b = a := by simpa using e
      obtain ⟨o, q, _⟩ := listAt
      have lta := Heap.lt_size q
      rw [e2]
      exact Nat.lt_of_lt_of_le lta (by omega)
  · intro hmem
    have e : cStatics = s1.heap.objs.size := by simpa using hmem
    rw [e] at ltS
    exact Nat.lt_irrefl _ ltS
  · intro href hhref
    refine ⟨fun A' E' j v s₂ m₂ hA hD hU hPv ha2 hb2 hk => ?_, fun A' E' j v s₂ m₂ hA hD hU hPv _ ha2 hb2 hk => ?_⟩
    · simp only [List.forIn_nil]
      exact wpAny_pure ⟨rfl, s₂.heap, s₂.toks, rfl, fun _ _ e => e⟩
    · -- what stood ahead of the generator stands
      have old : ∀ b o, b ≠ P → s1.heap.get? b = some o → s₂.heap.get? b = some o := fun b o nb e => by
        refine hk b (List.mem_range.mpr ?_) (fun z => ?_) o (hhref b o (keep3 b o nb e))
        · exact Nat.lt_of_lt_of_le (Heap.lt_size e) (by show s1.heap.objs.size ≤ h3.objs.size; omega)
        · have e2 : b = s1.heap.objs.size := by simpa using z
          exact Nat.ne_of_lt (Heap.lt_size e) e2
      have oldL : ∀ {b : Addr} {vs : Array Value}, s1.heap.IsList b vs → s₂.heap.IsList b vs := fun hl => by
        have ne := neLP hl
        obtain ⟨o, q, w⟩ := hl
        exact ⟨o, old _ _ ne q, w⟩
      have oldC : ∀ {cc : Addr} {u : Option Value}, s1.heap.IsCell cc u → s₂.heap.IsCell cc u := fun hc => by
        obtain ⟨o, e, d⟩ := hc
        refine ⟨o, old _ _ (fun z => ?_) e, d⟩
        rw [z, atP] at e
        cases e
        cases d
      have hjv : its[j]? = some v := by simpa using hPv
      obtain ⟨zv, ez, rz⟩ : ∃ z, ns[j]? = some z ∧ RelV (.int z) v := by
        have hj : j < ns.length := by
          obtain ⟨h, _⟩ := List.getElem?_eq_some_iff.mp hjv
          simpa [lenI] using (show j < its.toArray.size by simpa using h)
        obtain ⟨uu, g1, g2⟩ := rv.get (i := j) (x := .int ns[j]) (by rw [List.getElem?_map, List.getElem?_eq_getElem hj]; rfl)
        rw [hjv] at g1
        cases g1
        exact ⟨_, List.getElem?_eq_getElem hj, g2⟩
      obtain ⟨tz, rfl⟩ := rz
      obtain ⟨z0, z1, L, hL, qL⟩ := hrows zv (List.mem_of_getElem? ez)
      obtain ⟨itR, rR, plR, _⟩ := I1.list qR
      obtain ⟨itG, rG, plG, _⟩ := I1.list qG
      obtain ⟨itL, rL, plL, _⟩ := I1.list qL
      obtain ⟨uL, eL, rUL⟩ := rR.get hL
      have euL : uL = Value.ref L := rUL
      subst euL
      obtain ⟨asL, readL⟩ := reads_ints (oldL plL.isList) rL
      obtain ⟨asG, readG⟩ := reads_ints (oldL plG.isList) rG
      have cloOf : ∀ y cc, (y, NameKind.free) ∈ scope.names → X.env.cells.lookup y = some cc → (cloFrom X.env.cells scope.names []).lookup y = some cc := fun y cc fy hcc => clo_one _ _ _ _ (fun p hp hf => by
        obtain ⟨c', ec'⟩ := S.free p hp hf
        rw [ec']
        rfl) hcc (.inl fy)
      have un := hr.un
      refine thn (elt_eqix (x := x) (r := r) (g := g) S.kind S.loc lr lg ha2 hb2 (cloOf r cr fr hcr) (oldC hcellr) (cloOf g cg fg hcg) (oldC hcellg) (oldL plR.isList) z0 (by omega) (by simpa using eL) readL readG
        (Sh.shaped (n := 1) (Sh.list (Sh.ints _)) (by decide)) (Sh.shaped (n := 1) (Sh.list (Sh.ints _)) (by decide)) (by omega) dx dr kcr dg kcg) fun v' s3 hv => ⟨⟨zv, ez, ?_⟩, hv.2⟩
      rw [hv.1, eqv_ints]
  · intro q h5 tk5 gs5 hbare hag hsz5 hk5 W5 hat
    have e0 : passing (fun _ => true) its.toArray.size 0 = List.range its.toArray.size := GxR.passing_true _
    rw [e0] at W5
    rw [List.length_range, lenI] at W5
    have oldA : ∀ b o, s1.heap.get? b = some o → b ∉ h3.objs.size :: [s1.heap.objs.size] := fun b o e hb => by
      have l0 := Heap.lt_size e
      rcases List.mem_cons.mp hb with z | z
      · rw [z] at l0
        exact absurd (Nat.lt_of_lt_of_le l0 (Nat.le_of_succ_le hge2)) (Nat.lt_irrefl _)
      · have z2 : b = s1.heap.objs.size := by simpa using z
        exact Nat.ne_of_lt l0 z2
    have W6 := W5.in4_1
    rw [show ns.length = (ns.map fun n => decide (row n = gs)).length from (List.length_map _).symm] at W6
    rw [lenI, show ns.length = (ns.map fun n => decide (row n = gs)).length from (List.length_map _).symm] at hat
    refine hQ ns gs row H1 q _ hW ⟨_, _, _, _, _, fun j => (ns.map fun n => decide (row n = gs)).getD j false, W6, hat, ?_, fun j b hb => by show (ns.map fun n => decide (row n = gs)).getD j false = b; rw [List.getD_eq_getElem?_getD, hb]; rfl, fun s' hm => ?_⟩
    · intro j yv sj Qj Ej hy hQj
      obtain ⟨i', hij, z, hz', rfl⟩ := hy
      obtain ⟨hj, ej⟩ := List.getElem?_eq_some_iff.mp hij
      rw [List.getElem_range] at ej
      subst ej
      refine wpAny_truthy_bool ?_
      have eb : (ns.map fun n => decide (row n = gs)).getD j false = decide (row z = gs) := by
        rw [List.getD_eq_getElem?_getD, List.getElem?_map, hz']
        rfl
      have hQj' : Qj ((ns.map fun n => decide (row n = gs)).getD j false) sj := hQj
      rw [eb] at hQj'
      exact hQj'
    · have J := inv_tab (more := more) (h' := s'.heap) (g' := s'.gens) (d' := s'.drawn) (t' := s'.toks) I1 hP (fun b o nb e => hm.heap b o (oldA b o e) (hk5 b o (keep3 b o nb e))) (hm.heap P _ (oldA P _ atP) (hk5 P _ hP3)) (AllBare.movedS (I1.bare.push hbare) hm)
      rw [sh_eta s1 s' hm.os] at J
      exact ⟨upd H1 P (.tbl (ps ++ more)), ⟨⟨ps ++ more, upd_same, ht3⟩, fun b hb => upd_ne hb⟩, J⟩
/-- all(r[x] == g for x in e): e a list of ints, r in slot ir, g in slot ig -/
def tAllQ (K : PySem.W.Frag) (P : Addr) (ir ig : Nat) (te : TE) : TE := fun σ H Q => te σ H fun v H1 => ∃ (a : Addr) (ns gs : List Int) (row : Int → List Int), v = .ref a ∧ SqL K H1 a (ns.map V.int) ∧ GxR.TabG H1 P ∧ EqRows K H1 σ ir ig ns gs row ∧
  ∀ H2, GxR.Tabbed P H1 H2 → Q (.bl (ns.all fun n => decide (row n = gs))) H2
theorem pe_allQ {c P : Addr} {iter : Expr} {x r g : Str} {px p pos gpos p1 p2 p3 p4 p5 : Pos} {scope : Scope} {te : TE} {k ir ig : Nat}
    (hr : Room k X.A) (hg : Gl X "all") (hm : X.mg "all" = none) (TB : GxR.TabB X.base X.mg c P) (hcode : X.env.code = .ref c) (S : GxR.GenS X.env scope x) (hi : PE X iter te)
    (nr : X.N[ir]? = some r) (vr : X.env.kindOf r = some .cell) (fr : (r, NameKind.free) ∈ scope.names) (lr : scope.names.lookup r = some .free)
    (ng : X.N[ig]? = some g) (vg : X.env.kindOf g = some .cell) (fg : (g, NameKind.free) ∈ scope.names) (lg : scope.names.lookup g = some .free)
    (dx : (x == ("__debug__" : Str)) = false) (dr : (r == ("__debug__" : Str)) = false) (kcr : (r == ("__classdict__" : Str)) = false) (dg : (g == ("__debug__" : Str)) = false) (kcg : (g == ("__classdict__" : Str)) = false)
    (hs : ∀ v, genFold iter X.env v = pure v)
    (he : starEach [.GeneratorExp (eltQ x r g p1 p2 p3 p4 p5) [⟨.Name x px, iter, [], 0⟩] scope gpos] X.env = (false, eval (.GeneratorExp (eltQ x r g p1 p2 p3 p4 p5) [⟨.Name x px, iter, [], 0⟩] scope gpos) X.env) :: starEach [] X.env := by rfl) :
    PE X (.Call (.Name "all" p) [.GeneratorExp (eltQ x r g p1 p2 p3 p4 p5) [⟨.Name x px, iter, [], 0⟩] scope gpos] [] pos) (tAllQ X.K P ir ig te) := by
  refine ⟨fun pins s σ H Q I h => wpAny_Call_Name_kw (ld_blt I hg hm (by decide +kernel) (PyProof.Rows.callWith_builtin1 (id := "all") ?_ he (by rfl)))⟩
  rw [he]
  show wpAny _ _ (spliced (_ :: backTo pos (starEach [] X.env))) _ _ s
  refine Calls.spliced_cons (gen_eqq (W := fun ns gs row H1 => ∀ H2, GxR.Tabbed P H1 H2 → Q (.bl (ns.all fun n => decide (row n = gs))) H2) hr TB hcode S hi nr vr fr lr ng vg fg lg dx dr kcr dg kcg hs I h fun ns gs row H1 q s5 hW ⟨fp, wr, G, F, St', tr, W, hst, htr, hb, hI⟩ => Calls.spliced_nil ?_)
  refine call_all_walkS (W.self 0 _ _ _ hst ⟨q, fp, wr, G, _, F, St', _, rfl, W, hst, htr, fun s' hmv => ?_⟩)
  obtain ⟨H2, hT, J⟩ := hI s' hmv
  refine ⟨.bl _, H2, J, rfl, ?_⟩
  rw [all_tr _ tr hb, List.all_map]
  exact hW H2 hT
end
/-! ### places that are reached: the mathematics -/
def GoodAll (many : Nat) (ms : List Mv) : Prop := ∀ mv ∈ ms, GoodMv many mv
def Valid (ms : List Mv) (r : List Int) : Prop := ∀ n ∈ r, 0 ≤ n ∧ n < (ms.length : Int)
theorem rowM_good {many : Nat} {ms : List Mv} (G : GoodAll many ms) {n : Nat} (h : n < ms.length) : GoodRow many (rowM ms n) := by
  unfold rowM
  rw [List.getD_eq_getElem?_getD, List.getElem?_eq_getElem h]
  exact (G _ (List.getElem_mem h)).2.2
def walkP (ms : List Mv) (p : Int) (r : List Int) : Int := r.foldl (fun x n => goK (rowM ms n.toNat) x) p
theorem walkP_snoc (ms : List Mv) (p n : Int) (r : List Int) : walkP ms p (r ++ [n]) = goK (rowM ms n.toNat) (walkP ms p r) := by
  unfold walkP
  rw [List.foldl_append]
  rfl
theorem walkP_app (ms : List Mv) (p : Int) (r s : List Int) : walkP ms p (r ++ s) = walkP ms (walkP ms p r) s := by
  unfold walkP
  rw [List.foldl_append]
theorem Valid.app {ms : List Mv} {r s : List Int} (a : Valid ms r) (b : Valid ms s) : Valid ms (r ++ s) := fun n hn => (List.mem_append.mp hn).elim (a n) (b n)
theorem Valid.one {ms : List Mv} {n : Nat} (h : n < ms.length) : Valid ms [(n : Int)] := fun z hz => by
  rw [List.mem_singleton.mp hz]
  omega
theorem walkP_in {many : Nat} {ms : List Mv} (G : GoodAll many ms) {p : Int} (p0 : 0 ≤ p) (p1 : p < (many : Int)) : ∀ {r : List Int}, Valid ms r → 0 ≤ walkP ms p r ∧ walkP ms p r < (many : Int) := by
  intro r
  refine snocInd (F := fun r => Valid ms r → 0 ≤ walkP ms p r ∧ walkP ms p r < (many : Int)) ?_ ?_ r
  · intro _
    exact ⟨p0, p1⟩
  · intro r n ih h
    rw [walkP_snoc]
    have hn := h n (List.mem_append.mpr (.inr List.mem_cons_self))
    obtain ⟨a, b⟩ := ih fun z hz => h z (List.mem_append.mpr (.inl hz))
    exact goK_in' (rowM_good G (by omega)) a b
theorem ledG_one {many : Nat} {row : List Int} {x : Int} (hr : GoodRow many row) (x0 : 0 ≤ x) (x1 : x < (many : Int)) : ledG many row [x] = [goK row x] := by
  refine rise_same (ledG_good many row [x]).1 (List.pairwise_singleton _ _) fun k => ?_
  rw [mem_ledG hr (fun z hz => by rw [List.mem_singleton.mp hz]; exact ⟨x0, x1⟩)]
  constructor
  · rintro ⟨z, hz, rfl⟩
    rw [List.mem_singleton.mp hz]
    exact List.mem_cons_self
  · intro h
    exact ⟨x, List.mem_cons_self, (List.mem_singleton.mp h).symm⟩
theorem runG_one {many : Nat} {ms : List Mv} (G : GoodAll many ms) {p : Int} (p0 : 0 ≤ p) (p1 : p < (many : Int)) {r : List Int} : Valid ms r → runG many ms [p] r = [walkP ms p r] := by
  refine snocInd (F := fun r => Valid ms r → runG many ms [p] r = [walkP ms p r]) ?_ ?_ r
  · intro _
    rfl
  · intro r n ih h
    have hv : Valid ms r := fun z hz => h z (List.mem_append.mpr (.inl hz))
    have hn := h n (List.mem_append.mpr (.inr List.mem_cons_self))
    obtain ⟨a, b⟩ := walkP_in G p0 p1 hv
    rw [runG_snoc, walkP_snoc, ih hv, ledG_one (rowM_good G (by omega)) a b]
theorem good_one {many : Nat} {p : Int} (p0 : 0 ≤ p) (p1 : p < (many : Int)) : goodG many [p] := ⟨List.pairwise_singleton _ _, fun x hx => by rw [List.mem_singleton.mp hx]; exact ⟨p0, p1⟩⟩
/-- from a place one comes to another -/
def Rch (ms : List Mv) (p q : Int) : Prop := ∃ r, Valid ms r ∧ walkP ms p r = q
theorem Rch.refl (ms : List Mv) (p : Int) : Rch ms p p := ⟨[], (fun _ h => nomatch h), rfl⟩
theorem Rch.trans {ms : List Mv} {p q s : Int} (a : Rch ms p q) (b : Rch ms q s) : Rch ms p s := by
  obtain ⟨r, h1, rfl⟩ := a
  obtain ⟨t, h2, rfl⟩ := b
  exact ⟨r ++ t, h1.app h2, walkP_app _ _ _ _⟩
theorem Rch.step {ms : List Mv} {p q : Int} {n : Nat} (a : Rch ms p q) (h : n < ms.length) : Rch ms p (goK (rowM ms n) q) := by
  obtain ⟨r, h1, rfl⟩ := a
  refine ⟨r ++ [(n : Int)], h1.app (Valid.one h), ?_⟩
  rw [walkP_snoc]
  rfl
theorem Rch.in {many : Nat} {ms : List Mv} (G : GoodAll many ms) {p q : Int} (p0 : 0 ≤ p) (p1 : p < (many : Int)) (h : Rch ms p q) : 0 ≤ q ∧ q < (many : Int) := by
  obtain ⟨r, h1, rfl⟩ := h
  exact walkP_in G p0 p1 h1
/-- what is closed under moves and holds p holds all that is reached -/
theorem Rch.ind {ms : List Mv} {F : Int → Prop} {p q : Int} (h0 : F p) (hs : ∀ x n, F x → n < ms.length → F (goK (rowM ms n) x)) (h : Rch ms p q) : F q := by
  obtain ⟨r, h1, rfl⟩ := h
  revert h1
  refine snocInd (F := fun r => Valid ms r → F (walkP ms p r)) ?_ ?_ r
  · intro _
    exact h0
  · intro r n ih hv
    rw [walkP_snoc]
    have hn := hv n (List.mem_append.mpr (.inr List.mem_cons_self))
    exact hs _ _ (ih fun z hz => hv z (List.mem_append.mpr (.inl hz))) (by omega)
def reachL (many : Nat) (ms : List Mv) (p : Int) : List Int := (ids many).filter fun q => decide ([q] ∈ keysG (gf many ms [p]))
theorem gf_ones {many : Nat} {ms : List Mv} (G : GoodAll many ms) {p : Int} (p0 : 0 ≤ p) (p1 : p < (many : Int)) : ∀ g ∈ gf many ms [p], ∃ x, g.1 = [x] ∧ 0 ≤ x ∧ x < (many : Int) :=
  bfsN_all (F := fun g => ∃ x, g.1 = [x] ∧ 0 ≤ x ∧ x < (many : Int)) ⟨p, rfl, p0, p1⟩ (fun g k h hk => by
    obtain ⟨x, e, a, b⟩ := h
    refine ⟨goK (rowM ms k) x, ?_, goK_in' (rowM_good G hk) a b⟩
    show ledG many (rowM ms k) g.1 = _
    rw [e, ledG_one (rowM_good G hk) a b]) 64
theorem mem_reachL {many : Nat} {ms : List Mv} (G : GoodAll many ms) (m6 : many ≤ 6) {p q : Int} (p0 : 0 ≤ p) (p1 : p < (many : Int)) : q ∈ reachL many ms p ↔ Rch ms p q := by
  unfold reachL
  rw [List.mem_filter, decide_eq_true_iff]
  constructor
  · rintro ⟨_, h⟩
    obtain ⟨g, hg, e⟩ := List.mem_map.mp h
    obtain ⟨h1, h2⟩ := gf_row g hg
    refine ⟨g.2, h2, ?_⟩
    rw [runG_one G p0 p1 h2, e] at h1
    injection h1
  · intro h
    refine ⟨mem_ids.mpr (h.in G p0 p1), ?_⟩
    obtain ⟨r, h1, rfl⟩ := h
    rw [← runG_one G p0 p1 h1]
    exact gf_run (good_one p0 p1) m6 h1
theorem reachL_rise (many : Nat) (ms : List Mv) (p : Int) : (reachL many ms p).Pairwise (· < ·) := List.Pairwise.filter _ (ids_pair many)
theorem reachL_in {many : Nat} {ms : List Mv} {p q : Int} (h : q ∈ reachL many ms p) : 0 ≤ q ∧ q < (many : Int) := mem_ids.mp (List.mem_filter.mp h).1
theorem reachL_self {many : Nat} {ms : List Mv} (G : GoodAll many ms) (m6 : many ≤ 6) {p : Int} (p0 : 0 ≤ p) (p1 : p < (many : Int)) : p ∈ reachL many ms p := (mem_reachL G m6 p0 p1).mpr (Rch.refl ms p)
theorem sorted_rise {xs ns : List Int} (hp : xs.Perm ns) (hs : xs.Pairwise (· ≤ ·)) (hn : ns.Nodup) : xs.Pairwise (· < ·) := by
  have nd : xs.Nodup := hp.nodup_iff.mpr hn
  refine List.Pairwise.imp₂ (R := (· ≤ ·)) (S := (· ≠ ·)) (fun a b h1 h2 => ?_) hs nd
  have h2' : a ≠ b := h2
  have h1' : a ≤ b := h1
  show a < b
  omega
/-! ### closed groups -/
def clK (many : Nat) (ms : List Mv) (p : Int) : Bool := decide ((reachL many ms p).getD 0 0 = p) && (reachL many ms p).all fun x => decide (reachL many ms x = reachL many ms p)
def closedL (many : Nat) (ms : List Mv) : List (List Int) := ((ids many).filter (clK many ms)).map (reachL many ms)
section
variable {P : Program} {w : World} {K : PySem.W.Frag} {mg : Str → Option Value} {base : Heap} {C : Addr}
abbrev LstOf (H : Hp) : V → List Int → Prop := fun v xs => ∃ a, v = V.ref a ∧ H a = some (.lst (xs.map V.int))
def ListsAt (H : Hp) (L : Addr) (xss : List (List Int)) : Prop := ∃ vs, H L = some (.lst vs) ∧ Paired (LstOf H) vs xss
theorem ListsAt.same {H H' : Hp} {L : Addr} {xss : List (List Int)} (s : Same H H') (h : ListsAt H L xss) : ListsAt H' L xss := by
  obtain ⟨vs, e, p⟩ := h
  exact ⟨vs, s _ _ e, L2.Paired.mapP p fun v xs ⟨a, h1, h2⟩ => ⟨a, h1, s _ _ h2⟩⟩
/-- lists at F, none of them F -/
def ListsIn (H : Hp) (F : Addr) (xss : List (List Int)) : Prop := ∃ vs, H F = some (.lst vs) ∧ Paired (fun v xs => ∃ a, v = V.ref a ∧ a ≠ F ∧ H a = some (.lst (xs.map V.int))) vs xss
theorem ListsIn.same {H H' : Hp} {L : Addr} {xss : List (List Int)} (s : Same H H') (h : ListsIn H L xss) : ListsIn H' L xss := by
  obtain ⟨vs, e, p⟩ := h
  exact ⟨vs, s _ _ e, L2.Paired.mapP p fun v xs ⟨a, h1, h2, h3⟩ => ⟨a, h1, h2, s _ _ h3⟩⟩
theorem ListsIn.at {H : Hp} {L : Addr} {xss : List (List Int)} (h : ListsIn H L xss) : ListsAt H L xss := by
  obtain ⟨vs, e, p⟩ := h
  exact ⟨vs, e, L2.Paired.mapP p fun v xs ⟨a, h1, h2, h3⟩ => ⟨a, h1, h3⟩⟩
theorem dp_lists {K : PySem.W.Frag} {H : Hp} : ∀ {vs : List V} {xss : List (List Int)}, Paired (LstOf H) vs xss → DpAll K H vs (xss.map fun xs => .list (xs.map PyData.int))
  | _, _, .nil => .nil
  | _, _, .cons ⟨a, e, h⟩ t => .cons (by rw [e]; exact dp_lst h) (dp_lists t)
def lsD (xss : List (List Int)) : PyData := .list (xss.map fun xs => .list (xs.map PyData.int))
theorem Sh.lists (xss : List (List Int)) : Sh 2 (lsD xss) := Sh.list fun d hd => by
  obtain ⟨xs, _, rfl⟩ := List.mem_map.mp hd
  exact Sh.list (Sh.ints xs)
theorem ListsAt.dp {K : PySem.W.Frag} {H : Hp} {L : Addr} {xss : List (List Int)} (h : ListsAt H L xss) : Dp K H (.ref L) (lsD xss) := by
  obtain ⟨vs, e, p⟩ := h
  exact .lst (SqL.of e) (dp_lists p)
theorem Sh.lst (xs : List Int) : Sh 1 (.list (xs.map PyData.int)) := Sh.list (Sh.ints xs)
theorem eqv_lst (xs ys : List Int) : PyData.eqv (.list (xs.map PyData.int)) (.list (ys.map PyData.int)) = decide (xs = ys) := by
  simp only [PyData.eqv]
  exact PySem.W.ked_eqvAll xs ys
theorem any_lsts (g : List Int) : ∀ xss : List (List Int), ((xss.map fun xs => PyData.list (xs.map PyData.int)).any fun z => PyData.eqv z (.list (g.map PyData.int))) = decide (g ∈ xss)
  | [] => by rw [decide_eq_false (by simp)]; rfl
  | x :: xss => by
    rw [List.map_cons, List.any_cons, eqv_lst, any_lsts g xss]
    by_cases c : x = g
    · subst c
      rw [decide_eq_true rfl, decide_eq_true List.mem_cons_self]
      rfl
    · rw [decide_eq_false c, Bool.false_or]
      exact decide_eq_decide.mpr ⟨fun h => List.mem_cons_of_mem _ h, fun h => (List.mem_cons.mp h).resolve_left (Ne.symm c)⟩
end
section
variable {P : Program} {w : World} {K : PySem.W.Frag} {mg : Str → Option Value} {base : Heap} {C : Addr}
/-! ### _reached -/
theorem scRe : FnScope ["moves", "begin", "group"] ["moves", "begin"] (defScope sReached) := ⟨rfl, rfl, rfl, by decide +kernel, rfl, by decide +kernel, by decide +kernel⟩
def spRe : Sp := fun vs H Q _ => ∃ (m : Addr) (many : Nat) (ws : List V) (ms : List Mv) (p : Int), vs = [.ref m, .int p] ∧ H m = some (.lst ws) ∧ MovesAt H ws ms ∧ GoodAll many ms ∧ ms.length ≤ 8 ∧ many ≤ 6 ∧ 0 ≤ p ∧ p < (many : Int) ∧
  ∀ L H', Same H H' → H L = none → H' L = some (.lst ((reachL many ms p).map V.int)) → Q (.ref L) H'
theorem ok_reached {f fG fL : Addr} {fd fdG fdL : FuncData} (F : Fun K "_reached" "_reached" sReached f fd) (DG : Df K mg "groups_from" sGroupsFrom ["moves", "begin"] fG fdG) (DL : Df K mg "led_to" sLedTo ["whither", "group"] fL fdL) (ml : mg "len" = none) (mE : mg "enumerate" = none) (mt : mg "tuple" = none) (ms' : mg "sorted" = none) : FnOk P w K mg base CX0 3 f fd ["moves", "begin"] spRe := by
  have GG : FnOk P w K mg base CX0 2 fG fdG ["moves", "begin"] spGf := ok_gf DG.F DL ml mE mt ms'
  refine F.ok scRe (fun vs H Q E h => ?_) (fun cdv A outer s H vs Q E hr h => ?_)
  · obtain ⟨m, many, ws, ms, p, rfl, _⟩ := h
    rfl
  · obtain ⟨m, many, ws, ms, p, rfl, hm, hM, G, l8, m6, p0, p1, q⟩ := h
    refine ⟨_, pss_one (ps_ret (pe_callB cr_sortedI (by rfl) ms' (by decide +kernel) (pa_cons
      (pe_lc (own := [("group", 2)]) (g := gName 2) (tt := tYes) (te := tOp (rIxT K) (tVar 2) (tC (.int 0))) rfl scRe.nd (pi_keys (pe_frz (pe_call GG hr (by rfl) DG.g DG.F.kp DG.b .nil pass0 (pa_cons (pv 0) (pa_cons (pe_tup (pa_cons (pv 1) pa_nil)) pa_nil))))) (blkOk_by (N := ["moves", "begin", "group"]) (sc := defScope sReached) (by decide +kernel))
        (fun _ _ _ _ _ => pg_name (i := 2) scRe.nd rfl (.inl rfl)) (fun _ _ _ _ _ => pts_nil) (fun _ _ _ _ _ => by exact (pe_ix ix_tup (pv 2) pe_int (fun _ _ => rfl)))) pa_nil))), ?_⟩
    refine ⟨.ref m, rfl, .int p, rfl, (by show 1 ≤ sizeLine; decide), fun t nt => ?_⟩
    have s1 := same_new (o := .tup [.int p]) nt
    refine ⟨m, t, many, ws, ms, [p], rfl, s1 _ _ hm, hM.same (Same.tups s1), G, l8, m6, upd_same, good_one p0 p1, fun D H1 s2 nD ⟨kvs, hD, pk⟩ => ?_⟩
    have s12 := s1.trans s2
    refine ⟨D, .dT kvs, rfl, hD, True.intro, fun od => ⟨D, od, rfl, .inr ⟨kvs, upd_same, ?_⟩⟩⟩
    have lenK : kvs.length = (gf many ms [p]).length := pk.length
    have ones := gf_ones G p0 p1
    have l64 := gf_len (ms := ms) (good_one p0 p1) m6
    have s3 : Same H (upd H1 D (.frz od (.dT kvs))) := Same.put s12 (s1.free nD)
    refine fun E' nE => lc_it walk_keysT (fun i H' => Same (upd H1 D (.frz od (.dT kvs))) H' ∧ H' E' = some (.lst ((((gf many ms [p]).map fun g => g.1.getD 0 0).take i).map V.int))) ⟨same_new nE, by rw [List.take_zero]; exact upd_same⟩ (fun i H' _ h => h.1 _ _ upd_same) ?_ ?_
    · rintro i x H2' H2 hi ⟨s4, hE⟩ ⟨rfl, k, v, qa, ekv, rfl, hqa⟩
      obtain ⟨g, eg, ek, _⟩ : ∃ g : GR, (gf many ms [p])[i]? = some g ∧ k = g.1.map Sum.inl ∧ True := by
        have : ∀ {kvs : List (List Key × V)} {l : List GR} {i : Nat} {kv : List Key × V}, Paired (KvAt H1) kvs l → kvs[i]? = some kv → ∃ g : GR, l[i]? = some g ∧ kv.1 = g.1.map Sum.inl := by
          intro kvs l i kv h
          induction h generalizing i with
          | nil => intro e; simp at e
          | @cons a b as bs hab t ih =>
            intro e
            cases i with
            | zero =>
              simp at e
              subst e
              exact ⟨b, rfl, hab.1⟩
            | succ i => simpa using ih (by simpa using e)
        obtain ⟨g, e1, e2⟩ := this pk ekv
        exact ⟨g, e1, e2, trivial⟩
      obtain ⟨y, ey, _⟩ := ones g (List.mem_of_getElem? eg)
      have hq2 : H2 qa = some (.tup [.int y]) := by
        rw [hqa, ek, key_ints, ey]
        rfl
      refine ⟨rfl, .ref qa, rfl, qa, _, 0, _, rfl, rfl, SqT.of hq2, atI_nat (j := 0) rfl, _, hE, ?_, fun b u eb => by rw [upd_ne (ne_of_none eb nE)]; exact s4 _ _ eb, ?_⟩
      · rw [List.length_map, List.length_take, List.length_map]
        exact lt1k (Nat.le_trans (Nat.min_le_right _ _) (by omega))
      · have ei : ((gf many ms [p]).map fun g => g.1.getD 0 0)[i]? = some y := by
          rw [List.getElem?_map, eg]
          show some (g.1.getD 0 0) = some y
          rw [ey]
          rfl
        rw [upd_same, take_snoc ei, List.map_append]
        rfl
    · rintro H2 ⟨s4, hE⟩
      rw [List.take_of_length_le (by rw [List.length_map, lenK]; exact Nat.le_refl _)] at hE
      refine ⟨E', _, rfl, SqL.of hE, fun ns' L hp hs nL => ?_⟩
      have nd : ((gf many ms [p]).map fun g => g.1.getD 0 0).Nodup := by
        have h1 : (keysG (gf many ms [p])).Nodup := bfsN_nodup many ms [p] 64
        have : ∀ {l : List GR}, (∀ g ∈ l, ∃ x, g.1 = [x] ∧ 0 ≤ x ∧ x < (many : Int)) → (keysG l).Nodup → (l.map fun g => g.1.getD 0 0).Nodup := by
          intro l
          induction l with
          | nil => intro _ _; exact List.nodup_nil
          | cons g l ih =>
            intro h hn
            obtain ⟨n1, n2⟩ := List.nodup_cons.mp (show (g.1 :: keysG l).Nodup from hn)
            refine List.nodup_cons.mpr ⟨fun hm => ?_, ih (fun z hz => h z (List.mem_cons_of_mem _ hz)) n2⟩
            obtain ⟨g', hg', e⟩ := List.mem_map.mp hm
            obtain ⟨x, ex, _⟩ := h g List.mem_cons_self
            obtain ⟨x', ex', _⟩ := h g' (List.mem_cons_of_mem _ hg')
            have e1 : g'.1.getD 0 0 = g.1.getD 0 0 := e
            rw [ex, ex'] at e1
            have exx : x' = x := e1
            subst exx
            exact n1 (List.mem_map.mpr ⟨g', hg', by rw [ex, ex']⟩)
        exact this ones h1
      have e : ns' = reachL many ms p := by
        refine rise_same (sorted_rise hp hs nd) (reachL_rise many ms p) fun k => ?_
        rw [hp.mem_iff, List.mem_map]
        unfold reachL
        rw [List.mem_filter, decide_eq_true_iff]
        constructor
        · rintro ⟨g, hg, rfl⟩
          obtain ⟨x, ex, x0, x1⟩ := ones g hg
          rw [ex]
          exact ⟨mem_ids.mpr ⟨x0, x1⟩, List.mem_map.mpr ⟨g, hg, ex⟩⟩
        · rintro ⟨_, h⟩
          obtain ⟨g, hg, eg⟩ := List.mem_map.mp h
          exact ⟨g, hg, by rw [eg]; rfl⟩
      rw [e]
      have s5 := s3.trans s4
      exact q L _ (s5.trans (same_new nL)) (s5.free nL) upd_same
/-! ### _is_closed -/
theorem scIc : FnScope ["reached", "group"] ["reached", "group"] (defScope sIsClosed) := ⟨rfl, rfl, rfl, by decide +kernel, rfl, by decide +kernel, by decide +kernel⟩
/-- a list of lists of ints at R: its item n is the row of n -/
def RowsAt (H : Hp) (R : Addr) (many : Nat) (row : Int → List Int) : Prop := ∃ as : List Addr, as.length = many ∧ H R = some (.lst (as.map V.ref)) ∧ ∀ n : Nat, n < many → ∃ L, as[n]? = some L ∧ H L = some (.lst ((row (n : Int)).map V.int))
theorem RowsAt.same {H H' : Hp} {R : Addr} {many : Nat} {row : Int → List Int} (s : ∀ b o, (∀ ps, o ≠ .tbl ps) → H b = some o → H' b = some o) (h : RowsAt H R many row) : RowsAt H' R many row := by
  obtain ⟨as, l, e, a⟩ := h
  refine ⟨as, l, s _ _ (fun _ z => nomatch z) e, fun n hn => ?_⟩
  obtain ⟨L, e1, e2⟩ := a n hn
  exact ⟨L, e1, s _ _ (fun _ z => nomatch z) e2⟩
def spIc (T : Addr) : Sp := fun vs H Q _ => ∃ (R Ga : Addr) (many : Nat) (row : Int → List Int) (gs : List Int), vs = [.ref R, .ref Ga] ∧ RowsAt H R many row ∧ many ≤ 6 ∧ H Ga = some (.lst (gs.map V.int)) ∧ (∀ x ∈ gs, 0 ≤ x ∧ x < (many : Int)) ∧ GxR.TabG H T ∧
  ∀ H', Gr T H H' → GxR.TabG H' T → Q (.bl (gs.all fun x => decide (row x = gs))) H'
theorem genS_closed {L f : Addr} {cdv : Value} {scope : Scope} (hs : scope.names = [((".0" : Str), .local), (("place" : Str), .local), (("group" : Str), .free), (("reached" : Str), .free)]) (hk : scope.kind = .function) (hc : scope.isCoroutine = false)
    (h1 : (envOfC "_is_closed" (defScope sIsClosed) L f cdv).cells.lookup ("reached" : Str) ≠ none) (h2 : (envOfC "_is_closed" (defScope sIsClosed) L f cdv).cells.lookup ("group" : Str) ≠ none) :
    GxR.GenS (envOfC "_is_closed" (defScope sIsClosed) L f cdv) scope "place" := by
  refine ⟨hk, hc, ?_, ?_, ?_, ?_⟩
  · rw [hs]
    decide +kernel
  · rw [hs]
    decide +kernel
  · rw [hs]
    decide +kernel
  · intro y hy hf
    rw [hs] at hy
    have e : y.1 = ("group" : Str) ∨ y.1 = ("reached" : Str) := by
      rcases List.mem_cons.mp hy with e | hy
      · rw [e] at hf
        cases hf
      rcases List.mem_cons.mp hy with e | hy
      · rw [e] at hf
        cases hf
      rcases List.mem_cons.mp hy with e | hy
      · rw [e]
        exact .inl rfl
      rcases List.mem_cons.mp hy with e | hy
      · rw [e]
        exact .inr rfl
      · cases hy
    rcases e with e | e
    · rw [e]
      cases q : (envOfC "_is_closed" (defScope sIsClosed) L f cdv).cells.lookup ("group" : Str) with
      | none => exact absurd q h2
      | some c => exact ⟨c, rfl⟩
    · rw [e]
      cases q : (envOfC "_is_closed" (defScope sIsClosed) L f cdv).cells.lookup ("reached" : Str) with
      | none => exact absurd q h1
      | some c => exact ⟨c, rfl⟩
theorem ok_isclosed {f cI tI : Addr} {fd : FuncData} (F : FunT K "_is_closed" "_is_closed" sIsClosed f fd cI) (TB : GxR.TabB base mg cI tI) (ma : mg "all" = none) : FnOk P w K mg base CX0 1 f fd ["reached", "group"] (spIc tI) := by
  obtain ⟨oc, od, kV, doc, pm, an, ct, osl, efd, lk, hcd⟩ := F.ex
  subst efd
  refine fn_of (N := ["reached", "group"]) lk hcd scIc (fun vs H Q E h => ?_) (fun A outer s H vs Q E hr h => ?_)
  · obtain ⟨R, Ga, many, row, gs, rfl, _⟩ := h
    rfl
  · obtain ⟨R, Ga, many, row, gs, rfl, ⟨as, la, hR, hrow⟩, m6, hG, hgs, hTab, q⟩ := h
    refine ⟨_, pss_one (ps_ret (pe_allQ (k := 0) (x := "place") (r := "reached") (g := "group") (ir := 0) (ig := 1) hr (by rfl) ma TB rfl (genS_closed (by rfl) rfl rfl ?c1 ?c2) (pv 1) rfl rfl (by decide +kernel) (by decide +kernel) rfl rfl (by decide +kernel) (by decide +kernel) (by decide) (by decide) (by decide) (by decide) (by decide) (fun _ => rfl) (by rfl))), ?_⟩
    case c1 =>
      intro z
      have q : ((envOfC "_is_closed" (defScope sIsClosed) s.heap.objs.size f (.ref cI)).cells.lookup ("reached" : Str)).isSome = true := PySem.W.cellsFrom_some _ _ _ (.inl (by decide +kernel))
      rw [z] at q
      cases q
    case c2 =>
      intro z
      have q : ((envOfC "_is_closed" (defScope sIsClosed) s.heap.objs.size f (.ref cI)).cells.lookup ("group" : Str)).isSome = true := PySem.W.cellsFrom_some _ _ _ (.inl (by decide +kernel))
      rw [z] at q
      cases q
    refine ⟨.ref Ga, rfl, Ga, gs, gs, row, rfl, SqL.of hG, hTab, ⟨R, Ga, as.map V.ref, rfl, rfl, SqL.of hR, SqL.of hG, fun n hn => ?_⟩, fun H2 ⟨t2, k2⟩ => q H2 (fun x o nx ex => by rw [k2 x nx]; exact ex) t2⟩
    obtain ⟨n0, n1⟩ := hgs n hn
    obtain ⟨L, e1, e2⟩ := hrow n.toNat (by omega)
    rw [show ((n.toNat : Nat) : Int) = n by omega] at e2
    exact ⟨n0, by omega, L, by rw [List.getElem?_map, e1]; rfl, SqL.of e2⟩
/-! ### closed -/
theorem scCl : FnScope ["chain", "moves", "reached", "place", "group"] ["chain"] (defScope sClosed) := ⟨rfl, rfl, rfl, by decide +kernel, rfl, by decide +kernel, by decide +kernel⟩
def spCl (C T : Addr) : Sp := fun vs H Q _ => ∃ (x : Addr) (many : Nat) (ms : List Mv), vs = [.ref x] ∧ ChainAt C H x many ms ∧ Good many ms ∧ GxR.TabG H T ∧ ∀ L H', Gr T H H' → GxR.TabG H' T → H L = none → ListsAt H' L (closedL many ms) → Q (.ref L) H'
theorem ok_closed {f fR fI fG fL fP fT cI tI : Addr} {fd fdR fdI fdG fdL fdP fdT : FuncData} (F : Fun K "closed" "closed" sClosed f fd) (DR : Df K mg "_reached" sReached ["moves", "begin"] fR fdR) (DI : Df K mg "_is_closed" sIsClosed ["reached", "group"] fI fdI) (FI : FunT K "_is_closed" "_is_closed" sIsClosed fI fdI cI) (TI : GxR.TabB base mg cI tI)
    (DG : Df K mg "groups_from" sGroupsFrom ["moves", "begin"] fG fdG) (DL : Df K mg "led_to" sLedTo ["whither", "group"] fL fdL) (T : ChM K C fP fT fdP fdT) (mr : mg "range" = none) (ml : mg "len" = none) (mE : mg "enumerate" = none) (mt : mg "tuple" = none) (ms' : mg "sorted" = none) (ma : mg "all" = none) (mL : mg "list" = none) :
    FnOk P w K mg base CX0 4 f fd ["chain"] (spCl C tI) := by
  have GR : FnOk P w K mg base CX0 3 fR fdR ["moves", "begin"] spRe := ok_reached DR.F DG DL ml mE mt ms'
  have GI : FnOk P w K mg base CX0 1 fI fdI ["reached", "group"] (spIc tI) := ok_isclosed FI TI ma
  have GT : FnOk P w K mg base CX0 1 fT fdT ["self"] (spTold C) := ok_told T.FT T.cl T.nV mL
  have GP : FnOk P w K mg base CX0 1 fP fdP ["self"] (spPlaces C) := ok_places T.FP T.cl T.nM
  refine F.ok scCl (fun vs H Q E h => ?_) (fun cdv A outer s H vs Q E hr h => ?_)
  · obtain ⟨x, many, ms, rfl, _⟩ := h
    rfl
  · obtain ⟨x, many, ms, rfl, hC, G, hTab, q⟩ := h
    have r1 : Room 1 _ := hr.mono (by decide)
    refine ⟨_, (pss_cons (ps_set (i := 1) scCl.nd rfl (.inr rfl) (pe_meth0 (pv 0) T.cl T.hT GT r1 T.bT .nil pass0))
      (pss_cons (ps_set (i := 2) scCl.nd rfl (.inr rfl) (pe_lc (own := [("place", 3)]) (g := gName 3) (tt := tYes) (te := (tCall spRe [] E0 (tCons (tVar 1) (tCons (tVar 3) tNil)))) rfl scCl.nd (pi_range1 (by rfl) mr (pa_cons (pe_meth0 (pv 0) T.cl T.hP GP r1 T.bP .nil pass0) pa_nil)) (blkOk_by (N := ["chain", "moves", "reached", "place", "group"]) (sc := defScope sClosed) (by decide +kernel)) (fun _ _ _ _ _ => by exact (pg_name (i := 3) scCl.nd rfl (.inl rfl))) (fun _ _ _ _ _ => pts_nil) (fun _ _ _ _ _ => by exact (pe_call GR hr (by rfl) DR.g DR.F.kp DR.b .nil pass0 (pa_cons (pv 1) (pa_cons (pv 3) pa_nil))))))
      (pss_one (ps_ret (pe_lc (own := [("place", 3), ("group", 4)]) (g := gTup K 2 (gCons (gName 3) (gCons (gName 4) gNil))) (tt := (tAnd (tTest (tOp rEq (tOp (rIxL K) (tVar 4) (tC (.int 0))) (tVar 3))) (tB (tCall (spIc tI) [] E0 (tCons (tVar 2) (tCons (tVar 4) tNil)))))) (te := (tVar 4)) rfl scCl.nd (pi_enum (by rfl) mE (pa_cons (pv 2) pa_nil)) (blkOk_by (N := ["chain", "moves", "reached", "place", "group"]) (sc := defScope sClosed) (by decide +kernel)) (fun _ _ _ _ _ => by exact ((pg_tup rfl (pgs_cons (pg_name (i := 3) scCl.nd rfl (.inl rfl)) (pgs_cons (pg_name (i := 4) scCl.nd rfl (.inl rfl)) pgs_nil))))) (fun _ _ _ _ _ => by exact (pts_one (PW.pt (pw_and (pt_cmpR op_eq (pe_ix ix_list (pv 4) pe_int (fun _ _ => rfl)) (pv 3) (nomark _)) (pw_and1 (pt_val (pe_call GI r1 (by rfl) DI.g DI.F.kp DI.b .nil pass0 (pa_cons (pv 2) (pa_cons (pv 4) pa_nil))))))))) (fun _ _ _ _ _ => by exact (pv 4))))))), ?_⟩
    have m1 := G.m1
    have m6 := G.m6
    have l8 := G.l8
    have GA : GoodAll many ms := G.mv
    obtain ⟨dx, a0, ws0, h1, h2, h3⟩ := id hC
    refine ⟨.ref x, rfl, x, dx, _, rfl, h1, ch_noT, x, many, ms, rfl, hC, fun m ws nm hM => ?_⟩
    have s1 := same_new (o := .lst ws) nm
    have hm : (upd H m (.lst ws)) m = some (.lst ws) := upd_same
    have hC1 := hC.same s1
    generalize upd H m (.lst ws) = H1 at s1 hm hM hC1 ⊢
    obtain ⟨dx, a0, ws0, h1, h2, h3⟩ := id hC1
    -- reached
    refine ⟨.ref x, rfl, x, dx, _, rfl, h1, ch_no, x, many, ms, rfl, hC1, _, rfl, by omega, by omega, fun R nR => ?_⟩
    refine lc_range (lo := 0) (n := ((many : Nat) : Int).toNat) (fun i H' => Same H1 H' ∧ ∃ as : List Addr, as.length = i ∧ H' R = some (.lst (as.map V.ref)) ∧ ∀ n : Nat, n < i → ∃ L, as[n]? = some L ∧ H' L = some (.lst ((reachL many ms (n : Int)).map V.int)))
      ⟨same_new nR, [], rfl, upd_same, fun n h => absurd h (Nat.not_lt_zero _)⟩ ?_ ?_
    · rintro i H2 hi ⟨s2, as, la, hR, hrow⟩
      refine ⟨rfl, .ref m, rfl, _, rfl, m, many, ws, ms, (0 + (i : Int)), rfl, s2 _ _ hm, hM.same (Same.tups s2), GA, l8, m6, by omega, by omega, fun L H3 s3 nL hL => ?_⟩
      have hR3 := s3 _ _ hR
      refine ⟨_, hR3, by rw [List.length_map, la]; exact small8 (by omega), fun b o e => by rw [upd_ne (ne_of_none e nR)]; exact s3 _ _ (s2 _ _ e), as ++ [L], by rw [List.length_append, la]; rfl, by rw [upd_same, List.map_append]; rfl, fun n hn => ?_⟩
      by_cases c : n < i
      · obtain ⟨L', e1, e2⟩ := hrow n c
        refine ⟨L', by rw [List.getElem?_append_left (by omega)]; exact e1, ?_⟩
        rw [upd_ne]
        · exact s3 _ _ e2
        · intro z
          rw [z, hR] at e2
          injection e2 with e2
          injection e2 with e2
          cases as with
          | nil =>
            simp at la
            omega
          | cons a r =>
            cases hh : reachL many ms (n : Int) with
            | nil => rw [hh] at e2; cases e2
            | cons y ys => rw [hh] at e2; cases e2
      · have en : n = i := by omega
        subst en
        refine ⟨L, by rw [List.getElem?_append_right (by omega), la, Nat.sub_self]; rfl, ?_⟩
        rw [upd_ne (ne_of_none hR nL).symm, show (n : Int) = 0 + (n : Int) by omega]
        exact hL
    · rintro H2 ⟨s2, as, la, hR, hrow⟩
      rw [Int.toNat_natCast] at la hrow
      have s12 := s1.trans s2
      have rowsR : RowsAt H2 R many (reachL many ms) := ⟨as, la, hR, hrow⟩
      have neT : ∀ {H' : Hp} {p : Addr}, GxR.TabG H' tI → H' p = none → p ≠ tI := fun t n z => by
        obtain ⟨ps, e, _⟩ := t
        rw [z, e] at n
        cases n
      have hTab2 := tab_same s12 hTab
      refine ⟨.ref R, rfl, R, _, rfl, SqL.of hR, fun D nD => ?_⟩
      have nDT := neT hTab2 nD
      refine lc_it walk_enum (fun i H' => Gr tI H2 H' ∧ GxR.TabG H' tI ∧ ∃ vs, H' D = some (.lst vs) ∧ Paired (LstOf H2) vs ((((ids many).take i).filter (clK many ms)).map (reachL many ms)))
        ⟨Gr.of_same (same_new nD), tab_same (same_new nD) hTab2, [], upd_same, .nil⟩ (fun i H' _ h => SqL.of (h.1.tab hTab2 (fun _ z => nomatch z) hR)) ?_ ?_
      · rintro i z H3 H4 hi ⟨g3, t3, vs, hD, hp⟩ ⟨Tp, u, v, rfl, nT, rfl, eu, ev⟩
        have eu' : u = .int (i : Int) := (Option.some.inj eu).symm
        subst eu'
        have him : i < many := by
          rw [List.length_map, la] at hi
          exact hi
        obtain ⟨L, eL, hL⟩ := hrow i him
        have evL : v = .ref L := by
          have ev' : (as.map V.ref)[i]? = some v := ev
          rw [List.getElem?_map, eL] at ev'
          exact (Option.some.inj ev').symm
        subst evL
        have g4 : Gr tI H2 (upd H3 Tp (.tup [.int (i : Int), .ref L])) := g3.new nT
        have t4 : GxR.TabG (upd H3 Tp (.tup [.int (i : Int), .ref L])) tI := tab_same (same_new nT) t3
        have hL4 : (upd H3 Tp (.tup [.int (i : Int), .ref L])) L = some (.lst ((reachL many ms (i : Int)).map V.int)) := g4.tab hTab2 (fun _ z => nomatch z) hL
        have rows4 := rowsR.same fun b o n e => g4.tab hTab2 n e
        have eid : (ids many)[i]? = some (i : Int) := by
          unfold ids
          rw [List.getElem?_map, List.getElem?_range him]
          rfl
        have rin := fun y (hy : y ∈ reachL many ms (i : Int)) => reachL_in hy
        have self := reachL_self GA m6 (p := (i : Int)) (by omega) (by omega)
        obtain ⟨y0, r0, er0⟩ : ∃ y0 r0, reachL many ms (i : Int) = y0 :: r0 := by
          cases hh : reachL many ms (i : Int) with
          | nil => rw [hh] at self; cases self
          | cons y r => exact ⟨y, r, rfl⟩
        refine ⟨Tp, [.int (i : Int), .ref L], rfl, SqT.of upd_same, rfl, .int (i : Int), [.ref L], rfl, .ref L, [], rfl, rfl, rfl, ?_⟩
        have hD4 : (upd H3 Tp (.tup [.int (i : Int), .ref L])) D = some (.lst vs) := same_new nT _ _ hD
        have tk := filter_snoc (F := clK many ms) eid
        refine ⟨.ref L, rfl, L, _, 0, .int y0, rfl, rfl, SqL.of hL4, atI_nat (j := 0) (by rw [er0]; rfl), .int (i : Int), rfl, rfl, ?_⟩
        have g0 : (reachL many ms (i : Int)).getD 0 0 = y0 := by rw [er0]; rfl
        have clI : clK many ms (i : Int) = (decide (y0 = (i : Int)) && (reachL many ms (i : Int)).all fun x => decide (reachL many ms x = reachL many ms (i : Int))) := by
          unfold clK
          rw [g0]
        have skip : ∀ {H5 : Hp}, Gr tI (upd H3 Tp (.tup [.int (i : Int), .ref L])) H5 → GxR.TabG H5 tI → clK many ms (i : Int) = false → Gr tI H2 H5 ∧ GxR.TabG H5 tI ∧ ∃ vs, H5 D = some (.lst vs) ∧ Paired (LstOf H2) vs ((((ids many).take (i + 1)).filter (clK many ms)).map (reachL many ms)) := by
          intro H5 g5 t5 hk
          rw [tk, hk]
          exact ⟨g4.trans g5, t5, vs, g5.tab t4 (fun _ z => nomatch z) hD4, by simpa using hp⟩
        by_cases c0 : y0 = (i : Int)
        · -- _is_closed(reached, group)
          refine ⟨decide (V.int y0 = V.int (i : Int)), rfl, ?_⟩
          rw [decide_eq_true (show V.int y0 = V.int (i : Int) by rw [c0])]
          refine iteT ?_
          refine ⟨.ref R, rfl, .ref L, rfl, R, L, many, reachL many ms, _, rfl, rows4, m6, hL4, rin, t4, fun H5 g5 t5 => ⟨_, rfl, ?_⟩⟩
          cases hk : (reachL many ms (i : Int)).all fun x => decide (reachL many ms x = reachL many ms (i : Int)) with
          | true =>
            refine iteT ?_
            have ck : clK many ms (i : Int) = true := by
              rw [clI, hk, decide_eq_true c0]
              rfl
            have k1 : H5 D = some (.lst vs) := g5.tab t4 (fun _ z => nomatch z) hD4
            have lenV : vs.length ≤ 6 := by
              have h1 := hp.length
              rw [h1, List.length_map]
              have h2 := List.length_filter_le (clK many ms) ((ids many).take i)
              rw [List.length_take] at h2
              omega
            refine ⟨.ref L, rfl, vs, k1, lt1k (by omega), (g4.trans g5).put nD, ?_, vs ++ [.ref L], upd_same, ?_⟩
            · obtain ⟨ps, e, t⟩ := t5
              exact ⟨ps, by rw [upd_ne (Ne.symm nDT)]; exact e, t⟩
            · rw [tk, ck, if_pos rfl, List.map_append]
              exact paired_end (F := LstOf H2) ⟨L, rfl, hL⟩ hp
          | false =>
            refine iteF ?_
            exact skip g5 t5 (by rw [clI, hk, Bool.and_false])
        · refine ⟨decide (V.int y0 = V.int (i : Int)), rfl, ?_⟩
          rw [decide_eq_false (fun z => c0 (V.int.inj z))]
          refine iteF (iteF ?_)
          exact skip (Gr.refl _ _) t4 (by rw [clI, decide_eq_false c0, Bool.false_and])
      · rintro H3 ⟨g3, t3, vs, hD, hp⟩
        have lid : (ids many).length = many := by
          unfold ids
          rw [List.length_map, List.length_range]
        rw [List.length_map, la, List.take_of_length_le (by rw [lid]; exact Nat.le_refl _)] at hp
        exact q D H3 ((Gr.of_same s12).trans g3) t3 (s12.free nD) ⟨vs, hD, L2.Paired.mapP hp fun v xs ⟨a, h1, h2⟩ => ⟨a, h1, g3.tab hTab2 (fun _ z => nomatch z) h2⟩⟩
end
/-! ### what the law reckons: reached places by turns, closed groups place by place -/
def moreK (ms : List Mv) (xs : List Int) : Nat → List Int
  | 0 => xs
  | k + 1 => moreK ms xs k ++ xs.map (goK (rowM ms k))
theorem mem_moreK {ms : List Mv} {xs : List Int} {q : Int} : ∀ {k}, q ∈ moreK ms xs k ↔ q ∈ xs ∨ ∃ n, n < k ∧ ∃ x ∈ xs, goK (rowM ms n) x = q
  | 0 => ⟨.inl, fun h => h.elim id fun ⟨n, hn, _⟩ => absurd hn (Nat.not_lt_zero _)⟩
  | k + 1 => by
    show q ∈ moreK ms xs k ++ _ ↔ _
    rw [List.mem_append, mem_moreK, List.mem_map]
    constructor
    · rintro ((h | ⟨n, hn, h⟩) | h)
      · exact .inl h
      · exact .inr ⟨n, by omega, h⟩
      · exact .inr ⟨k, by omega, h⟩
    · rintro (h | ⟨n, hn, h⟩)
      · exact .inl (.inl h)
      · by_cases e : n = k
        · subst e
          exact .inr h
        · exact .inl (.inr ⟨n, by omega, h⟩)
theorem moreK_len (ms : List Mv) (xs : List Int) : ∀ k, (moreK ms xs k).length = xs.length * (k + 1)
  | 0 => by show xs.length = _; omega
  | k + 1 => by
    show (moreK ms xs k ++ _).length = _
    rw [List.length_append, moreK_len, List.length_map, Nat.mul_succ xs.length (k + 1)]
def stepL (many : Nat) (ms : List Mv) (xs : List Int) : List Int := (ids many).filter fun q => decide (q ∈ moreK ms xs ms.length)
def reachN (many : Nat) (ms : List Mv) (p : Int) : Nat → List Int
  | 0 => [p]
  | t + 1 => stepL many ms (reachN many ms p t)
theorem stepL_good (many : Nat) (ms : List Mv) (xs : List Int) : goodG many (stepL many ms xs) := ⟨List.Pairwise.filter _ (ids_pair many), fun _ h => mem_ids.mp (List.mem_filter.mp h).1⟩
theorem reachN_good {many : Nat} {ms : List Mv} {p : Int} (p0 : 0 ≤ p) (p1 : p < (many : Int)) : ∀ t, goodG many (reachN many ms p t)
  | 0 => good_one p0 p1
  | t + 1 => stepL_good _ _ _
theorem mem_stepL {many : Nat} {ms : List Mv} (G : GoodAll many ms) {xs : List Int} (hx : goodG many xs) {q : Int} : q ∈ stepL many ms xs ↔ q ∈ xs ∨ ∃ n, n < ms.length ∧ ∃ x ∈ xs, goK (rowM ms n) x = q := by
  unfold stepL
  rw [List.mem_filter, decide_eq_true_iff, mem_moreK]
  constructor
  · exact fun h => h.2
  · intro h
    refine ⟨mem_ids.mpr ?_, h⟩
    rcases h with h | ⟨n, hn, x, h1, rfl⟩
    · exact hx.2 q h
    · exact goK_in' (rowM_good G hn) (hx.2 x h1).1 (hx.2 x h1).2
theorem rise_nodup {xs : List Int} (h : xs.Pairwise (· < ·)) : xs.Nodup := List.Pairwise.imp (fun {a b} (h : a < b) => (by omega : a ≠ b)) h
/-- a rising list within another one is it, or shorter -/
theorem rise_sub {xs ys : List Int} (hx : xs.Pairwise (· < ·)) (hy : ys.Pairwise (· < ·)) (h : ∀ k ∈ xs, k ∈ ys) : xs = ys ∨ xs.length < ys.length := by
  by_cases c : ∀ k ∈ ys, k ∈ xs
  · exact .inl (rise_same hx hy fun k => ⟨h k, c k⟩)
  · refine .inr ?_
    obtain ⟨y, hc⟩ := Classical.not_forall.mp c
    obtain ⟨hy1, hy2⟩ := Classical.not_imp.mp hc
    have := pigeon (l := y :: xs) (m := ys) (List.nodup_cons.mpr ⟨hy2, rise_nodup hx⟩) fun k hk => by
      rcases List.mem_cons.mp hk with e | hk
      · rw [e]; exact hy1
      · exact h k hk
    rw [List.length_cons] at this
    omega
theorem reachN_still {many : Nat} {ms : List Mv} (G : GoodAll many ms) {p : Int} (p0 : 0 ≤ p) (p1 : p < (many : Int)) : ∀ t, t + 1 ≤ (reachN many ms p t).length ∨ reachN many ms p (t + 1) = reachN many ms p t
  | 0 => .inl (Nat.le_refl _)
  | t + 1 => by
    rcases reachN_still G p0 p1 t with h | h
    · have g := reachN_good (ms := ms) p0 p1 t
      rcases rise_sub (xs := reachN many ms p t) (ys := reachN many ms p (t + 1)) g.1 (reachN_good p0 p1 (t + 1)).1 (fun k hk => (mem_stepL G g).mpr (.inl hk)) with e | lt
      · right
        show stepL many ms (reachN many ms p (t + 1)) = stepL many ms (reachN many ms p t)
        rw [← e]
      · left
        omega
    · right
      show stepL many ms (reachN many ms p (t + 1)) = stepL many ms (reachN many ms p t)
      rw [h]
theorem reachN_eq {many : Nat} {ms : List Mv} (G : GoodAll many ms) (m6 : many ≤ 6) {p : Int} (p0 : 0 ≤ p) (p1 : p < (many : Int)) : reachN many ms p many = reachL many ms p := by
  have st : reachN many ms p (many + 1) = reachN many ms p many := by
    rcases reachN_still (ms := ms) G p0 p1 many with h | h
    · have := (reachN_good (ms := ms) p0 p1 many).len
      omega
    · exact h
  have g := reachN_good (ms := ms) p0 p1 many
  have self : ∀ t, p ∈ reachN many ms p t := by
    intro t
    induction t with
    | zero => exact List.mem_singleton_self p
    | succ t ih => exact (mem_stepL G (reachN_good p0 p1 t)).mpr (.inl ih)
  have rch : ∀ t q, q ∈ reachN many ms p t → Rch ms p q := by
    intro t
    induction t with
    | zero =>
      intro q hq
      rw [List.mem_singleton.mp hq]
      exact Rch.refl ms p
    | succ t ih =>
      intro q hq
      rcases (mem_stepL G (reachN_good p0 p1 t)).mp hq with h | ⟨n, hn, x, hx, rfl⟩
      · exact ih q h
      · exact (ih x hx).step hn
  refine rise_same g.1 (reachL_rise many ms p) fun k => ?_
  rw [mem_reachL G m6 p0 p1]
  constructor
  · exact rch many k
  · intro h
    refine Rch.ind (F := fun q => q ∈ reachN many ms p many) (self many) (fun x n hx hn => ?_) h
    rw [← st]
    exact (mem_stepL G g).mpr (.inr ⟨n, hn, x, hx, rfl⟩)
/-! closed groups, as the law finds them -/
def okP (many : Nat) (ms : List Mv) (p : Int) : Bool := (reachL many ms p).all fun x => decide (reachL many ms x = reachL many ms p)
def lawCl (many : Nat) (ms : List Mv) : Nat → List (List Int)
  | 0 => []
  | k + 1 => if okP many ms (k : Int) = true ∧ reachL many ms (k : Int) ∉ lawCl many ms k then lawCl many ms k ++ [reachL many ms (k : Int)] else lawCl many ms k
theorem head_least {xs : List Int} (h : xs.Pairwise (· < ·)) {k : Int} (hk : k ∈ xs) : xs.getD 0 0 ∈ xs ∧ xs.getD 0 0 ≤ k := by
  cases xs with
  | nil => cases hk
  | cons a r =>
    show a ∈ a :: r ∧ a ≤ k
    refine ⟨List.mem_cons_self, ?_⟩
    rcases List.mem_cons.mp hk with e | hk
    · omega
    · have := (List.pairwise_cons.mp h).1 k hk
      omega
theorem clK_def (many : Nat) (ms : List Mv) (p : Int) : clK many ms p = true ↔ (reachL many ms p).getD 0 0 = p ∧ okP many ms p = true := by
  unfold clK
  rw [Bool.and_eq_true, decide_eq_true_iff]
  exact Iff.rfl
/-- a place from which all come back: the least of its group heads a closed one -/
theorem okP_head {many : Nat} {ms : List Mv} (G : GoodAll many ms) (m6 : many ≤ 6) {p : Int} (p0 : 0 ≤ p) (p1 : p < (many : Int)) (h : okP many ms p = true) : clK many ms ((reachL many ms p).getD 0 0) = true ∧ reachL many ms ((reachL many ms p).getD 0 0) = reachL many ms p := by
  obtain ⟨h1, h2⟩ := head_least (reachL_rise many ms p) (reachL_self G m6 p0 p1)
  have all := List.all_eq_true.mp h
  have e : reachL many ms ((reachL many ms p).getD 0 0) = reachL many ms p := of_decide_eq_true (all _ h1)
  refine ⟨(clK_def _ _ _).mpr ⟨by rw [e], ?_⟩, e⟩
  unfold okP
  rw [e]
  exact List.all_eq_true.mpr all
theorem lawCl_eq {many : Nat} {ms : List Mv} (G : GoodAll many ms) (m6 : many ≤ 6) : ∀ k, k ≤ many → lawCl many ms k = (((ids many).take k).filter (clK many ms)).map (reachL many ms)
  | 0, _ => by rw [List.take_zero]; rfl
  | k + 1, hk => by
    have ih := lawCl_eq G m6 k (by omega)
    have ek : (ids many)[k]? = some (k : Int) := by
      unfold ids
      rw [List.getElem?_map, List.getElem?_range (by omega)]
      rfl
    rw [filter_snoc ek, List.map_append, ← ih]
    show (if _ then _ else _) = _
    have mem : reachL many ms (k : Int) ∈ lawCl many ms k ↔ ∃ j : Nat, j < k ∧ clK many ms (j : Int) = true ∧ reachL many ms (j : Int) = reachL many ms (k : Int) := by
      rw [ih, List.mem_map]
      constructor
      · rintro ⟨j, hj, e⟩
        obtain ⟨h1, h2⟩ := List.mem_filter.mp hj
        obtain ⟨i, hi, ei⟩ := List.getElem_of_mem h1
        have hi' : i < k := by
          rw [List.length_take] at hi
          omega
        have ej : j = (i : Int) := by
          rw [← ei, List.getElem_take]
          unfold ids
          rw [List.getElem_map, List.getElem_range]
        subst ej
        exact ⟨i, hi', h2, e⟩
      · rintro ⟨j, hj, h1, h2⟩
        refine ⟨(j : Int), List.mem_filter.mpr ⟨List.mem_iff_getElem?.mpr ⟨j, ?_⟩, h1⟩, h2⟩
        rw [List.getElem?_take_of_lt hj]
        unfold ids
        rw [List.getElem?_map, List.getElem?_range (by omega)]
        rfl
    cases hc : clK many ms (k : Int) with
    | true =>
      obtain ⟨c1, c2⟩ := (clK_def _ _ _).mp hc
      rw [if_pos, if_pos rfl]
      · rfl
      · refine ⟨c2, fun m => ?_⟩
        obtain ⟨j, hj, h1, h2⟩ := mem.mp m
        obtain ⟨d1, _⟩ := (clK_def _ _ _).mp h1
        rw [h2, c1] at d1
        omega
    | false =>
      rw [if_neg, if_neg Bool.false_ne_true, List.map_nil, List.append_nil]
      rintro ⟨a1, a2⟩
      have k1 : (0 : Int) ≤ k := by omega
      have k2 : (k : Int) < (many : Int) := by omega
      obtain ⟨b1, b2⟩ := okP_head G m6 k1 k2 a1
      obtain ⟨h1, h2⟩ := head_least (reachL_rise many ms (k : Int)) (reachL_self G m6 k1 k2)
      have ne : (reachL many ms (k : Int)).getD 0 0 ≠ (k : Int) := fun z => by
        rw [(clK_def _ _ _).mpr ⟨z, a1⟩] at hc
        cases hc
      have h0 := (reachL_in h1).1
      refine a2 (mem.mpr ⟨((reachL many ms (k : Int)).getD 0 0).toNat, by omega, ?_, ?_⟩)
      · rw [show ((((reachL many ms (k : Int)).getD 0 0).toNat : Nat) : Int) = (reachL many ms (k : Int)).getD 0 0 by omega]
        exact b1
      · rw [show ((((reachL many ms (k : Int)).getD 0 0).toNat : Nat) : Int) = (reachL many ms (k : Int)).getD 0 0 by omega]
        exact b2
theorem lawCl_closed {many : Nat} {ms : List Mv} (G : GoodAll many ms) (m6 : many ≤ 6) : lawCl many ms many = closedL many ms := by
  rw [lawCl_eq G m6 many (Nat.le_refl _), List.take_of_length_le (by unfold ids; rw [List.length_map, List.length_range]; exact Nat.le_refl _)]
  rfl
/-- there is a closed group -/
theorem some_ok {many : Nat} {ms : List Mv} (G : GoodAll many ms) (m6 : many ≤ 6) (n : Nat) : ∀ (p : Int), 0 ≤ p → p < (many : Int) → (reachL many ms p).length ≤ n → ∃ q, 0 ≤ q ∧ q < (many : Int) ∧ okP many ms q = true := by
  induction n with
  | zero =>
    intro p p0 p1 h
    have := List.length_pos_of_mem (reachL_self G m6 p0 p1)
    omega
  | succ n ih =>
    intro p p0 p1 h
    cases hk : okP many ms p with
    | true => exact ⟨p, p0, p1, hk⟩
    | false =>
      obtain ⟨x, hx, hd⟩ := List.all_eq_false.mp hk
      have hne : reachL many ms x ≠ reachL many ms p := fun z => hd (decide_eq_true z)
      obtain ⟨x0, x1⟩ := reachL_in hx
      have hpx := (mem_reachL G m6 p0 p1).mp hx
      rcases rise_sub (reachL_rise many ms x) (reachL_rise many ms p) (fun k hk => (mem_reachL G m6 p0 p1).mpr (hpx.trans ((mem_reachL G m6 x0 x1).mp hk))) with e | lt
      · exact absurd e hne
      · exact ih x x0 x1 (by omega)
theorem closedL_ne {many : Nat} {ms : List Mv} (G : GoodAll many ms) (m1 : 1 ≤ many) (m6 : many ≤ 6) : closedL many ms ≠ [] := by
  obtain ⟨q, q0, q1, hq⟩ := some_ok G m6 _ 0 (by omega) (by omega) (Nat.le_refl _)
  obtain ⟨h1, h2⟩ := okP_head G m6 q0 q1 hq
  obtain ⟨hh, _⟩ := head_least (reachL_rise many ms q) (reachL_self G m6 q0 q1)
  intro e
  have : reachL many ms ((reachL many ms q).getD 0 0) ∈ closedL many ms := List.mem_map.mpr ⟨_, List.mem_filter.mpr ⟨(List.mem_filter.mp hh).1, h1⟩, rfl⟩
  rw [e] at this
  cases this
theorem closedL_len (many : Nat) (ms : List Mv) : (closedL many ms).length ≤ many := by
  unfold closedL
  rw [List.length_map]
  refine Nat.le_trans (List.length_filter_le _ _) ?_
  unfold ids
  rw [List.length_map, List.length_range]
  exact Nat.le_refl _
theorem closedL_row {many : Nat} {ms : List Mv} {g : List Int} (h : g ∈ closedL many ms) : g.length ≤ many := by
  obtain ⟨p, _, rfl⟩ := List.mem_map.mp h
  exact goodG.len ⟨reachL_rise many ms p, fun _ h => reachL_in h⟩
/-! ### so much of each: sums over rows of numbers, and what is counted by keys -/
section
/-- a sum over a list -/
def sumL {α : Type} (l : List α) (f : α → Int) : Int := (l.map f).sum
theorem sumL_nil {α : Type} (f : α → Int) : sumL [] f = 0 := rfl
theorem sumL_cons {α : Type} (a : α) (l : List α) (f : α → Int) : sumL (a :: l) f = f a + sumL l f := by unfold sumL; rw [List.map_cons, List.sum_cons]
theorem sumL_app {α : Type} (l k : List α) (f : α → Int) : sumL (l ++ k) f = sumL l f + sumL k f := by unfold sumL; rw [List.map_append, List.sum_append]
theorem sumL_congr {α : Type} {l : List α} {f g : α → Int} (h : ∀ a ∈ l, f a = g a) : sumL l f = sumL l g := by unfold sumL; rw [List.map_congr_left h]
theorem sumL_add {α : Type} (f g : α → Int) : ∀ l : List α, sumL l (fun a => f a + g a) = sumL l f + sumL l g
  | [] => rfl
  | a :: l => by rw [sumL_cons, sumL_cons, sumL_cons, sumL_add f g l]; omega
theorem sumL_mul {α : Type} (k : Int) (f : α → Int) : ∀ l : List α, sumL l (fun a => k * f a) = k * sumL l f
  | [] => (Int.mul_zero k).symm
  | a :: l => by rw [sumL_cons, sumL_cons, sumL_mul k f l, Int.mul_add]
theorem sumL_zero {α : Type} : ∀ l : List α, sumL l (fun _ => 0) = 0
  | [] => rfl
  | a :: l => by rw [sumL_cons, sumL_zero l]; rfl
theorem sumL_none {α : Type} {l : List α} {f : α → Int} (h : ∀ a ∈ l, f a = 0) : sumL l f = 0 := (sumL_congr h).trans (sumL_zero l)
theorem sumL_comm {α β : Type} (f : α → β → Int) (k : List β) : ∀ l : List α, sumL l (fun a => sumL k (f a)) = sumL k (fun b => sumL l fun a => f a b)
  | [] => (sumL_zero k).symm
  | a :: l => by
    rw [sumL_cons, sumL_comm f k l, ← sumL_add]
    exact sumL_congr fun b _ => (sumL_cons a l fun a => f a b).symm
theorem sumL_nn {α : Type} {l : List α} {f : α → Int} (h : ∀ a ∈ l, 0 ≤ f a) : 0 ≤ sumL l f := by
  induction l with
  | nil => exact Int.le_refl _
  | cons a l ih =>
    rw [sumL_cons]
    have := h a List.mem_cons_self
    have := ih fun b hb => h b (List.mem_cons_of_mem _ hb)
    omega
theorem sumL_le {α : Type} {l : List α} {f g : α → Int} (h : ∀ a ∈ l, f a ≤ g a) : sumL l f ≤ sumL l g := by
  induction l with
  | nil => exact Int.le_refl _
  | cons a l ih =>
    rw [sumL_cons, sumL_cons]
    have := h a List.mem_cons_self
    have := ih fun b hb => h b (List.mem_cons_of_mem _ hb)
    omega
theorem sumL_flat {α β : Type} (g : α → List β) (f : β → Int) : ∀ l : List α, sumL (l.flatMap g) f = sumL l fun a => sumL (g a) f
  | [] => rfl
  | a :: l => by rw [List.flatMap_cons, sumL_app, sumL_cons, sumL_flat g f l]
theorem sumL_map {α β : Type} (g : α → β) (f : β → Int) (l : List α) : sumL (l.map g) f = sumL l fun a => f (g a) := by unfold sumL; rw [List.map_map]; rfl
theorem sumL_mulr {α : Type} (k : Int) (f : α → Int) (l : List α) : sumL l (fun a => f a * k) = sumL l f * k := by
  rw [Int.mul_comm, ← sumL_mul]
  exact sumL_congr fun a _ => Int.mul_comm _ _
/-! #### rows of so many numbers -/
variable (ms : List Mv)
def wtN (a : Int) : Int := (ms.getD a.toNat (0, [])).1
def nums : List Int := (List.range ms.length).map fun (i : Nat) => (i : Int)
/-- one number more, at the end -/
def stepA (ψ : List Int → Int) (r : List Int) : Int := sumL (nums ms) fun a => wtN ms a * ψ (r ++ [a])
/-- over all rows of n numbers, each by its weight -/
def rowsS : Nat → (List Int → Int) → Int
  | 0, ψ => ψ []
  | n + 1, ψ => rowsS n (stepA ms ψ)
variable {ms}
theorem mem_nums {a : Int} : a ∈ nums ms ↔ 0 ≤ a ∧ a < (ms.length : Int) := mem_ids (many := ms.length)
theorem rowsS_congr : ∀ {n : Nat} {ψ φ : List Int → Int}, (∀ r, r.length = n → (∀ a ∈ r, 0 ≤ a ∧ a < (ms.length : Int)) → ψ r = φ r) → rowsS ms n ψ = rowsS ms n φ
  | 0, _, _, h => h [] rfl fun _ h => nomatch h
  | n + 1, ψ, φ, h => rowsS_congr (n := n) fun r hl hr => sumL_congr fun a ha => by
    rw [h (r ++ [a]) (by rw [List.length_append, hl]; rfl) fun b hb => ?_]
    rcases List.mem_append.mp hb with hb | hb
    · exact hr b hb
    · rw [List.mem_singleton.mp hb]; exact mem_nums.mp ha
theorem rowsS_add : ∀ (n : Nat) (ψ φ : List Int → Int), rowsS ms n (fun r => ψ r + φ r) = rowsS ms n ψ + rowsS ms n φ
  | 0, _, _ => rfl
  | n + 1, ψ, φ => by
    show rowsS ms n (stepA ms fun r => ψ r + φ r) = rowsS ms n (stepA ms ψ) + rowsS ms n (stepA ms φ)
    rw [← rowsS_add n]
    refine congrArg (rowsS ms n) (funext fun r => ?_)
    unfold stepA
    rw [← sumL_add]
    exact sumL_congr fun a _ => Int.mul_add _ _ _
theorem rowsS_mul (k : Int) : ∀ (n : Nat) (ψ : List Int → Int), rowsS ms n (fun r => k * ψ r) = k * rowsS ms n ψ
  | 0, _ => rfl
  | n + 1, ψ => by
    show rowsS ms n (stepA ms fun r => k * ψ r) = k * rowsS ms n (stepA ms ψ)
    rw [← rowsS_mul k n]
    refine congrArg (rowsS ms n) (funext fun r => ?_)
    unfold stepA
    rw [← sumL_mul]
    exact sumL_congr fun a _ => by grind
theorem rowsS_zero (n : Nat) : rowsS ms n (fun _ => 0) = 0 := by
  have := rowsS_mul (ms := ms) 0 n (fun _ => 0)
  simpa using this
theorem rowsS_sum {α : Type} (n : Nat) (f : α → List Int → Int) : ∀ l : List α, rowsS ms n (fun r => sumL l fun a => f a r) = sumL l fun a => rowsS ms n (f a)
  | [] => rowsS_zero n
  | a :: l => by
    rw [sumL_cons, ← rowsS_sum n f l, ← rowsS_add]
    refine congrArg (rowsS ms n) (funext fun r => sumL_cons _ _ _)
/-- the first number ahead -/
theorem rowsS_front : ∀ (n : Nat) (ψ : List Int → Int), rowsS ms (n + 1) ψ = sumL (nums ms) fun a => wtN ms a * rowsS ms n fun r => ψ (a :: r)
  | 0, _ => rfl
  | n + 1, ψ => by
    show rowsS ms (n + 1) (stepA ms ψ) = _
    rw [rowsS_front n (stepA ms ψ)]
    rfl
/-- turned round -/
theorem rowsS_rev : ∀ (n : Nat) (ψ : List Int → Int), rowsS ms n (fun r => ψ r.reverse) = rowsS ms n ψ
  | 0, _ => rfl
  | n + 1, ψ => by
    rw [rowsS_front n ψ]
    have e : stepA ms (fun r => ψ r.reverse) = fun r => (fun s => sumL (nums ms) fun a => wtN ms a * ψ (a :: s)) r.reverse := funext fun r => by
      unfold stepA
      refine sumL_congr fun a _ => ?_
      show wtN ms a * ψ (r ++ [a]).reverse = _
      rw [List.reverse_append]
      rfl
    show rowsS ms n (stepA ms fun r => ψ r.reverse) = _
    rw [e]
    refine (rowsS_rev n fun s => sumL (nums ms) fun a => wtN ms a * ψ (a :: s)).trans ?_
    rw [rowsS_sum]
    exact sumL_congr fun a _ => rowsS_mul _ _ _
theorem rowsS_nn (hw : ∀ m ∈ ms, 0 ≤ m.1) : ∀ (n : Nat) {ψ : List Int → Int}, (∀ r, 0 ≤ ψ r) → 0 ≤ rowsS ms n ψ
  | 0, _, h => h []
  | n + 1, ψ, h => rowsS_nn hw n fun r => sumL_nn fun a ha => Int.mul_nonneg (by
      unfold wtN
      have := mem_nums.mp ha
      rw [List.getD_eq_getElem?_getD, List.getElem?_eq_getElem (by omega)]
      exact hw _ (List.getElem_mem _)) (h _)
theorem rowsS_le (hw : ∀ m ∈ ms, 0 ≤ m.1) (n : Nat) {ψ φ : List Int → Int} (h : ∀ r, ψ r ≤ φ r) : rowsS ms n ψ ≤ rowsS ms n φ := by
  have h1 := rowsS_nn hw n (ψ := fun r => φ r + (-1) * ψ r) fun r => by have := h r; omega
  rw [rowsS_add, rowsS_mul] at h1
  omega
/-- all moves' numbers, all moves -/
theorem sum_nums (f : Mv → Int) : (sumL (nums ms) fun a => f (ms.getD a.toNat (0, []))) = sumL ms f := by
  have e : (nums ms).map (fun a => ms.getD a.toNat (0, [])) = ms := by
    unfold nums
    rw [List.map_map]
    apply List.ext_getElem?
    intro i
    rw [List.getElem?_map]
    by_cases h : i < ms.length
    · rw [List.getElem?_range h, List.getElem?_eq_getElem h]
      show some (ms.getD ((i : Nat) : Int).toNat (0, [])) = _
      rw [Int.toNat_natCast, List.getD_eq_getElem?_getD, List.getElem?_eq_getElem h]
      rfl
    · rw [List.getElem?_eq_none (by rw [List.length_range]; omega), List.getElem?_eq_none (by omega)]
      rfl
  have h := sumL_map (fun a : Int => ms.getD a.toNat (0, [])) f (nums ms)
  rw [e] at h
  exact h.symm
variable (ms) in
/-- all weights -/
def whole : Int := sumL ms fun m => m.1
theorem stepA_const (k : Int) (r : List Int) : stepA ms (fun _ => k) r = whole ms * k := by
  unfold stepA whole
  rw [sumL_mulr]
  congr 1
  exact sum_nums (fun m => m.1)
theorem rowsS_const : ∀ (n : Nat) (k : Int), rowsS ms n (fun _ => k) = whole ms ^ n * k
  | 0, k => by rw [Int.pow_zero, Int.one_mul]; rfl
  | n + 1, k => by
    show rowsS ms n (stepA ms fun _ => k) = _
    rw [show stepA ms (fun _ => k) = fun _ => whole ms * k from funext fun r => stepA_const k r, rowsS_const n, Int.pow_succ, Int.mul_assoc]
/-! #### what is counted by keys -/
abbrev Cnt := List (List Int × Int)
def addC : Cnt → List Int → Int → Cnt
  | [], g, v => [(g, v)]
  | p :: D, g, v => if p.1 = g then (p.1, p.2 + v) :: D else p :: addC D g v
def valC (D : Cnt) (g : List Int) : Int := ((D.find? fun p => decide (p.1 = g)).map (·.2)).getD 0
def exC (D : Cnt) (φ : List Int → Int) : Int := sumL D fun p => p.2 * φ p.1
theorem exC_add (φ : List Int → Int) (g : List Int) (v : Int) : ∀ D : Cnt, exC (addC D g v) φ = exC D φ + v * φ g
  | [] => by
    show exC [(g, v)] φ = _
    unfold exC
    rw [sumL_cons, sumL_nil]
    show v * φ g + 0 = 0 + v * φ g
    omega
  | p :: D => by
    have ih := exC_add φ g v D
    unfold exC at ih ⊢
    unfold addC
    by_cases h : p.1 = g
    · rw [if_pos h, sumL_cons, sumL_cons, ← h]
      grind
    · rw [if_neg h, sumL_cons, sumL_cons, ih]
      omega
theorem addC_keys {g : List Int} {v : Int} : ∀ {D : Cnt} {k : List Int}, k ∈ (addC D g v).map (·.1) ↔ k = g ∨ k ∈ D.map (·.1)
  | [], k => by
    show k ∈ [g] ↔ _
    simp
  | p :: D, k => by
    unfold addC
    by_cases h : p.1 = g
    · rw [if_pos h, List.map_cons, List.map_cons, List.mem_cons, ← h]
      constructor
      · exact .inr
      · rintro (e | e)
        · exact .inl e
        · exact e
    · rw [if_neg h, List.map_cons, List.map_cons, List.mem_cons, List.mem_cons, addC_keys (D := D)]
      constructor
      · rintro (e | e | e)
        · exact .inr (.inl e)
        · exact .inl e
        · exact .inr (.inr e)
      · rintro (e | e | e)
        · exact .inr (.inl e)
        · exact .inl e
        · exact .inr (.inr e)
theorem addC_nodup {g : List Int} {v : Int} : ∀ {D : Cnt}, (D.map (·.1)).Nodup → ((addC D g v).map (·.1)).Nodup
  | [], _ => by
    show [g].Nodup
    simp
  | p :: D, h => by
    rw [List.map_cons, List.nodup_cons] at h
    unfold addC
    by_cases e : p.1 = g
    · rw [if_pos e, List.map_cons, List.nodup_cons]
      exact h
    · rw [if_neg e, List.map_cons, List.nodup_cons]
      exact ⟨fun z => (addC_keys.mp z).elim e h.1, addC_nodup h.2⟩
theorem valC_ex {g : List Int} : ∀ {D : Cnt}, (D.map (·.1)).Nodup → valC D g = exC D fun k => if k = g then 1 else 0
  | [], _ => rfl
  | p :: D, h => by
    rw [List.map_cons, List.nodup_cons] at h
    have ih := valC_ex (g := g) h.2
    unfold valC exC at ih ⊢
    rw [sumL_cons, List.find?_cons]
    by_cases e : p.1 = g
    · rw [decide_eq_true e]
      show p.2 = p.2 * (if p.1 = g then 1 else 0) + _
      rw [if_pos e, sumL_none fun q hq => ?_]
      · omega
      · show q.2 * (if q.1 = g then 1 else 0) = 0
        rw [if_neg fun z => h.1 (by rw [e, ← z]; exact List.mem_map.mpr ⟨q, hq, rfl⟩), Int.mul_zero]
    · rw [decide_eq_false e]
      show _ = p.2 * (if p.1 = g then 1 else 0) + _
      rw [if_neg e, Int.mul_zero, Int.zero_add]
      exact ih
theorem sum_ex (D : Cnt) : (D.map (·.2)).sum = exC D fun _ => 1 := by
  unfold exC sumL
  congr 1
  exact List.map_congr_left fun p _ => (Int.mul_one _).symm
/-- a step on: each key's weight to where moves lead it -/
def stepC (ms : List Mv) (led : Mv → List Int → List Int) (D : Cnt) : Cnt := D.foldl (fun B p => ms.foldl (fun B m => addC B (led m p.1) (p.2 * m.1)) B) []
theorem foldl_inv {α β : Type} {P : List α → β → Prop} {f : β → α → β} (l : List α) {b : β} (h0 : P [] b) (hs : ∀ pre a b, P pre b → P (pre ++ [a]) (f b a)) : P l (l.foldl f b) := by
  have : ∀ (l pre : List α) (b : β), P pre b → P (pre ++ l) (l.foldl f b) := by
    intro l
    induction l with
    | nil => intro pre b h; rw [List.append_nil]; exact h
    | cons a l ih =>
      intro pre b h
      have := ih (pre ++ [a]) (f b a) (hs pre a b h)
      rw [List.append_assoc] at this
      exact this
  exact this l [] b h0
theorem exC_moves (led : Mv → List Int → List Int) (φ : List Int → Int) (p : List Int × Int) (B : Cnt) : exC (ms.foldl (fun B m => addC B (led m p.1) (p.2 * m.1)) B) φ = exC B φ + p.2 * sumL ms fun m => m.1 * φ (led m p.1) := by
  refine foldl_inv (P := fun pre b => exC b φ = exC B φ + p.2 * sumL pre fun m => m.1 * φ (led m p.1)) ms ?_ fun pre m b h => ?_
  · rw [sumL_nil]; omega
  · rw [exC_add, h, sumL_app, sumL_cons, sumL_nil]
    grind
theorem exC_step (led : Mv → List Int → List Int) (φ : List Int → Int) (D : Cnt) : exC (stepC ms led D) φ = exC D fun g => sumL ms fun m => m.1 * φ (led m g) := by
  unfold stepC
  have := foldl_inv (P := fun pre b => exC b φ = exC pre fun g => sumL ms fun m => m.1 * φ (led m g)) (f := fun B p => ms.foldl (fun B m => addC B (led m p.1) (p.2 * m.1)) B) D (b := []) rfl fun pre p b h => ?_
  · exact this
  · rw [exC_moves, h]
    unfold exC
    rw [sumL_app, sumL_cons, sumL_nil, Int.add_zero]
theorem stepC_nodup (led : Mv → List Int → List Int) (D : Cnt) : ((stepC ms led D).map (·.1)).Nodup := by
  unfold stepC
  refine foldl_inv (P := fun _ (b : Cnt) => (b.map (fun x => x.1)).Nodup) D ?_ fun pre p b h => ?_
  · exact List.nodup_nil
  · exact foldl_inv (P := fun _ (b : Cnt) => (b.map (fun x => x.1)).Nodup) ms h fun pre m b h => addC_nodup h
theorem stepC_keys {P : List Int → Prop} (led : Mv → List Int → List Int) {D : Cnt} (h : ∀ p ∈ D, ∀ m ∈ ms, P (led m p.1)) : ∀ p ∈ stepC ms led D, P p.1 := by
  have key : ∀ b : Cnt, (∀ k ∈ b.map (·.1), P k) → ∀ p ∈ b, P p.1 := fun b hb p hp => hb _ (List.mem_map.mpr ⟨p, hp, rfl⟩)
  have inn : ∀ (p : List Int × Int) (l : List Mv) (b : Cnt), (∀ m ∈ l, P (led m p.1)) → (∀ k ∈ b.map (·.1), P k) → ∀ k ∈ (l.foldl (fun B m => addC B (led m p.1) (p.2 * m.1)) b).map (·.1), P k := by
    intro p l
    induction l with
    | nil => intro b _ hb; exact hb
    | cons m l ih =>
      intro b hl hb
      refine ih _ (fun x hx => hl x (List.mem_cons_of_mem _ hx)) fun k hk => ?_
      rcases addC_keys.mp hk with e | e
      · rw [e]; exact hl m List.mem_cons_self
      · exact hb k e
  have out : ∀ (l : Cnt) (b : Cnt), (∀ p ∈ l, ∀ m ∈ ms, P (led m p.1)) → (∀ k ∈ b.map (·.1), P k) → ∀ k ∈ (l.foldl (fun B p => ms.foldl (fun B m => addC B (led m p.1) (p.2 * m.1)) B) b).map (·.1), P k := by
    intro l
    induction l with
    | nil => intro b _ hb; exact hb
    | cons p l ih =>
      intro b hl hb
      exact ih _ (fun x hx => hl x (List.mem_cons_of_mem _ hx)) (inn p ms b (hl p List.mem_cons_self) hb)
  exact key _ (out D [] h fun k hk => nomatch hk)
/-- so many steps on -/
def cntN (ms : List Mv) (led : Mv → List Int → List Int) (g0 : List Int) : Nat → Cnt
  | 0 => [(g0, 1)]
  | n + 1 => stepC ms led (cntN ms led g0 n)
def imgR (ms : List Mv) (led : Mv → List Int → List Int) (g0 : List Int) (r : List Int) : List Int := r.foldl (fun g a => led (ms.getD a.toNat (0, [])) g) g0
theorem cntN_ex (led : Mv → List Int → List Int) (g0 : List Int) : ∀ (n : Nat) (φ : List Int → Int), exC (cntN ms led g0 n) φ = rowsS ms n fun r => φ (imgR ms led g0 r)
  | 0, φ => by
    show exC [(g0, 1)] φ = φ g0
    unfold exC
    rw [sumL_cons, sumL_nil]
    show 1 * φ g0 + 0 = φ g0
    omega
  | n + 1, φ => by
    show exC (stepC ms led (cntN ms led g0 n)) φ = rowsS ms n (stepA ms fun r => φ (imgR ms led g0 r))
    rw [exC_step, cntN_ex led g0 n]
    refine congrArg (rowsS ms n) (funext fun r => ?_)
    unfold stepA
    rw [← sum_nums]
    refine sumL_congr fun a _ => ?_
    show _ = (ms.getD a.toNat (0, [])).1 * φ (imgR ms led g0 (r ++ [a]))
    unfold imgR
    rw [List.foldl_append]
    rfl
theorem cntN_nodup (led : Mv → List Int → List Int) (g0 : List Int) : ∀ n, ((cntN ms led g0 n).map (·.1)).Nodup
  | 0 => by show [g0].Nodup; simp
  | n + 1 => stepC_nodup led _
theorem cntN_val (led : Mv → List Int → List Int) (g0 : List Int) (n : Nat) (g : List Int) : valC (cntN ms led g0 n) g = rowsS ms n fun r => if imgR ms led g0 r = g then 1 else 0 := by
  rw [valC_ex (cntN_nodup led g0 n), cntN_ex]
theorem cntN_sum (led : Mv → List Int → List Int) (g0 : List Int) (n : Nat) : ((cntN ms led g0 n).map (·.2)).sum = whole ms ^ n := by
  rw [sum_ex, cntN_ex, rowsS_const, Int.mul_one]
end
section
variable {P : Program} {w : World} {K : PySem.W.Frag} {mg : Str → Option Value} {base : Heap} {C : Addr}
/-! ### fraction -/
theorem scFr : FnScope ["top", "bottom", "shared"] ["top", "bottom"] (defScope sFraction) := ⟨rfl, rfl, rfl, by decide +kernel, rfl, by decide +kernel, by decide +kernel⟩
/-- in lowest terms, the bottom above 0 -/
def fracZ (x y : Int) : Int × Int := if y < 0 then frac (-x) (-y) else frac x y
theorem fracZ_pos {x y : Int} (h : 0 < y) : fracZ x y = frac x y := if_neg (by omega)
def spFrZ : Sp := fun vs H Q _ => ∃ (x y : Int), vs = [.int x, .int y] ∧ y ≠ 0 ∧ y.natAbs < 2 ^ 8999 ∧ ∀ t, H t = none → Q (.ref t) (upd H t (.tup [.int (fracZ x y).1, .int (fracZ x y).2]))
theorem gcd_neg (x y : Int) : gcdI (-x) (-y) = gcdI x y := by
  unfold gcdI
  rw [Int.natAbs_neg, Int.natAbs_neg]
theorem fdiv_dvd {a b : Int} (h : b ∣ a) : a.fdiv b = a / b := by
  obtain ⟨c, rfl⟩ := h
  by_cases z : b = 0
  · rw [z]; simp
  · rw [Int.mul_fdiv_cancel_left _ z, Int.mul_ediv_cancel_left _ z]
theorem ok_fractionZ {f : Addr} {fd : FuncData} {k : Nat} (F : Fun K "fraction" "fraction" sFraction f fd) (mgcd : mg "gcd" = some (.builtin "math.gcd")) : FnOk P w K mg base CX0 (k + 1) f fd ["top", "bottom"] spFrZ := by
  refine F.ok scFr (fun vs H Q E h => ?_) (fun cdv A outer s H vs Q E hr h => ?_)
  · obtain ⟨x, y, rfl, _⟩ := h
    rfl
  · obtain ⟨x, y, rfl, h1, h2, q⟩ := h
    refine ⟨_, (pss_cons (ps_set (i := 2) scFr.nd rfl (.inl rfl) (pe_callBfun cr_gcd (by rfl) mgcd (pa_cons (pv 0) (pa_cons (pv 1) pa_nil))))
      (pss_cons (ps_if (pt_cmpR op_lt (pv 1) pe_int (nomark _)) (pss_one (ps_set (i := 2) scFr.nd rfl (.inl rfl) (pe_un un_neg (pv 2)))) pss_nil)
      (pss_one (ps_ret (pe_tup (pa_cons (pe_op op_fdivZ (pv 0) (pv 2)) (pa_cons (pe_op op_fdivZ (pv 1) (pv 2)) pa_nil))))))), ?_⟩
    have g0 : 0 < gcdI x y := by
      unfold gcdI
      have : 0 < Nat.gcd x.natAbs y.natAbs := Nat.gcd_pos_of_pos_right _ (by omega)
      omega
    have gl : (gcdI x y).natAbs < 2 ^ 8999 := by
      refine Nat.lt_of_le_of_lt ?_ h2
      unfold gcdI
      rw [Int.natAbs_natCast]
      exact Nat.le_of_dvd (by omega) (Nat.gcd_dvd_right _ _)
    have gn : (-gcdI x y).natAbs < 2 ^ 8999 := by rw [Int.natAbs_neg]; exact gl
    refine ⟨.int x, rfl, .int y, rfl, x, y, rfl, ?_⟩
    refine ⟨.int y, rfl, y, 0, rfl, rfl, _, rfl, ite2 (fun e => ?_) (fun e => ?_)⟩
    · have e2 : y < 0 := of_decide_eq_true e
      refine ⟨.int (gcdI x y), rfl, gcdI x y, rfl, ?_⟩
      refine ⟨.int x, rfl, .int (-gcdI x y), rfl, x, -gcdI x y, rfl, rfl, div_ok (by omega) gn (by decide) (by decide), .int y, rfl, .int (-gcdI x y), rfl, y, -gcdI x y, rfl, rfl, div_ok (by omega) gn (by decide) (by decide), (by show 2 ≤ sizeLine; decide), fun t nt => ?_⟩
      have e3 : x.fdiv (-gcdI x y) = (fracZ x y).1 := by
        unfold fracZ
        rw [if_pos e2, fdiv_dvd (Int.neg_dvd.mpr (gcdI_dl x y))]
        show _ = (-x) / gcdI (-x) (-y)
        rw [gcd_neg, Int.ediv_neg, Int.neg_ediv_of_dvd (gcdI_dl x y)]
      have e4 : y.fdiv (-gcdI x y) = (fracZ x y).2 := by
        unfold fracZ
        rw [if_pos e2, fdiv_dvd (Int.neg_dvd.mpr (gcdI_dr x y))]
        show _ = (-y) / gcdI (-x) (-y)
        rw [gcd_neg, Int.ediv_neg, Int.neg_ediv_of_dvd (gcdI_dr x y)]
      have := q t nt
      rw [← e3, ← e4] at this
      exact this
    · have e2 : ¬ y < 0 := fun z => e (decide_eq_true z)
      refine ⟨.int x, rfl, .int (gcdI x y), rfl, x, gcdI x y, rfl, rfl, div_ok (by omega) gl (by decide) (by decide), .int y, rfl, .int (gcdI x y), rfl, y, gcdI x y, rfl, rfl, div_ok (by omega) gl (by decide) (by decide), (by show 2 ≤ sizeLine; decide), fun t nt => ?_⟩
      have e3 : x.fdiv (gcdI x y) = (fracZ x y).1 := by
        unfold fracZ
        rw [if_neg e2, fdiv_dvd (gcdI_dl x y)]
        rfl
      have e4 : y.fdiv (gcdI x y) = (fracZ x y).2 := by
        unfold fracZ
        rw [if_neg e2, fdiv_dvd (gcdI_dr x y)]
        rfl
      have := q t nt
      rw [← e3, ← e4] at this
      exact this
/-! ### a dict of what is counted -/
def encC (D : Cnt) : List (List Key × V) := D.map fun p => (p.1.map Sum.inl, V.int p.2)
theorem encC_vals (D : Cnt) : (encC D).map (·.2) = (D.map (·.2)).map V.int := by
  unfold encC
  rw [List.map_map, List.map_map]
  rfl
theorem encC_len (D : Cnt) : (encC D).length = D.length := by unfold encC; rw [List.length_map]
theorem keyI_inj : ∀ {g k : List Int}, g.map (Sum.inl (β := Str)) = k.map Sum.inl → g = k
  | [], [], _ => rfl
  | [], _ :: _, h => nomatch h
  | _ :: _, [], h => nomatch h
  | a :: g, b :: k, h => by
    rw [List.map_cons, List.map_cons] at h
    injection h with h1 h2
    injection h1 with h1
    rw [h1, keyI_inj h2]
theorem encC_get (g : List Int) : ∀ D : Cnt, (valV (encC D) (g.map Sum.inl)).getD (.int 0) = .int (valC D g)
  | [] => rfl
  | p :: D => by
    have ih := encC_get g D
    by_cases h : p.1 = g
    · have e : (valV (encC (p :: D)) (g.map Sum.inl)) = some (.int p.2) := valV_pos (p := (p.1.map Sum.inl, V.int p.2)) (by rw [h])
      rw [e]
      unfold valC
      rw [List.find?_cons, decide_eq_true h]
      rfl
    · have e : (valV (encC (p :: D)) (g.map Sum.inl)) = valV (encC D) (g.map Sum.inl) := valV_neg (p := (p.1.map Sum.inl, V.int p.2)) fun z => h (keyI_inj z)
      rw [e, ih]
      unfold valC
      rw [List.find?_cons, decide_eq_false h]
theorem valC_cons_ne {p : List Int × Int} {D : Cnt} {g : List Int} (h : ¬ p.1 = g) : valC (p :: D) g = valC D g := by
  unfold valC
  rw [List.find?_cons, decide_eq_false h]
theorem map_same {D : Cnt} {g : List Int} {y : V} (h : g ∉ D.map (·.1)) : (encC D).map (fun kv => if kv.1 = g.map Sum.inl then (kv.1, y) else kv) = encC D := by
  unfold encC
  rw [List.map_map]
  refine List.map_congr_left fun p hp => ?_
  show (if p.1.map Sum.inl = g.map Sum.inl then _ else _) = _
  rw [if_neg fun z => h (by rw [← keyI_inj z]; exact List.mem_map.mpr ⟨p, hp, rfl⟩)]
theorem encC_put {g : List Int} {v : Int} : ∀ {D : Cnt}, (D.map (·.1)).Nodup → putK (encC D) (g.map Sum.inl) (.int (valC D g + v)) = encC (addC D g v)
  | [], _ => by
    show putK [] _ _ = encC [(g, v)]
    have : valC [] g + v = v := by show (0 : Int) + v = v; omega
    rw [this]
    rfl
  | p :: D, h => by
    rw [List.map_cons, List.nodup_cons] at h
    by_cases e : p.1 = g
    · have pe : p.1.map (Sum.inl (β := Str)) = g.map Sum.inl := by rw [e]
      unfold addC
      rw [if_pos e]
      unfold putK
      have a : ((encC (p :: D)).any fun kv => decide (kv.1 = g.map Sum.inl)) = true := by
        show (decide (p.1.map Sum.inl = g.map Sum.inl) || _) = true
        rw [decide_eq_true pe]
        rfl
      rw [if_pos a]
      show (if p.1.map Sum.inl = g.map Sum.inl then _ else _) :: (encC D).map _ = _
      rw [map_same (by rw [← e]; exact h.1), if_pos pe]
      have : valC (p :: D) g = p.2 := by
        unfold valC
        rw [List.find?_cons, decide_eq_true e]
        rfl
      rw [this]
      rfl
    · have ih := encC_put (g := g) (v := v) h.2
      have ne : ¬ p.1.map (Sum.inl (β := Str)) = g.map Sum.inl := fun z => e (keyI_inj z)
      rw [valC_cons_ne e]
      unfold addC
      rw [if_neg e]
      show _ = (p.1.map Sum.inl, V.int p.2) :: encC (addC D g v)
      rw [← ih]
      unfold putK
      have a : ((encC (p :: D)).any fun kv => decide (kv.1 = g.map Sum.inl)) = ((encC D).any fun kv => decide (kv.1 = g.map Sum.inl)) := by
        show (decide (p.1.map Sum.inl = g.map Sum.inl) || _) = _
        rw [decide_eq_false ne]
        rfl
      rw [a]
      by_cases b : ((encC D).any fun kv => decide (kv.1 = g.map Sum.inl)) = true
      · rw [if_pos b, if_pos b]
        show (if p.1.map Sum.inl = g.map Sum.inl then _ else _) :: _ = _
        rw [if_neg ne]
        rfl
      · rw [if_neg b, if_neg b]
        rfl
end
section
variable {P : Program} {w : World} {K : PySem.W.Frag} {mg : Str → Option Value} {base : Heap} {C : Addr}
/-! ### _behind_a_step -/
def ledM (many : Nat) (m : Mv) (g : List Int) : List Int := ledG many m.2 g
theorem scBs : FnScope ["moves", "weights", "behind", "group", "weight", "more", "whither", "led"] ["moves", "weights"] (defScope sBehindAStep) := ⟨rfl, rfl, rfl, by decide +kernel, rfl, by decide +kernel, by decide +kernel⟩
/-- keys that are groups, each once -/
def CntG (many : Nat) (D : Cnt) : Prop := (D.map (·.1)).Nodup ∧ ∀ p ∈ D, goodG many p.1
theorem CntG.len {many : Nat} {D : Cnt} (h : CntG many D) (m6 : many ≤ 6) : D.length ≤ 64 := by
  have hp := pigeon (m := subs (ids many)) h.1 fun g hg => by
    obtain ⟨p, hp, rfl⟩ := List.mem_map.mp hg
    obtain ⟨g1, g2⟩ := h.2 p hp
    exact mem_subs (ids_pair many) g1 fun k hk => mem_ids.mpr (g2 k hk)
  rw [subs_len, List.length_map] at hp
  have e : (ids many).length = many := by
    unfold ids
    rw [List.length_map, List.length_range]
  rw [e] at hp
  exact Nat.le_trans hp (Nat.pow_le_pow_right (n := 2) (by decide) m6)
theorem CntG.nil (many : Nat) : CntG many [] := ⟨List.nodup_nil, fun _ h => nomatch h⟩
theorem CntG.add {many : Nat} {D : Cnt} (h : CntG many D) {g : List Int} (hg : goodG many g) (v : Int) : CntG many (addC D g v) := by
  refine ⟨addC_nodup h.1, fun p hp => ?_⟩
  rcases addC_keys.mp (List.mem_map.mpr ⟨p, hp, rfl⟩) with e | e
  · rw [e]; exact hg
  · obtain ⟨q, hq, e⟩ := List.mem_map.mp e
    rw [← e]
    exact h.2 q hq
theorem foldl_snoc {α β : Type} {f : β → α → β} {b : β} {l : List α} {i : Nat} {a : α} (h : l[i]? = some a) : (l.take (i + 1)).foldl f b = f ((l.take i).foldl f b) a := by
  rw [take_snoc h, List.foldl_append]
  rfl
theorem encC_at {D : Cnt} {i : Nat} {k : List Key} {v : V} (h : (encC D)[i]? = some (k, v)) : ∃ p, D[i]? = some p ∧ k = p.1.map Sum.inl ∧ v = .int p.2 := by
  unfold encC at h
  rw [List.getElem?_map] at h
  obtain ⟨p, hp, e⟩ := Option.map_eq_some_iff.mp h
  cases e
  exact ⟨p, hp, rfl, rfl⟩
theorem walk_itemsT {d : Addr} {o : Obj} {kvs : List (List Key × V)} : L2.Walk (ItiT d o kvs) kvs.length (fun H => H d = some (.frz o (.dT kvs)))
    (fun i H x H' => ∃ (T q : Addr) (k : List Key) (v : V), kvs[i]? = some (k, v) ∧ x = .ref T ∧ H T = none ∧ H q = some (.tup (k.map kV)) ∧ H' = upd H T (.tup [.ref q, v])) :=
  ⟨fun _ _ hi q => ⟨q, hi⟩, fun _ q => ⟨q, Nat.le_refl _⟩, fun _ _ _ _ _ _ y => y⟩
theorem key_intsC (g : List Int) : (g.map (Sum.inl (β := Str))).map kV = g.map V.int := by
  rw [List.map_map]
  rfl
def spBs : Sp := fun vs H Q _ => ∃ (m d : Addr) (many : Nat) (ws : List V) (ms : List Mv) (D : Cnt), vs = [.ref m, .ref d] ∧ H m = some (.lst ws) ∧ MovesAt H ws ms ∧ Good many ms ∧ H d = some (.dT (encC D)) ∧ CntG many D ∧
  ∀ b H', Gr d H H' → H b = none → H' b = some (.dT (encC (stepC ms (ledM many) D))) → Q (.ref b) H'
theorem ok_bs {f fL : Addr} {fd fdL : FuncData} (F : Fun K "_behind_a_step" "_behind_a_step" sBehindAStep f fd) (DL : Df K mg "led_to" sLedTo ["whither", "group"] fL fdL) (mt : mg "tuple" = none) (ms' : mg "sorted" = none) : FnOk P w K mg base CX0 2 f fd ["moves", "weights"] spBs := by
  have GL : FnOk P w K mg base CX0 1 fL fdL ["whither", "group"] spLed := ok_led DL.F mt ms'
  refine F.ok scBs (fun vs H Q E h => ?_) (fun cdv A outer s H vs Q E hr h => ?_)
  · obtain ⟨m, d, many, ws, ms, D, rfl, _⟩ := h
    rfl
  · obtain ⟨m, d, many, ws, ms, D, rfl, hm, hM, G, hd, hc, q⟩ := h
    have r1 : Room 1 _ := hr
    have hu1 := hu_of hr
    refine ⟨_, (pss_cons (ps_set (i := 2) scBs.nd rfl (.inl rfl) pe_dnewT)
      (pss_cons (ps_for PassesOwn.never rfl (pi_itemsT (pe_frz (pv 1))) (pg_tup rfl (pgs_cons (pg_name (i := 3) scBs.nd rfl (.inl rfl)) (pgs_cons (pg_name (i := 4) scBs.nd rfl (.inl rfl)) pgs_nil))) (pss_one (ps_for PassesOwn.never rfl (pi_list (pv 0)) (pg_tup rfl (pgs_cons (pg_name (i := 5) scBs.nd rfl (.inl rfl)) (pgs_cons (pg_name (i := 6) scBs.nd rfl (.inl rfl)) pgs_nil))) (pss_cons (ps_set (i := 7) scBs.nd rfl (.inl rfl) (pe_call GL r1 (by rfl) DL.g DL.F.kp DL.b .nil pass0 (pa_cons (pv 6) (pa_cons (pv 3) pa_nil))))
      (pss_one (ps_dput (hu1) (pv 2) (pv 7) (pe_op op_add (pe_dget2 hu1 (pv 2) (pv 7) pe_int ⟨by rfl, by rfl, by rfl, by rfl⟩) (pe_op op_mul (pv 4) (pv 5))) rfl))))))
      (pss_one (ps_ret (pv 2))))), ?_⟩
    have m6 := G.m6
    have lD := hc.len m6
    refine fun B nB => ?_
    have s1 := same_new (o := .dT []) nB
    have hB1 : (upd H B (.dT [])) B = some (.dT (encC [])) := upd_same
    have hd1 := s1 _ _ hd
    have ndB : d ≠ B := ne_of_none hd nB
    have hm1 := s1 _ _ hm
    have hM1 : MovesAt (upd H B (.dT [])) ws ms := hM.same (Same.tups s1)
    show tSeq _ _ _ _ (upd H B (.dT []))
    generalize upd H B (.dT []) = H1 at s1 hB1 hd1 hm1 hM1 ⊢
    refine ⟨.ref d, rfl, d, _, rfl, hd1, True.intro, fun od => ⟨d, od, encC D, rfl, upd_same, ?_⟩⟩
    have kF : ∀ b o, b ≠ d → H1 b = some o → (upd H1 d (.frz od (.dT (encC D)))) b = some o := fun b o nb e => by rw [upd_ne nb]; exact e
    have hdF : (upd H1 d (.frz od (.dT (encC D)))) d = some (.frz od (.dT (encC D))) := upd_same
    have nmd : m ≠ d := fun z => by rw [z, hd] at hm; cases hm
    have hmF := kF _ _ nmd hm1
    have hMF : MovesAt (upd H1 d (.frz od (.dT (encC D)))) ws ms := hM1.same fun b xs e => kF _ _ (fun z => by rw [z, hd1] at e; cases e) e
    have hBF := kF _ _ ndB.symm hB1
    have gF : Gr d H (upd H1 d (.frz od (.dT (encC D)))) := fun b o nb e => kF _ _ nb (s1 _ _ e)
    generalize upd H1 d (.frz od (.dT (encC D))) = HF at kF hdF hmF hMF hBF gF ⊢
    have nmB : m ≠ B := fun z => by rw [z] at hm; rw [hm] at nB; cases nB
    let outer : Cnt → List Int × Int → Cnt := fun X p => ms.foldl (fun X m => addC X (ledM many m p.1) (p.2 * m.1)) X
    refine for_it walk_itemsT (fun i σ H' => ∃ y3 y4 y5 y6 y7, σ = [some (.ref m), some (.ref d), some (.ref B), y3, y4, y5, y6, y7] ∧ (∀ b o, b ≠ B → HF b = some o → H' b = some o) ∧ H' B = some (.dT (encC ((D.take i).foldl outer []))) ∧ CntG many ((D.take i).foldl outer []))
      ⟨none, none, none, none, none, rfl, fun _ _ _ e => e, by rw [List.take_zero]; exact hBF, by rw [List.take_zero]; exact CntG.nil many⟩ (fun i σ H' _ ⟨_, _, _, _, _, _, k, _⟩ => k _ _ ndB hdF) ?_ ?_
    · rintro i x σ H2 H2' hi ⟨y3, y4, y5, y6, y7, rfl, k2, hB2, hc2⟩ ⟨T, qa, k, v, ekv, rfl, nT, hqa, rfl⟩
      obtain ⟨p, hp, rfl, rfl⟩ := encC_at ekv
      have gp := hc.2 p (List.mem_of_getElem? hp)
      have hq : H2 qa = some (.tup (p.1.map V.int)) := by rw [hqa, key_intsC]
      have sT := same_new (o := .tup [.ref qa, .int p.2]) nT
      refine ⟨T, [.ref qa, .int p.2], rfl, SqT.of upd_same, rfl, .ref qa, [.int p.2], rfl, .int p.2, [], rfl, rfl, ?_⟩
      have k3 : ∀ b o, b ≠ B → HF b = some o → (upd H2 T (.tup [.ref qa, .int p.2])) b = some o := fun b o nb e => sT _ _ (k2 b o nb e)
      have hB3 := sT _ _ hB2
      have hq3 := sT _ _ hq
      generalize upd H2 T (.tup [.ref qa, .int p.2]) = H3 at k3 hB3 hq3 ⊢
      have nqB : qa ≠ B := fun z => by rw [z, hB3] at hq3; cases hq3
      refine ⟨.ref m, rfl, m, rfl, ⟨_, SqL.of (k3 _ _ nmB hmF)⟩, ?_⟩
      refine for_list (K := K) (a := m) (xs := ws) (fun j σ H' => ∃ y5 y6 y7, σ = [some (.ref m), some (.ref d), some (.ref B), some (.ref qa), some (.int p.2), y5, y6, y7] ∧ (∀ b o, b ≠ B → H3 b = some o → H' b = some o) ∧
          H' B = some (.dT (encC ((ms.take j).foldl (fun X m => addC X (ledM many m p.1) (p.2 * m.1)) ((D.take i).foldl outer [])))) ∧ CntG many ((ms.take j).foldl (fun X m => addC X (ledM many m p.1) (p.2 * m.1)) ((D.take i).foldl outer [])))
        ⟨y5, y6, y7, rfl, fun _ _ _ e => e, by rw [List.take_zero]; exact hB3, by rw [List.take_zero]; exact hc2⟩ (fun j σ H' _ ⟨_, _, _, _, k, _⟩ => SqL.of (k _ _ nmB (k3 _ _ nmB hmF))) ?_ ?_
      · rintro j v σ H4 hv ⟨y5, y6, y7, rfl, k4, hB4, hc4⟩
        obtain ⟨mv, emv, ta, tb, rfl, hta, htb⟩ := hMF.get' hv
        have gm := G.mv mv (List.mem_of_getElem? emv)
        have nta : ta ≠ B := fun z => by rw [z, hBF] at hta; cases hta
        have ntb : tb ≠ B := fun z => by rw [z, hBF] at htb; cases htb
        have hta4 := k4 _ _ nta (k3 _ _ nta hta)
        have htb4 := k4 _ _ ntb (k3 _ _ ntb htb)
        have hq4 := k4 _ _ nqB hq3
        refine ⟨ta, _, rfl, SqT.of hta4, rfl, _, _, rfl, _, _, rfl, rfl, ?_⟩
        refine ⟨.ref tb, rfl, .ref qa, rfl, tb, qa, many, mv.2, p.1, rfl, htb4, hq4, m6, gm.2.2, gp, fun L H5 s5 nL hL => ?_⟩
        have hB5 := s5 _ _ hB4
        have hk5 : H5 L = some (.tup ((((ledM many mv p.1).map (Sum.inl (β := Str)))).map kV)) := by rw [key_intsC]; exact hL
        refine ⟨.ref B, rfl, B, rfl, .inr ⟨_, .inl hB5⟩, .ref L, rfl, _, DGet.t hB5 hk5, ?_⟩
        rw [encC_get]
        have g99 := gm.2.1
        have g1 := gm.1
        refine ⟨.int p.2, rfl, .int mv.1, rfl, p.2, mv.1, rfl, rfl, .inr ⟨by omega, by omega⟩, _, _, rfl, rfl, ?_⟩
        have l64 := hc4.len m6
        refine ⟨.ref B, rfl, .ref L, rfl, B, _, rfl, DPut.t hB5 hk5 (lt1k (by rw [encC_len]; omega)), ?_⟩
        refine ⟨_, _, _, rfl, fun b o nb e => by rw [upd_ne nb]; exact s5 _ _ (k4 b o nb e), ?_, ?_⟩
        · rw [upd_same, foldl_snoc emv]
          exact congrArg (fun z => some (HO.dT z)) (encC_put hc4.1)
        · rw [foldl_snoc emv]
          exact hc4.add (ledG_good many mv.2 p.1) _
      · rintro σ H4 ⟨y5, y6, y7, rfl, k4, hB4, hc4⟩
        rw [hM.length, List.take_length] at hB4 hc4
        refine ⟨_, _, _, _, _, rfl, fun b o nb e => k4 b o nb (k3 b o nb e), ?_, ?_⟩
        · rw [foldl_snoc hp]
          exact hB4
        · rw [foldl_snoc hp]
          exact hc4
    · rintro σ H2 ⟨y3, y4, y5, y6, y7, rfl, k2, hB2, hc2⟩
      rw [encC_len, List.take_length] at hB2
      exact ⟨.ref B, rfl, q B H2 (fun b o nb e => k2 b o (ne_of_none e nB) (gF b o nb e)) nB hB2⟩
end
section
/-! ### fractions that are told -/
def FracAt (H : Hp) (v : V) (p : Int × Int) : Prop := ∃ t, v = .ref t ∧ H t = some (.tup [.int p.1, .int p.2])
theorem FracAt.same {H H' : Hp} {v : V} {p : Int × Int} (s : Same H H') (h : FracAt H v p) : FracAt H' v p := by
  obtain ⟨t, e, h⟩ := h
  exact ⟨t, e, s _ _ h⟩
theorem dp_pair {K : PySem.W.Frag} {H : Hp} {t : Addr} {p : Int × Int} (h : H t = some (.tup [.int p.1, .int p.2])) : Dp K H (.ref t) (.tuple [.int p.1, .int p.2]) := .tup (SqT.of h) (.cons (.int _) (.cons (.int _) .nil))
theorem shaped_pair (p : Int × Int) : SeqAt.shaped (.tuple [.int p.1, .int p.2]) = true := rfl
theorem eqv_pair (p r : Int × Int) : PyData.eqv (.tuple [.int p.1, .int p.2]) (.tuple [.int r.1, .int r.2]) = decide (p = r) := by
  have e : PyData.eqv (.tuple [.int p.1, .int p.2]) (.tuple [.int r.1, .int r.2]) = (p.1 == r.1 && (p.2 == r.2 && true)) := rfl
  rw [e, Bool.and_true]
  obtain ⟨a, b⟩ := p
  obtain ⟨c, d⟩ := r
  by_cases h1 : a = c <;> by_cases h2 : b = d <;> simp [h1, h2]
end
section
variable {P : Program} {w : World} {K : PySem.W.Frag} {mg : Str → Option Value} {base : Heap} {C : Addr}
theorem scEv : FnScope ["chain"] ["chain"] (defScope sEverywhere) := ⟨rfl, rfl, rfl, by decide +kernel, rfl, by decide +kernel, by decide +kernel⟩
def spEv (C : Addr) : Sp := fun vs H Q _ => ∃ (x : Addr) (many : Nat) (ms : List Mv), vs = [.ref x] ∧ ChainAt C H x many ms ∧ Good many ms ∧ ∀ a H', Same H H' → H' a = some (.tup ((ids many).map V.int)) → Q (.ref a) H'
theorem ok_ev {f fP fT : Addr} {fd fdP fdT : FuncData} (F : Fun K "everywhere" "everywhere" sEverywhere f fd) (T : ChM K C fP fT fdP fdT) (mt : mg "tuple" = none) (mr : mg "range" = none) : FnOk P w K mg base CX0 2 f fd ["chain"] (spEv C) := by
  have GP : FnOk P w K mg base CX0 1 fP fdP ["self"] (spPlaces C) := ok_places T.FP T.cl T.nM
  refine F.ok scEv (fun vs H Q E h => ?_) (fun cdv A outer s H vs Q E hr h => ?_)
  · obtain ⟨x, many, ms, rfl, _⟩ := h
    rfl
  · obtain ⟨x, many, ms, rfl, hC, G, q⟩ := h
    refine ⟨_, (pss_one (ps_ret (pe_tupRg rfl (by rfl) mt (prg_1 (by rfl) mr (pe_meth0 (pv 0) T.cl T.hP GP hr T.bP .nil pass0))))), ?_⟩
    have m6 := G.m6
    obtain ⟨dx, a0, ws, h1, h2, h3⟩ := id hC
    refine ⟨.ref x, rfl, x, dx, _, rfl, h1, ch_no, x, many, ms, rfl, hC, _, rfl, RgOk.of_le (by omega) (by omega) (by omega) (by omega), fun a na => ?_⟩
    rw [rg_ends]
    exact q a _ (same_new na) upd_same
end
section
variable {P : Program} {w : World} {K : PySem.W.Frag} {mg : Str → Option Value} {base : Heap} {C : Addr}
/-! ### shares -/
theorem whole_pos {many : Nat} {ms : List Mv} (G : Good many ms) : 1 ≤ whole ms := by
  have l1 := G.l1
  obtain ⟨m, r, rfl⟩ := List.exists_cons_of_length_pos (Nat.lt_of_lt_of_le (by decide) l1)
  unfold whole
  rw [sumL_cons]
  have h1 := (G.mv m List.mem_cons_self).1
  have h2 := sumL_nn (l := r) (f := fun m => m.1) fun a ha => by have := (G.mv a (List.mem_cons_of_mem _ ha)).1; omega
  omega
theorem sumL_most {α : Type} {l : List α} {f : α → Int} {b : Int} (h : ∀ a ∈ l, f a ≤ b) : sumL l f ≤ l.length * b := by
  induction l with
  | nil => rw [sumL_nil, List.length_nil]; omega
  | cons a l ih =>
    rw [sumL_cons, List.length_cons]
    have := h a List.mem_cons_self
    have := ih fun x hx => h x (List.mem_cons_of_mem _ hx)
    rw [Int.natCast_add, Int.add_mul]
    omega
theorem whole_le {many : Nat} {ms : List Mv} (G : Good many ms) : whole ms ≤ 792 := by
  have l8 := G.l8
  have := sumL_most (l := ms) (f := fun m => m.1) (b := 99) fun m hm => (G.mv m hm).2.1
  unfold whole
  omega
theorem pow_big {W : Int} (h1 : 1 ≤ W) (h2 : W ≤ 792) {n : Nat} (hn : n ≤ 20) : 0 < W ^ n ∧ (W ^ n).natAbs < 2 ^ 210 := by
  have p : 0 < W ^ n := Int.pow_pos (by omega)
  refine ⟨p, ?_⟩
  rw [Int.natAbs_pow]
  have h3 : W.natAbs ≤ 2 ^ 10 := by
    rw [show (2 : Nat) ^ 10 = 1024 from rfl]
    omega
  refine Nat.lt_of_le_of_lt (Nat.pow_le_pow_left h3 n) ?_
  rw [← Nat.pow_mul]
  exact Nat.pow_lt_pow_right (by decide) (by omega)
theorem GoodMv.w0 {many : Nat} {ms : List Mv} (G : Good many ms) : ∀ m ∈ ms, 0 ≤ m.1 := fun m hm => by
  have := (G.mv m hm).1
  omega
theorem foldL_good {many : Nat} {ms : List Mv} : ∀ (r : List Int) {g : List Int}, goodG many g → goodG many (imgR ms (ledM many) g r)
  | [], _, h => h
  | a :: r, g, _ => foldL_good r (ledG_good many _ g)
theorem cntN_good {many : Nat} (ms : List Mv) : ∀ n, CntG many (cntN ms (ledM many) (ids many) n)
  | 0 => ⟨by show [ids many].Nodup; simp, fun p hp => by rw [List.mem_singleton.mp hp]; exact ids_good many⟩
  | n + 1 => ⟨stepC_nodup _ _, stepC_keys (P := goodG many) _ fun p hp m hm => ledG_good many m.2 p.1⟩
/-- so much of the rows of n numbers draws p -/
def shrN (many : Nat) (ms : List Mv) (n : Nat) (p : Int) : Int := valC (cntN ms (ledM many) (ids many) n) [p]
def restN (many : Nat) (ms : List Mv) (n : Nat) : Int := whole ms ^ n - sumL (ids many) (shrN many ms n)
def SharesAt (H : Hp) (t : Addr) (many : Nat) (ms : List Mv) (n : Nat) : Prop := ∃ l r us, H t = some (.tup [.ref l, r]) ∧ H l = some (.lst us) ∧ Paired (fun u p => FracAt H u (frac (shrN many ms n p) (whole ms ^ n))) us (ids many) ∧ FracAt H r (frac (restN many ms n) (whole ms ^ n))
theorem scSh : FnScope ["chain", "far", "weights", "_", "total", "ones", "place", "one"] ["chain", "far"] (defScope sShares) := ⟨rfl, rfl, rfl, by decide +kernel, rfl, by decide +kernel, by decide +kernel⟩
def spSh (C : Addr) : Sp := fun vs H Q _ => ∃ (x : Addr) (many : Nat) (ms : List Mv) (n : Nat), vs = [.ref x, .int (n : Int)] ∧ ChainAt C H x many ms ∧ Good many ms ∧ n ≤ 20 ∧ ∀ t H', Same H H' → SharesAt H' t many ms n → Q (.ref t) H'
theorem ok_shares {f fE fB fL fF fP fT : Addr} {fd fdE fdB fdL fdF fdP fdT : FuncData} {tF : Tok} (F : Fun K "shares" "shares" sShares f fd) (T : ChM K C fP fT fdP fdT) (DEv : Df K mg "everywhere" sEverywhere ["chain"] fE fdE) (GEv : FnOk P w K mg base CX0 2 fE fdE ["chain"] (spEv C))
    (DBs : Df K mg "_behind_a_step" sBehindAStep ["moves", "weights"] fB fdB) (DL : Df K mg "led_to" sLedTo ["whither", "group"] fL fdL) (DFr : Df K mg "fraction" sFraction ["top", "bottom"] fF fdF) (mgcd : mg "gcd" = some (.builtin "math.gcd")) (gF : mg "MOST_FAR" = some (.int 20 tF))
    (mt : mg "tuple" = none) (ms' : mg "sorted" = none) (mr : mg "range" = none) (mSu : mg "sum" = none) (mL : mg "list" = none) : FnOk P w K mg base CX0 3 f fd ["chain", "far"] (spSh C) := by
  have GBs : FnOk P w K mg base CX0 2 fB fdB ["moves", "weights"] spBs := ok_bs DBs.F DL mt ms'
  have GFr : FnOk P w K mg base CX0 1 fF fdF ["top", "bottom"] spFrZ := ok_fractionZ DFr.F mgcd
  have GP : FnOk P w K mg base CX0 1 fP fdP ["self"] (spPlaces C) := ok_places T.FP T.cl T.nM
  have GT : FnOk P w K mg base CX0 1 fT fdT ["self"] (spTold C) := ok_told T.FT T.cl T.nV mL
  refine F.ok scSh (fun vs H Q E h => ?_) (fun cdv A outer s H vs Q E hr h => ?_)
  · obtain ⟨x, many, ms, n, rfl, _⟩ := h
    rfl
  · obtain ⟨x, many, ms, n, rfl, hC, G, hn, q⟩ := h
    have r1 : Room 1 _ := hr.mono (by decide)
    have r2 : Room 2 _ := hr.mono (by decide)
    have hu1 := hu_of hr
    refine ⟨_, (pss_cons (ps_if (pt_cmpR op_notIn_rng (pv 1) (pe_callTy cr_range1 (by rfl) mr (by decide +kernel) (pa_cons (pe_op op_add (pe_glob (v := .int 20) (by rfl) gF ⟨_, rfl⟩) pe_int) pa_nil)) (by with_unfolding_all rfl)) pss_never pss_nil)
      (pss_cons (ps_set (i := 2) scSh.nd rfl (.inr rfl) (pe_disp1T hu1 (pps_cons (pe_call GEv r2 (by rfl) DEv.g DEv.F.kp DEv.b .nil pass0 (pa_cons (pv 0) pa_nil)) pe_int pps_nil)))
      (pss_cons (ps_for PassesOwn.never rfl (pi_range1 (by rfl) mr (pa_cons (pv 1) pa_nil)) (pg_name (i := 3) scSh.nd rfl (.inl rfl)) (pss_one (ps_set (i := 2) scSh.nd rfl (.inr rfl) (pe_call GBs r2 (by rfl) DBs.g DBs.F.kp DBs.b .nil pass0 (pa_cons (pe_meth0 (pv 0) T.cl T.hT GT r1 T.bT .nil pass0) (pa_cons (pv 2) pa_nil))))))
      (pss_cons (ps_set (i := 4) scSh.nd rfl (.inr rfl) (pe_sumVals rfl (by rfl) mSu (pv 2)))
      (pss_cons (ps_setLc (i := 5) (own := [("place", 6)]) (g := gName 6) (tt := tYes) (te := (tDGet2 (tVar 2) (tTup (tCons (tVar 6) tNil)) (tC (.int 0)))) rfl scSh.nd rfl rfl (sw_true rfl rfl rfl (by decide +kernel)) (pi_range1 (by rfl) mr (pa_cons (pe_meth0 (pv 0) T.cl T.hP GP r1 T.bP .nil pass0) pa_nil)) (blkOk_by (N := ["chain", "far", "weights", "_", "total", "ones", "place", "one"]) (sc := defScope sShares) (by decide +kernel)) (fun _ _ _ _ _ => by exact (pg_name (i := 6) scSh.nd rfl (.inl rfl))) (fun _ _ _ _ _ => pts_nil) (fun _ _ _ _ _ => by exact (pe_dget2 hu1 (pv 2) (pe_tup (pa_cons (pv 6) pa_nil)) pe_int ⟨by rfl, by rfl, by rfl, by rfl⟩)))
      (pss_one (ps_ret (pe_tup (pa_cons (pe_lc (own := [("one", 7)]) (g := gName 7) (tt := tYes) (te := (tCall spFrZ [] E0 (tCons (tVar 7) (tCons (tVar 4) tNil)))) rfl scSh.nd (pi_list (pv 5)) (blkOk_by (N := ["chain", "far", "weights", "_", "total", "ones", "place", "one"]) (sc := defScope sShares) (by decide +kernel)) (fun _ _ _ _ _ => by exact (pg_name (i := 7) scSh.nd rfl (.inl rfl))) (fun _ _ _ _ _ => pts_nil) (fun _ _ _ _ _ => by exact (pe_call GFr r1 (by rfl) DFr.g DFr.F.kp DFr.b .nil pass0 (pa_cons (pv 7) (pa_cons (pv 4) pa_nil))))) (pa_cons (pe_call GFr r1 (by rfl) DFr.g DFr.F.kp DFr.b .nil pass0 (pa_cons (pe_op op_sub (pv 4) (pe_callB (cr_sum rfl) (by rfl) mSu (by decide +kernel) (pa_cons (pv 5) pa_nil))) (pa_cons (pv 4) pa_nil))) pa_nil)))))))))), ?_⟩
    have m6 := G.m6
    have m1 := G.m1
    have Wp := pow_big (whole_pos G) (whole_le G) hn
    refine ⟨.int (n : Int), rfl, _, _, rfl, rfl, _, rfl, fun rp nrp => ?_⟩
    have s0 := same_new (o := .rng 0 (20 + 1)) nrp
    refine ⟨(n : Int), rp, 0, 21, rfl, rfl, upd_same, ?_⟩
    refine ⟨false, by rw [decide_eq_true (show (0 : Int) ≤ (n : Int) ∧ (n : Int) < 21 by omega)]; rfl, iteF ?_⟩
    have hC0 := hC.same s0
    show tSeq _ _ _ _ (upd H rp (.rng 0 21))
    replace s0 : Same H (upd H rp (.rng 0 21)) := s0
    replace hC0 : ChainAt C (upd H rp (.rng 0 21)) x many ms := hC0
    generalize upd H rp (.rng 0 21) = H0 at s0 hC0 ⊢
    -- weights = {everywhere(chain): 1}
    refine fun d0 nd0 => ?_
    have s1 := same_new (o := .dT []) nd0
    refine ⟨.ref x, rfl, x, many, ms, rfl, hC0.same s1, G, fun ev H1 s2 hev => ?_⟩
    have hd1 := s2 _ _ (upd_same (H := H0) (a := d0) (o := HO.dT []))
    refine ⟨hd1, ev, (ids many).map Sum.inl, .int 1, rfl, by rw [key_intsC]; exact hev, ?_⟩
    have s3 : Same H (upd H1 d0 (.dT [((ids many).map Sum.inl, V.int 1)])) := fun b o e => by
      have e0 := s0 _ _ e
      rw [upd_ne (ne_of_none e0 nd0)]
      exact s2 _ _ (s1 _ _ e0)
    have hd2 : (upd H1 d0 (.dT [((ids many).map Sum.inl, V.int 1)])) d0 = some (.dT (encC (cntN ms (ledM many) (ids many) 0))) := upd_same
    have nH0 : H d0 = none := s0.free nd0
    show tSeq _ _ _ _ (upd H1 d0 (.dT [((ids many).map Sum.inl, V.int 1)]))
    generalize upd H1 d0 (.dT [((ids many).map Sum.inl, V.int 1)]) = H2 at s3 hd2 ⊢
    refine ⟨_, rfl, _, rfl, by omega, by omega, ?_⟩
    refine for_range (lo := 0) (n := ((n : Int)).toNat) (fun i σ H' => ∃ d y3, σ = [some (.ref x), some (.int (n : Int)), some (.ref d), y3, none, none, none, none] ∧ Same H H' ∧ H d = none ∧ H' d = some (.dT (encC (cntN ms (ledM many) (ids many) i))))
      ⟨d0, none, rfl, s3, nH0, hd2⟩ ?_ ?_
    · rintro i σ H3 hi ⟨d, y3, rfl, s4, nHd, hd3⟩
      obtain ⟨dx, a0, ws0, h1, h2, h3⟩ := id (hC.same s4)
      refine ⟨.ref x, rfl, x, dx, _, rfl, h1, ch_noT, x, many, ms, rfl, hC.same s4, fun l wl nl hMl => ?_⟩
      have s5 := same_new (o := .lst wl) nl
      have hl : (upd H3 l (.lst wl)) l = some (.lst wl) := upd_same
      refine ⟨.ref d, rfl, l, d, many, wl, ms, _, rfl, hl, hMl, G, s5 _ _ hd3, cntN_good ms i, fun b H4 g4 nb hb => ?_⟩
      refine ⟨b, _, rfl, fun c o e => g4 c o (fun z => by rw [z, nHd] at e; cases e) (s5 _ _ (s4 _ _ e)), ?_, hb⟩
      exact s4.free (s5.free nb)
    · rintro σ H3 ⟨d, y3, rfl, s4, nHd, hd3⟩
      rw [show ((n : Int)).toNat = n by omega] at hd3
      refine ⟨.ref d, rfl, d, _, _, rfl, hd3, encC_vals _, ?_⟩
      rw [cntN_sum]
      -- ones
      obtain ⟨dx, a0, ws0, h1, h2, h3⟩ := id (hC.same s4)
      refine ⟨.ref x, rfl, x, dx, _, rfl, h1, ch_no, x, many, ms, rfl, hC.same s4, _, rfl, by omega, by omega, fun L nL => ?_⟩
      have idl : (ids many).length = many := by unfold ids; rw [List.length_map, List.length_range]
      have ida : ∀ {i : Nat}, i < many → (ids many)[i]? = some (i : Int) := fun {i} h => by unfold ids; rw [List.getElem?_map, List.getElem?_range h]; rfl
      refine lc_range (lo := 0) (n := ((many : Int)).toNat) (fun i H' => Same H3 H' ∧ H' L = some (.lst ((((ids many).take i).map (shrN many ms n)).map V.int))) ⟨same_new nL, by rw [upd_same]; rfl⟩ ?_ ?_
      · rintro i H4 hi ⟨s5, hL⟩
        have hi' : i < many := by omega
        have hd4 := s5 _ _ hd3
        refine ⟨rfl, .ref d, rfl, d, rfl, .inr ⟨_, .inl hd4⟩, .int (0 + (i : Int)), rfl, (by show 1 ≤ sizeLine; decide), fun tp ntp => ?_⟩
        have s6 := same_new (o := .tup [.int (0 + (i : Int))]) ntp
        have htp : (upd H4 tp (.tup [.int (0 + (i : Int))])) tp = some (.tup ((([(i : Int)] : List Int).map (Sum.inl (β := Str))).map kV)) := by rw [upd_same, Int.zero_add]; rfl
        refine ⟨_, DGet.t (s6 _ _ hd4) htp, ?_⟩
        rw [encC_get]
        refine ⟨_, s6 _ _ hL, ?_, fun b o e => ?_, ?_⟩
        · rw [List.length_map, List.length_map, List.length_take]
          exact small8 (by omega)
        · rw [upd_ne (ne_of_none e nL)]
          exact s6 _ _ (s5 _ _ e)
        · rw [upd_same, take_snoc (ida hi'), List.map_append, List.map_append]
          rfl
      · rintro H4 ⟨s5, hL⟩
        rw [show ((many : Int)).toNat = many by omega, List.take_of_length_le (by rw [idl]; exact Nat.le_refl _)] at hL
        have nHL : H L = none := s4.free nL
        -- the fractions
        refine ⟨.ref L, rfl, L, rfl, ⟨_, SqL.of hL⟩, fun D nD => ?_⟩
        refine lc_list (K := K) (a := L) (xs := ((ids many).map (shrN many ms n)).map V.int) (fun i H' => Same H4 H' ∧ ∃ us, H' D = some (.lst us) ∧ Paired (fun u p => FracAt H' u (frac (shrN many ms n p) (whole ms ^ n)) ∧ u ≠ .ref D) us ((ids many).take i))
          ⟨same_new nD, [], upd_same, by rw [List.take_zero]; exact .nil⟩ (fun i H' _ h => SqL.of (h.1 _ _ hL)) ?_ ?_
        · rintro i v H5 hv ⟨s6, us, hD, pu⟩
          rw [List.getElem?_map, List.getElem?_map] at hv
          obtain ⟨z, hz, rfl⟩ := Option.map_eq_some_iff.mp hv
          obtain ⟨p, hp, rfl⟩ := Option.map_eq_some_iff.mp hz
          have hi' : i < many := by rw [← idl]; exact (List.getElem?_eq_some_iff.mp hp).1
          refine ⟨rfl, _, rfl, _, rfl, shrN many ms n p, whole ms ^ n, rfl, by omega, Nat.lt_trans Wp.2 (Nat.pow_lt_pow_right (by decide) (by decide)), fun t nt => ?_⟩
          rw [fracZ_pos Wp.1]
          have s7 := same_new (o := .tup [.int (frac (shrN many ms n p) (whole ms ^ n)).1, .int (frac (shrN many ms n p) (whole ms ^ n)).2]) nt
          have ntD : t ≠ D := fun z => by rw [z, hD] at nt; cases nt
          have kp : ∀ b o, b ≠ D → H5 b = some o → (upd (upd H5 t (.tup [.int (frac (shrN many ms n p) (whole ms ^ n)).1, .int (frac (shrN many ms n p) (whole ms ^ n)).2])) D (.lst (us ++ [.ref t]))) b = some o := fun b o nb e => by
            rw [upd_ne nb]
            exact s7 _ _ e
          refine ⟨us, s7 _ _ hD, ?_, fun b o e => kp b o (ne_of_none e nD) (s6 _ _ e), us ++ [.ref t], upd_same, ?_⟩
          · have := pu.length
            rw [List.length_take] at this
            exact small8 (by omega)
          · rw [take_snoc hp]
            refine paired_end ⟨⟨t, rfl, by rw [upd_ne ntD]; exact upd_same⟩, fun z => by injection z with z; exact ntD z⟩ (L2.Paired.mapP pu fun u p h => ?_)
            obtain ⟨⟨t2, e1, e2⟩, nu⟩ := h
            exact ⟨⟨t2, e1, kp _ _ (fun z => nu (by rw [e1, z])) e2⟩, nu⟩
        · rintro H5 ⟨s6, us, hD, pu⟩
          rw [List.length_map, List.length_map, List.take_length] at pu
          refine ⟨_, rfl, .ref L, rfl, L, _, rfl, SqL.of (s6 _ _ hL), _, _, rfl, rfl, _, rfl, ?_⟩
          refine ⟨_, _, rfl, by omega, Nat.lt_trans Wp.2 (Nat.pow_lt_pow_right (by decide) (by decide)), fun t nt => ?_⟩
          rw [fracZ_pos Wp.1]
          have s7 := same_new (o := .tup [.int (frac (restN many ms n) (whole ms ^ n)).1, .int (frac (restN many ms n) (whole ms ^ n)).2]) nt
          have ht : (upd H5 t (.tup [.int (frac (restN many ms n) (whole ms ^ n)).1, .int (frac (restN many ms n) (whole ms ^ n)).2])) t = some (.tup [.int (frac (restN many ms n) (whole ms ^ n)).1, .int (frac (restN many ms n) (whole ms ^ n)).2]) := upd_same
          refine ⟨(by show 2 ≤ sizeLine; decide), fun T2 nT2 => ?_⟩
          have s8 := same_new (o := .tup [.ref D, .ref t]) nT2
          refine q T2 _ ((((s4.trans s5).trans s6).trans s7).trans s8) ⟨D, .ref t, us, upd_same, s8 _ _ (s7 _ _ hD), L2.Paired.mapP pu fun u p h => ?_, t, rfl, s8 _ _ ht⟩
          exact (h.1.same s7).same s8
end
def rowV (many : Nat) (g : Nat → Int) : List V := (List.range many).map fun e => V.int (g e)
theorem rowV_get {many e : Nat} {g : Nat → Int} (h : e < many) : (rowV many g)[e]? = some (.int (g e)) := by
  unfold rowV
  rw [List.getElem?_map, List.getElem?_range h]
  rfl
theorem rowV_len (many : Nat) (g : Nat → Int) : (rowV many g).length = many := by
  unfold rowV
  rw [List.length_map, List.length_range]
theorem rowV_set {many e : Nat} {g : Nat → Int} {z : Int} (h : e < many) : (rowV many g).set e (.int z) = rowV many (fun x => if x = e then z else g x) := by
  apply List.ext_getElem?
  intro i
  rw [List.getElem?_set]
  by_cases hi : i < many
  · rw [rowV_get hi, rowV_get hi, rowV_len]
    by_cases he : e = i
    · subst he
      rw [if_pos rfl, if_pos h, if_pos rfl]
    · rw [if_neg he, if_neg (Ne.symm he)]
  · have h1 : (rowV many g)[i]? = none := List.getElem?_eq_none_iff.mpr (by rw [rowV_len]; omega)
    have h2 : (rowV many (fun x => if x = e then z else g x))[i]? = none := List.getElem?_eq_none_iff.mpr (by rw [rowV_len]; omega)
    rw [h1, h2, if_neg (by omega)]
section
variable {P : Program} {w : World} {K : PySem.W.Frag} {mg : Str → Option Value} {base : Heap} {C : Addr}
/-- xs[i], by values -/
theorem pget_list {X : Cx} : PGet X (rIxL X.K) := by
  intro pins s σ H o i ov iv Q I ro ri h
  obtain ⟨p, xs, k, z, eo, ei, hq, he, q⟩ := h
  subst eo ei
  have e0 : ov = Value.ref p := ro
  subst e0
  obtain ⟨t, rfl⟩ := ri
  obtain ⟨its, r, pl, hz⟩ := I.list hq
  obtain ⟨j, h1, h2, h3, h4, h5⟩ := atI_get he
  obtain ⟨u, eu, ru⟩ := r.get h2
  have hl := r.length
  have hn := line63
  by_cases h0 : 0 ≤ k
  · have hj : k.toNat = j := by
      rw [seqIndex_of h0 h5] at h1
      exact Option.some.inj h1
    exact wpAny_getItem_list pl.isList h0 (by omega) (by rw [hj]; simpa using eu) ⟨z, H, I, ru, q⟩
  · have hj : (k + (its.toArray.size : Int)).toNat = j := by
      rw [seqIndex_neg (by omega) h4] at h1
      rw [List.size_toArray, ← hl]
      exact Option.some.inj h1
    exact wpAny_getItem_list_neg pl.isList (by omega) (by rw [List.size_toArray] <;> omega) (by omega) (by rw [hj]; simpa using eu) ⟨z, H, I, ru, q⟩
/-! ### _weights -/
/-- the weights of the moves that lead b to e -/
def cnt (ms : List Mv) (b e : Nat) : Int := (ms.map fun m => if m.2[b]? = some ((e : Nat) : Int) then m.1 else 0).sum
def tot (ms : List Mv) : Int := (ms.map (·.1)).sum
/-- rows of numbers: the lists at as, told by f; all new since H0 -/
structure WtsAt (H0 H : Hp) (R : Addr) (as : List Addr) (many : Nat) (f : Nat → Nat → Int) : Prop where
  at_ : H R = some (.lst (as.map V.ref))
  len : as.length = many
  row : ∀ b a, as[b]? = some a → H a = some (.lst (rowV many (f b)))
  nd : as.Nodup
  new : ∀ a ∈ as, H0 a = none
  newR : H0 R = none
  neR : R ∉ as
theorem WtsAt.same {H0 H H' : Hp} {R : Addr} {as : List Addr} {many : Nat} {f : Nat → Nat → Int} (h : WtsAt H0 H R as many f) (s : Same H H') : WtsAt H0 H' R as many f :=
  ⟨s _ _ h.at_, h.len, fun b a e => s _ _ (h.row b a e), h.nd, h.new, h.newR, h.neR⟩
/-- one number of one row is changed -/
theorem WtsAt.put {H0 H : Hp} {R : Addr} {as : List Addr} {many : Nat} {f : Nat → Nat → Int} {b e : Nat} {a : Addr} {z : Int} (h : WtsAt H0 H R as many f) (hb : as[b]? = some a) (he : e < many) :
    WtsAt H0 (upd H a (.lst ((rowV many (f b)).set e (.int z)))) R as many (fun x y => if x = b ∧ y = e then z else f x y) := by
  have ma := List.mem_of_getElem? hb
  have nRa : R ≠ a := fun q => h.neR (q ▸ ma)
  refine ⟨by rw [upd_ne nRa]; exact h.at_, h.len, fun x c hx => ?_, h.nd, h.new, h.newR, h.neR⟩
  by_cases hx2 : x = b
  · subst hx2
    rw [hb] at hx
    cases hx
    rw [upd_same, rowV_set he]
    congr 3
    funext y
    by_cases hy : y = e
    · rw [if_pos hy, if_pos ⟨rfl, hy⟩]
    · rw [if_neg hy, if_neg (fun q => hy q.2)]
  · have nc : c ≠ a := fun q => hx2 (nd_ix h.nd hx (q ▸ hb))
    rw [upd_ne nc, h.row x c hx]
    congr 3
    funext y
    rw [if_neg (fun q => hx2 q.1)]
theorem WtsAt.keep {H0 H : Hp} {R : Addr} {as : List Addr} {many : Nat} {f : Nat → Nat → Int} {a : Addr} {o : HO} (h : WtsAt H0 H R as many f) (s : Same H0 H) (ma : a ∈ as) : Same H0 (upd H a o) := fun b u e => by
  rw [upd_ne (ne_of_none e (h.new a ma))]
  exact s b u e
theorem flat_rep {α : Type} : ∀ (n : Nat) (x : α), (List.replicate n [x]).flatten = List.replicate n x
  | 0, _ => rfl
  | n + 1, x => by rw [List.replicate_succ, List.flatten_cons, flat_rep n x, List.replicate_succ]; rfl
def spWeights (C : Addr) : Sp := fun vs H Q _ => ∃ (x : Addr) (many : Nat) (ms : List Mv), vs = [.ref x] ∧ ChainAt C H x many ms ∧ Good many ms ∧ ∀ R as H', Same H H' → WtsAt H H' R as many (cnt ms) → Q (.ref R) H'
def nW : List Str := ["chain", "rows", "weight", "whither", "begin", "end", "_"]
theorem scW : FnScope ["chain", "rows", "weight", "whither", "begin", "end", "_"] ["chain"] (defScope sWeights) := ⟨rfl, rfl, rfl, by decide +kernel, rfl, by decide +kernel, by decide +kernel⟩
theorem cnt_snoc (ms : List Mv) (i : Nat) (m : Mv) (h : ms[i]? = some m) (b e : Nat) : cnt (ms.take (i + 1)) b e = cnt (ms.take i) b e + (if m.2[b]? = some ((e : Nat) : Int) then m.1 else 0) := by
  unfold cnt
  rw [List.take_add_one, h, List.map_append, List.sum_append]
  simp
/-- what a chain's methods are -/
theorem ok_weights {f fP fT : Addr} {fd fdP fdT : FuncData} (F : Fun K "_weights" "_weights" sWeights f fd) (T : ChM K C fP fT fdP fdT) (mr : mg "range" = none) (me : mg "enumerate" = none) (mL : mg "list" = none) : FnOk P w K mg base CX0 2 f fd ["chain"] (spWeights C) := by
  have GP : FnOk P w K mg base CX0 1 fP fdP ["self"] (spPlaces C) := ok_places T.FP T.cl T.nM
  have GT : FnOk P w K mg base CX0 1 fT fdT ["self"] (spTold C) := ok_told T.FT T.cl T.nV mL
  refine F.ok scW (fun vs H Q E h => ?_) (fun cdv A outer s H vs Q E hr h => ?_)
  · obtain ⟨x, many, ms, rfl, _⟩ := h
    rfl
  · obtain ⟨x, many, ms, rfl, hC, G, q⟩ := h
    refine ⟨_, pss_cons (ps_setLc (i := 1) (own := [("_", 6)]) (g := gName 6) (tt := tYes) rfl scW.nd rfl rfl (sw_true rfl rfl rfl (by decide +kernel)) (pi_range1 (by rfl) mr (pa_cons (pe_meth0 (pv 0) T.cl T.hP GP hr T.bP .nil pass0) pa_nil)) (blkOk_by (N := nW) (sc := defScope sWeights) (by decide +kernel))
          (fun _ _ _ _ _ => pg_name (i := 6) scW.nd rfl (.inl rfl)) (fun _ _ _ _ _ => pts_nil) (fun _ _ _ _ _ => pe_op op_rep (pe_lst (pa_cons pe_int pa_nil)) (pe_meth0 (pv 0) T.cl T.hP GP hr T.bP .nil pass0)))
      (pss_cons (ps_for PassesOwn.never rfl (pi_list (pe_meth0 (pv 0) T.cl T.hT GT hr T.bT .nil pass0)) (pg_tup rfl (pgs_cons (pg_name (i := 2) scW.nd rfl (.inl rfl)) (pgs_cons (pg_name (i := 3) scW.nd rfl (.inl rfl)) pgs_nil)))
        (pss_one (ps_for PassesOwn.never rfl (pi_enumT (by rfl) me (pa_cons (pv 3) pa_nil)) (pg_tup rfl (pgs_cons (pg_name (i := 4) scW.nd rfl (.inl rfl)) (pgs_cons (pg_name (i := 5) scW.nd rfl (.inl rfl)) pgs_nil)))
          (pss_one (ps_augS (pe_ix ix_list (pv 1) (pv 4) (fun _ _ => rfl)) (pv 5) pget_list (pv 2) ip_add set_list)))))
      (pss_one (ps_ret (pv 1)))), ?_⟩
    obtain ⟨dx, a0, ws, h1, h2, h3⟩ := id hC
    have m1 := G.m1
    have m6 := G.m6
    have en : ((many : Nat) : Int).toNat = many := by omega
    -- rows = [[0] * chain.places() for _ in range(chain.places())]
    refine ⟨.ref x, rfl, x, dx, _, rfl, h1, ch_no, x, many, ms, rfl, hC, _, rfl, by omega, by omega, fun R nR => ?_⟩
    refine lc_range (lo := 0) (n := ((many : Nat) : Int).toNat) (fun j H' => Same H H' ∧ ∃ as : List Addr, as.length = j ∧ H' R = some (.lst (as.map V.ref)) ∧ (∀ a ∈ as, H' a = some (.lst (rowV many fun _ => 0))) ∧ as.Nodup ∧ (∀ a ∈ as, H a = none) ∧ R ∉ as)
      ⟨same_new nR, [], rfl, upd_same, (fun _ z => nomatch z), List.nodup_nil, (fun _ z => nomatch z), (fun z => nomatch z)⟩ ?_ ?_
    · rintro j H1 hj ⟨s1, as, el, hR, hrow, nd, new, nRa⟩
      rw [en] at hj
      refine ⟨rfl, Nat.le_add_left 1 0 |> fun _ => (by show 1 ≤ sizeLine; decide), fun z nz => ?_⟩
      have s2 : Same H1 (upd H1 z (.lst [.int 0])) := same_new nz
      have hC2 := (hC.same s1).same s2
      obtain ⟨dx2, a2, ws2, g1, g2, g3⟩ := id hC2
      refine ⟨.ref x, rfl, x, dx2, _, rfl, g1, ch_no, x, many, ms, rfl, hC2, ?_⟩
      refine ⟨z, (many : Int), [.int 0], rfl, rfl, upd_same, by omega, by omega, ?_, fun y ny => ?_⟩
      · rw [en]
        exact Nat.le_of_lt (small8 (by show 1 * many ≤ 8; omega))
      · have s3 : Same (upd H1 z (.lst [.int 0])) (upd (upd H1 z (.lst [.int 0])) y (.lst (List.replicate ((many : Nat) : Int).toNat [V.int 0]).flatten)) := same_new ny
        have erow : (List.replicate ((many : Nat) : Int).toNat [V.int 0]).flatten = rowV many fun _ => 0 := by
          rw [en]
          unfold rowV
          apply List.ext_getElem?
          intro i
          have e1 := flat_rep many (V.int 0)
          rw [e1, List.getElem?_replicate, List.getElem?_map]
          by_cases hi : i < many
          · rw [if_pos hi, List.getElem?_range hi]
            rfl
          · rw [if_neg hi, List.getElem?_eq_none_iff.mpr (by rw [List.length_range]; omega)]
            rfl
        have ny1 : H1 y = none := s2.free ny
        have hRn : (upd (upd H1 z (.lst [.int 0])) y (.lst (List.replicate ((many : Nat) : Int).toNat [V.int 0]).flatten)) R = some (.lst (as.map V.ref)) := s3 _ _ (s2 _ _ hR)
        refine ⟨_, hRn, by rw [List.length_map, el]; exact small8 (by omega), ?_⟩
        have nyR : y ≠ R := (ne_of_none hR ny1).symm
        have keep : ∀ b u, b ≠ R → H1 b = some u → (upd (upd (upd H1 z (.lst [.int 0])) y (.lst (List.replicate ((many : Nat) : Int).toNat [V.int 0]).flatten)) R (.lst (as.map V.ref ++ [.ref y]))) b = some u := fun b u nb e => by
          rw [upd_ne nb]
          exact s3 _ _ (s2 _ _ e)
        refine ⟨fun b u e => ?_, as ++ [y], by rw [List.length_append, el]; rfl, by rw [upd_same, List.map_append]; rfl, fun a ha => ?_, ?_, fun a ha => ?_, ?_⟩
        · by_cases hb : b = R
          · rw [hb] at e
            rw [nR] at e
            cases e
          · exact keep b u hb (s1 _ _ e)
        · rcases List.mem_append.mp ha with ha | ha
          · exact keep a _ (fun q => nRa (q ▸ ha)) (hrow a ha)
          · have ea : a = y := by simpa using ha
            rw [ea, upd_ne nyR, upd_same, erow]
        · refine List.nodup_append.mpr ⟨nd, by simp, fun a ha b hb => ?_⟩
          have eb : b = y := by simpa using hb
          rw [eb]
          exact ne_of_none (hrow a ha) ny1
        · rcases List.mem_append.mp ha with ha | ha
          · exact new a ha
          · have ea : a = y := by simpa using ha
            rw [ea]
            exact s1.free ny1
        · intro ha
          rcases List.mem_append.mp ha with ha | ha
          · exact nRa ha
          · have ea : R = y := by simpa using ha
            exact nyR ea.symm
    · rintro H1 ⟨s1, as, el, hR, hrow, nd, new, nRa⟩
      rw [en] at el
      have RA0 : WtsAt H H1 R as many (cnt []) := ⟨hR, el, fun b a e => hrow a (List.mem_of_getElem? e), nd, new, nR, nRa⟩
      have hC1 := hC.same s1
      obtain ⟨dx1, a1, ws1, g1, g2, g3⟩ := id hC1
      refine ⟨.ref x, rfl, x, dx1, _, rfl, g1, ch_noT, x, many, ms, rfl, hC1, fun l wl nl hM => ?_⟩
      have s2 : Same H1 (upd H1 l (.lst wl)) := same_new nl
      have lenW := hM.length
      have nlH : H l = none := s1.free nl
      refine ⟨l, rfl, ⟨_, SqL.of upd_same⟩, for_list (K := K) (a := l) (xs := wl)
        (fun i σ H' => ∃ y2 y3 y4 y5, σ = [some (.ref x), some (.ref R), y2, y3, y4, y5, none] ∧ Same H H' ∧ H' l = some (.lst wl) ∧ MovesAt H' wl ms ∧ WtsAt H H' R as many (cnt (ms.take i)) ∧ l ∉ as)
        ⟨none, none, none, none, rfl, s1.trans s2, upd_same, hM, RA0.same s2, fun q => ?_⟩ (fun i σ H' _ ⟨_, _, _, _, _, _, hl, _⟩ => SqL.of hl) ?_ ?_⟩
      · have := hrow l q
        rw [nl] at this
        cases this
      · rintro i v σ H2 hv ⟨y2, y3, y4, y5, rfl, sH, hl, hM2, RA, nla⟩
        obtain ⟨m, em, ⟨ta, tb, rfl, hta, htb⟩⟩ := hM2.get' hv
        have hgood := G.mv m (List.mem_of_getElem? em)
        obtain ⟨_, _, hlen, hin⟩ := hgood
        refine ⟨ta, _, rfl, SqT.of hta, rfl, .int m.1, [.ref tb], rfl, .ref tb, [], rfl, rfl, ?_⟩
        refine ⟨.ref tb, rfl, tb, _, rfl, SqT.of htb, for_it (walk_enumT (K := K) (a := tb) (xs := m.2.map V.int))
          (fun j σ H' => ∃ y4 y5, σ = [some (.ref x), some (.ref R), some (.int m.1), some (.ref tb), y4, y5, none] ∧ Same H H' ∧ H' l = some (.lst wl) ∧ MovesAt H' wl ms ∧ H' tb = some (.tup (m.2.map V.int)) ∧
            WtsAt H H' R as many (fun b e => cnt (ms.take i) b e + (if b < j ∧ m.2[b]? = some ((e : Nat) : Int) then m.1 else 0)))
          ⟨y4, y5, rfl, sH, hl, hM2, htb, ?_⟩ (fun j σ H' _ ⟨_, _, _, _, _, _, h, _⟩ => SqT.of h) ?_ ?_⟩
        · have ef : (fun b e => cnt (ms.take i) b e + (if b < 0 ∧ m.2[b]? = some ((e : Nat) : Int) then m.1 else 0)) = cnt (ms.take i) := by
            funext b e
            rw [if_neg (fun q => absurd q.1 (Nat.not_lt_zero _)), Int.add_zero]
          rw [ef]
          exact RA
        · rintro j z σ H3 H4 hj ⟨y4, y5, rfl, sH3, hl3, hM3, htb3, RA3⟩ ⟨Tp, u, u2, rfl, nT, rfl, eu, ev⟩
          have eu' : V.int ((j : Nat) : Int) = u := Option.some.inj eu
          subst eu'
          rw [List.length_map, hlen] at hj
          have hj2 : j < m.2.length := by omega
          have ev : (m.2.map V.int)[j]? = some u2 := ev
          rw [List.getElem?_map, List.getElem?_eq_getElem hj2] at ev
          have eu2 : V.int m.2[j] = u2 := Option.some.inj ev
          subst eu2
          obtain ⟨e0, e1⟩ := hin m.2[j] (List.getElem_mem hj2)
          obtain ⟨e, ee⟩ : ∃ e : Nat, m.2[j] = (e : Int) := ⟨m.2[j].toNat, by omega⟩
          have he : e < many := by omega
          have s4 : Same H3 (upd H3 Tp (.tup [.int ((j : Nat) : Int), .int m.2[j]])) := same_new nT
          have RA4 := RA3.same s4
          obtain ⟨a, ha⟩ : ∃ a, as[j]? = some a := ⟨as[j]'(by omega), List.getElem?_eq_getElem (by omega)⟩
          have hrw := RA4.row j a ha
          have ma := List.mem_of_getElem? ha
          refine ⟨Tp, _, rfl, SqT.of upd_same, rfl, .int ((j : Nat) : Int), [.int m.2[j]], rfl, .int m.2[j], [], rfl, rfl, ?_⟩
          have gj : (as.map V.ref)[j]? = some (.ref a) := by rw [List.getElem?_map, ha]; rfl
          refine ⟨.ref R, rfl, .int ((j : Nat) : Int), rfl, R, _, ((j : Nat) : Int), _, rfl, rfl, SqL.of RA4.at_, atI_nat gj, .int m.2[j], rfl, ?_⟩
          have gz : (rowV many (fun e => cnt (ms.take i) j e + (if j < j ∧ m.2[j]? = some ((e : Nat) : Int) then m.1 else 0)))[e]? = some (.int (cnt (ms.take i) j e)) := by
            rw [rowV_get he, if_neg (fun q => absurd q.1 (Nat.lt_irrefl _)), Int.add_zero]
          refine ⟨a, _, m.2[j], _, rfl, rfl, SqL.of hrw, at_of ee gz, .int m.1, rfl, _, _, rfl, rfl, a, _, m.2[j], e, rfl, rfl, hrw, ?_, ?_⟩
          · rw [ee, rowV_len]
            unfold ixN
            rw [if_pos (by omega), if_pos (by omega)]
            rfl
          · have RA5 := RA4.put (z := cnt (ms.take i) j e + m.1) ha he
            have neq : ∀ {b : Addr} {u : HO}, H b = some u → b ≠ a := fun e => ne_of_none e (RA4.new a ma)
            have nl2 : l ≠ a := fun q => nla (q ▸ ma)
            refine ⟨some (.int ((j : Nat) : Int)), some (.int m.2[j]), rfl, RA4.keep (sH3.trans s4) ma, ?_, ?_, ?_, ?_⟩
            · rw [upd_ne nl2]
              exact s4 _ _ hl3
            · refine MovesAt.same (fun b xs q => ?_) (hM3.same (Same.tups s4))
              rw [upd_ne]
              · exact q
              · intro q2
                rw [q2, hrw] at q
                cases q
            · rw [upd_ne]
              · exact s4 _ _ htb3
              · intro q2
                have := s4 _ _ htb3
                rw [q2, hrw] at this
                cases this
            · have ef : (fun x y => if x = j ∧ y = e then cnt (ms.take i) j e + m.1 else cnt (ms.take i) x y + (if x < j ∧ m.2[x]? = some ((y : Nat) : Int) then m.1 else 0)) = fun b e => cnt (ms.take i) b e + (if b < j + 1 ∧ m.2[b]? = some ((e : Nat) : Int) then m.1 else 0) := by
                funext b y
                by_cases hb : b = j
                · subst hb
                  have g : m.2[b]? = some m.2[b] := List.getElem?_eq_getElem hj2
                  by_cases hy : y = e
                  · subst hy
                    rw [if_pos ⟨rfl, rfl⟩, if_pos ⟨Nat.lt_succ_self _, by rw [g, ee]⟩]
                  · rw [if_neg (fun q => hy q.2), if_neg (fun q => Nat.lt_irrefl _ q.1), if_neg (fun q => hy ?_)]
                    have q2 := q.2
                    rw [g, ee] at q2
                    have := Option.some.inj q2
                    omega
                · rw [if_neg (fun q => hb q.1)]
                  have hh : (b < j ∧ m.2[b]? = some ((y : Nat) : Int)) ↔ (b < j + 1 ∧ m.2[b]? = some ((y : Nat) : Int)) := ⟨fun q => ⟨Nat.lt_succ_of_lt q.1, q.2⟩, fun q => ⟨by omega, q.2⟩⟩
                  by_cases hc : b < j ∧ m.2[b]? = some ((y : Nat) : Int)
                  · rw [if_pos hc, if_pos (hh.mp hc)]
                  · rw [if_neg hc, if_neg (fun q => hc (hh.mpr q))]
              rw [← ef]
              exact RA5
        · rintro σ H3 ⟨y4, y5, rfl, sH3, hl3, hM3, htb3, RA3⟩
          refine ⟨some (.int m.1), some (.ref tb), y4, y5, rfl, sH3, hl3, hM3, ?_, nla⟩
          have ef : (fun b e => cnt (ms.take i) b e + (if b < (m.2.map V.int).length ∧ m.2[b]? = some ((e : Nat) : Int) then m.1 else 0)) = cnt (ms.take (i + 1)) := by
            funext b e
            rw [cnt_snoc ms i m em, List.length_map]
            by_cases hc : m.2[b]? = some ((e : Nat) : Int)
            · obtain ⟨hlt, _⟩ := List.getElem?_eq_some_iff.mp hc
              rw [if_pos ⟨hlt, hc⟩, if_pos hc]
            · rw [if_neg (fun q => hc q.2), if_neg hc]
          rw [← ef]
          exact RA3
      · rintro σ H2 ⟨y2, y3, y4, y5, rfl, sH, hl, hM2, RA, nla⟩
        rw [lenW, List.take_length] at RA
        exact ⟨.ref R, rfl, q R as H2 sH RA⟩
end
section
variable {P : Program} {w : World} {K : PySem.W.Frag} {mg : Str → Option Value} {base : Heap} {C : Addr}
/-! ### equations: rows of numbers in a list -/
def Big1 (x : Int) : Prop := x.natAbs < 2 ^ 1000
structure MatAt (H : Hp) (R : Addr) (as : List Addr) (n : Nat) (M : Nat → Nat → Int) : Prop where
  at_ : H R = some (.lst (as.map V.ref))
  len : as.length = n
  row : ∀ i a, as[i]? = some a → H a = some (.lst (rowV (n + 1) (M i))) ∧ a ≠ R
theorem MatAt.same {H H' : Hp} {R : Addr} {as : List Addr} {n : Nat} {M : Nat → Nat → Int} (s : Same H H') (h : MatAt H R as n M) : MatAt H' R as n M := ⟨s _ _ h.at_, h.len, fun i a e => ⟨s _ _ (h.row i a e).1, (h.row i a e).2⟩⟩
theorem MatAt.get {H : Hp} {R : Addr} {as : List Addr} {n : Nat} {M : Nat → Nat → Int} (h : MatAt H R as n M) {i : Nat} (hi : i < n) : ∃ a, as[i]? = some a ∧ (as.map V.ref)[i]? = some (.ref a) ∧ H a = some (.lst (rowV (n + 1) (M i))) ∧ a ≠ R := by
  have hl : i < as.length := by rw [h.len]; exact hi
  refine ⟨as[i], List.getElem?_eq_getElem hl, by rw [List.getElem?_map, List.getElem?_eq_getElem hl]; rfl, ?_⟩
  exact h.row i as[i] (List.getElem?_eq_getElem hl)
/-! ### _bring_up -/
theorem scBu : FnScope ["rows", "at", "found", "lead"] ["rows", "at"] (defScope sBringUp) := ⟨rfl, rfl, rfl, by decide +kernel, rfl, by decide +kernel, by decide +kernel⟩
def swapA (as : List Addr) (k f : Nat) : List Addr := (as.set f (as.getD k 0)).set k (as.getD f 0)
theorem swapA_len (as : List Addr) (k f : Nat) : (swapA as k f).length = as.length := by unfold swapA; rw [List.length_set, List.length_set]
theorem swapA_get {as : List Addr} {k f i : Nat} (hk : k < as.length) (hf : f < as.length) (hi : i < as.length) : (swapA as k f)[i]? = as[if i = k then f else if i = f then k else i]? := by
  unfold swapA
  rw [List.getElem?_set]
  by_cases a : k = i
  · rw [if_pos a, if_pos a.symm, if_pos (by rw [List.length_set]; exact hk), List.getD_eq_getElem?_getD, List.getElem?_eq_getElem hf]
    rfl
  · rw [if_neg a, if_neg (Ne.symm a), List.getElem?_set]
    by_cases b : f = i
    · rw [if_pos b, if_pos b.symm, if_pos hf, List.getD_eq_getElem?_getD, List.getElem?_eq_getElem hk]
      rfl
    · rw [if_neg b, if_neg (Ne.symm b)]
def spBu : Sp := fun vs H Q _ => ∃ (R : Addr) (as : List Addr) (n k : Nat) (M : Nat → Nat → Int), vs = [.ref R, .int (k : Int)] ∧ MatAt H R as n M ∧ k < n ∧ n ≤ 1000 ∧ (∃ f, k ≤ f ∧ f < n ∧ M f k ≠ 0) ∧
  ∀ f H', k ≤ f → f < n → M f k ≠ 0 → Gr R H H' → H' R = some (.lst ((swapA as k f).map V.ref)) → Q .non H'
theorem ixN_in {n : Nat} {x : Int} (h0 : 0 ≤ x) (h : x < (n : Int)) : ixN n x = some x.toNat := by
  unfold ixN
  rw [if_pos h0, if_pos h]
theorem ok_bring {k0 : Nat} {f : Addr} {fd : FuncData} (F : Fun K "_bring_up" "_bring_up" sBringUp f fd) : FnOk P w K mg base CX0 (k0 + 1) f fd ["rows", "at"] spBu := by
  refine F.ok scBu (fun vs H Q E h => ?_) (fun cdv A outer s H vs Q E hr h => ?_)
  · obtain ⟨R, as, n, k, M, rfl, _⟩ := h
    rfl
  · obtain ⟨R, as, n, k, M, rfl, hM, hk, n1k, ⟨f0, f1, f2, f3⟩, q⟩ := h
    refine ⟨_, (pss_cons (ps_set (i := 2) scBu.nd rfl (.inl rfl) (pv 1))
      (pss_cons (ps_while PassesOwn.never (pt_cmpR op_eq (pe_ix ix_list (pe_ix ix_list (pv 0) (pv 2) (fun _ _ => rfl)) (pv 1) (fun _ _ => rfl)) pe_int (nomark _)) (pss_one (ps_aug (i := 2) scBu.nd rfl (.inl rfl) pe_int ip_add)))
      (pss_cons (ps_set (i := 3) scBu.nd rfl (.inl rfl) (pe_ix ix_list (pv 0) (pv 2) (fun _ _ => rfl)))
      (pss_cons (ps_asg (pe_ix ix_list (pv 0) (pv 1) (fun _ _ => rfl)) (pg_sub (pv 0) (pv 2) set_list))
      (pss_one (ps_asg (pv 3) (pg_sub (pv 0) (pv 1) set_list))))))), ?_⟩
    refine ⟨_, rfl, ?_⟩
    refine while_by (fun σ H' => ∃ (g : Nat) (y : Option V), σ = [some (.ref R), some (.int (k : Int)), some (.int (g : Int)), y] ∧ H' = H ∧ k ≤ g ∧ g ≤ f0 ∧ ∀ i, k ≤ i → i < g → M i k = 0)
      (fun σ _ => match σ with | [_, _, some (.int g), _] => n - g.toNat | _ => 0) ⟨k, none, rfl, rfl, Nat.le_refl _, f1, fun i h1 h2 => absurd h2 (by omega)⟩ ?_ ?_
    · rintro σ H' ⟨g, y, rfl, rfl, kg, gf, hz⟩
      obtain ⟨a, ea, ea2, ha, _⟩ := hM.get (i := g) (by omega)
      refine ⟨.ref R, rfl, .int (g : Int), rfl, R, _, (g : Int), _, rfl, rfl, SqL.of hM.at_, at_of (j := g) rfl ea2, .int (k : Int), rfl, a, _, (k : Int), _, rfl, rfl, SqL.of ha, at_of (j := k) rfl (rowV_get (by omega)), rfl, _, rfl, ite2 (fun c => ?_) (fun c => ?_)⟩
      · have z : M g k = 0 := by
          have := of_decide_eq_true c
          injection this
        have ne : g ≠ f0 := fun e => f3 (by rw [← e]; exact z)
        refine ⟨.int (g : Int), rfl, (g : Int), 1, rfl, rfl, ⟨g + 1, y, ?_, rfl, by omega, by omega, fun i h1 h2 => ?_⟩, ?_⟩
        · show [some (V.ref R), some (V.int (k : Int)), some (V.int ((g : Int) + 1)), y] = _
          rw [show ((g + 1 : Nat) : Int) = (g : Int) + 1 by omega]
        · by_cases e : i = g
          · rw [e]; exact z
          · exact hz i h1 (by omega)
        · show n - ((g : Int) + 1).toNat < n - ((g : Int)).toNat
          omega
      · have z : M g k ≠ 0 := fun e => c (decide_eq_true (by rw [e]))
        have hg : g < n := by omega
        obtain ⟨b, eb, eb2, hb, _⟩ := hM.get hk
        have hls : (as.map V.ref).length = n := by rw [List.length_map, hM.len]
        refine ⟨.ref R, rfl, .int (g : Int), rfl, R, _, (g : Int), _, rfl, rfl, SqL.of hM.at_, at_of (j := g) rfl ea2, ?_⟩
        refine ⟨.ref R, rfl, .int (k : Int), rfl, R, _, (k : Int), _, rfl, rfl, SqL.of hM.at_, at_of (j := k) rfl eb2, .ref R, rfl, .int (g : Int), rfl, R, _, (g : Int), g, rfl, rfl, hM.at_, ?_, ?_⟩
        · rw [hls]
          exact ixN_in (by omega) (by omega)
        refine ⟨.ref a, rfl, .ref R, rfl, .int (k : Int), rfl, R, _, (k : Int), k, rfl, rfl, upd_same, ?_, ?_⟩
        · rw [List.length_set, hls]
          exact ixN_in (by omega) (by omega)
        rw [upd_upd]
        refine q g _ kg hg z (fun c o nc e => by rw [upd_ne nc]; exact e) ?_
        rw [upd_same]
        unfold swapA
        rw [List.map_set, List.map_set, List.getD_eq_getElem?_getD, List.getD_eq_getElem?_getD, ea, eb]
        rfl
    · rintro σ H' Q1 Q2 hq h
      obtain ⟨v1, e1, v2, e2, p, xs, i, z, h1, h2, h3, h4, v3, e3, p', xs', i', z', g1, g2, g3, g4, fl, b, eb, hb⟩ := h
      exact ⟨v1, e1, v2, e2, p, xs, i, z, h1, h2, h3, h4, v3, e3, p', xs', i', z', g1, g2, g3, g4, fl, b, eb, hq _ _ hb⟩
/-! ### _without -/
theorem scWo : FnScope ["row", "lead", "at", "before", "mine", "other"] ["row", "lead", "at", "before"] (defScope sWithout) := ⟨rfl, rfl, rfl, by decide +kernel, rfl, by decide +kernel, by decide +kernel⟩
def spWo : Sp := fun vs H Q _ => ∃ (ra la : Addr) (n k : Nat) (d : Int) (g h : Nat → Int), vs = [.ref ra, .ref la, .int (k : Int), .int d] ∧ H ra = some (.lst (rowV (n + 1) g)) ∧ H la = some (.lst (rowV (n + 1) h)) ∧ k ≤ n ∧ n ≤ 1000 ∧ d ≠ 0 ∧ Big1 d ∧ (∀ j, j ≤ n → Big1 (g j) ∧ Big1 (h j)) ∧
  ∀ a H', Same H H' → H' a = some (.lst (rowV (n + 1) fun j => (h k * g j - g k * h j).fdiv d)) → H a = none → Q (.ref a) H'
theorem big_mul {x y : Int} (hx : Big1 x) (hy : Big1 y) : CMulW x y := wide_mul hx hy (by decide) (by decide) (by decide)
theorem rowV_take (n i : Nat) (g : Nat → Int) : (rowV n g).take i = (List.range (min i n)).map fun e => V.int (g e) := by
  unfold rowV
  rw [← List.map_take, List.take_range]
theorem ok_without {k0 : Nat} {f : Addr} {fd : FuncData} (F : Fun K "_without" "_without" sWithout f fd) (mZ : mg "zip" = none) : FnOk P w K mg base CX0 (k0 + 1) f fd ["row", "lead", "at", "before"] spWo := by
  refine F.ok scWo (fun vs H Q E h => ?_) (fun cdv A outer s H vs Q E hr h => ?_)
  · obtain ⟨ra, la, n, k, d, g, h, rfl, _⟩ := h
    rfl
  · obtain ⟨ra, la, n, k, d, g, h, rfl, hra, hla, hk, n1k, d0, db, hb, q⟩ := h
    refine ⟨_, (pss_one (ps_ret (pe_lc (own := [("mine", 4), ("other", 5)]) (g := gTup K 2 (gCons (gName 4) (gCons (gName 5) gNil))) (tt := tYes) (te := (tOp (rI CDivZ fun i j => .int (i.fdiv j)) (tOp (rI0 fun i j => .int (i - j)) (tOp (rI CMulW fun i j => .int (i * j)) (tOp (rIxL K) (tVar 1) (tVar 2)) (tVar 4)) (tOp (rI CMulW fun i j => .int (i * j)) (tOp (rIxL K) (tVar 0) (tVar 2)) (tVar 5))) (tVar 3))) rfl scWo.nd (pi_zip (by rfl) mZ (pa_cons (pv 0) (pa_cons (pv 1) pa_nil))) (blkOk_by (N := ["row", "lead", "at", "before", "mine", "other"]) (sc := defScope sWithout) (by decide +kernel)) (fun _ _ _ _ _ => by exact ((pg_tup rfl (pgs_cons (pg_name (i := 4) scWo.nd rfl (.inl rfl)) (pgs_cons (pg_name (i := 5) scWo.nd rfl (.inl rfl)) pgs_nil))))) (fun _ _ _ _ _ => pts_nil) (fun _ _ _ _ _ => by exact (pe_op op_fdivZ (pe_op op_sub (pe_op op_mulW (pe_ix ix_list (pv 1) (pv 2) (fun _ _ => rfl)) (pv 4)) (pe_op op_mulW (pe_ix ix_list (pv 0) (pv 2) (fun _ _ => rfl)) (pv 5))) (pv 3)))))), ?_⟩
    have lg := rowV_len (n + 1) g
    have lh := rowV_len (n + 1) h
    refine ⟨.ref ra, rfl, .ref la, rfl, ra, la, _, _, rfl, SqL.of hra, SqL.of hla, fun D nD => ?_⟩
    have sD := same_new (o := .lst []) nD
    refine lc_it (walk_zip (K := K) (a := ra) (b := la) (xs := rowV (n + 1) g) (ys := rowV (n + 1) h) (n := n + 1) (by rw [lg, lh, Nat.min_self])) (fun i H' => Same H H' ∧ H' D = some (.lst ((List.range i).map fun j => V.int ((h k * g j - g k * h j).fdiv d))))
      ⟨sD, upd_same⟩ (fun i H' _ p => ⟨SqL.of (p.1 _ _ hra), SqL.of (p.1 _ _ hla)⟩) ?_ ?_
    · rintro i x H1 H2 hi ⟨s1, hD⟩ ⟨T, u, v, rfl, nT, rfl, eu, ev⟩
      have eu' : (rowV (n + 1) g)[i]? = some u := eu
      have ev' : (rowV (n + 1) h)[i]? = some v := ev
      rw [rowV_get hi] at eu'
      rw [rowV_get hi] at ev'
      cases eu'
      cases ev'
      have s2 := same_new (o := .tup [.int (g i), .int (h i)]) nT
      have hra2 := s2 _ _ (s1 _ _ hra)
      have hla2 := s2 _ _ (s1 _ _ hla)
      obtain ⟨b1, b2⟩ := hb i (by omega)
      obtain ⟨b3, b4⟩ := hb k hk
      refine ⟨T, [.int (g i), .int (h i)], rfl, SqT.of upd_same, rfl, .int (g i), [.int (h i)], rfl, .int (h i), [], rfl, rfl, rfl, ?_⟩
      refine ⟨.ref la, rfl, .int (k : Int), rfl, la, _, (k : Int), _, rfl, rfl, SqL.of hla2, at_of (j := k) rfl (rowV_get (by omega)), .int (g i), rfl, h k, g i, rfl, rfl, big_mul b4 b1, ?_⟩
      refine ⟨.ref ra, rfl, .int (k : Int), rfl, ra, _, (k : Int), _, rfl, rfl, SqL.of hra2, at_of (j := k) rfl (rowV_get (by omega)), .int (h i), rfl, g k, h i, rfl, rfl, big_mul b3 b2, _, _, rfl, rfl, .int d, rfl, _, _, rfl, rfl, div_ok d0 db (by decide) (by decide), ?_⟩
      refine ⟨_, s2 _ _ hD, ?_, fun b o e => by rw [upd_ne (ne_of_none e nD)]; exact s2 _ _ (s1 _ _ e), ?_⟩
      · rw [List.length_map, List.length_range]
        exact Nat.lt_of_le_of_lt (show i ≤ 1000 by omega) (by decide)
      · rw [upd_same, List.range_succ, List.map_append]
        rfl
    · rintro H1 ⟨s1, hD⟩
      exact q D H1 s1 hD nD
/-! ### solved -/
theorem scSv : FnScope ["equations", "rows", "before", "at", "lead", "here", "row"] ["equations"] (defScope sSolved) := ⟨rfl, rfl, rfl, by decide +kernel, rfl, by decide +kernel, by decide +kernel⟩
def InjA (n : Nat) (A : Nat → Nat → Int) : Prop := ∀ z : Nat → Int, (∀ r, r < n → sumN n (fun m => A r m * z m) = 0) → ∀ m, m < n → z m = 0
def spSv : Sp := fun vs H Q _ => ∃ (R : Addr) (as : List Addr) (n : Nat) (A : Nat → Nat → Int), vs = [.ref R] ∧ MatAt H R as n A ∧ n ≤ 64 ∧ InjA n A ∧ (∀ j, j ≤ n → l1 (List.range n) (colA A j) ≤ 2000) ∧
  ∀ S us (d : Int) (X : Nat → Int) H', Same H H' → H' S = some (.lst us) → d ≠ 0 → d.natAbs ≤ 2000 ^ n → (∀ m, m < n → (X m).natAbs ≤ 2000 ^ n) → (∀ r, r < n → sumN n (fun m => A r m * X m) = d * A r n) → us.length = n → (∀ m u, us[m]? = some u → FracAt H' u (fracZ (X m) d)) → Q (.ref S) H'
theorem big_pow {n : Nat} {x : Int} (h : x.natAbs ≤ 2000 ^ n) (hn : n ≤ 64) : Big1 x := by
  refine Nat.lt_of_le_of_lt h ?_
  have h1 : (2000 : Nat) ^ n ≤ 2000 ^ 64 := Nat.pow_le_pow_right (by decide) hn
  have h2 : (2000 : Nat) ^ 64 < 2 ^ 1000 := by decide +kernel
  omega
def elimM (M : Nat → Nat → Int) (k : Nat) (d : Int) : Nat → Nat → Int := fun i j => if i = k then M k j else (M k k * M i j - M i k * M k j) / d
theorem nth_snoc {α : Type} {l : List α} {x a : α} {j : Nat} (h : (l ++ [x])[j]? = some a) : l[j]? = some a ∨ (j = l.length ∧ x = a) := by
  by_cases c : j < l.length
  · rw [List.getElem?_append_left c] at h
    exact .inl h
  · rw [List.getElem?_append_right (by omega)] at h
    by_cases e : j - l.length = 0
    · rw [e] at h
      have h' : some x = some a := h
      injection h' with h'
      exact .inr ⟨by omega, h'⟩
    · rw [List.getElem?_eq_none (by show 1 ≤ j - l.length; omega)] at h
      cases h
theorem rowV_last (n : Nat) (g : Nat → Int) : atI (rowV (n + 1) g) (-1) = some (.int (g n)) := by
  unfold rowV
  rw [List.range_succ, List.map_append]
  exact atI_last _ _
theorem rowV_congr {n : Nat} {f g : Nat → Int} (h : ∀ i, i < n → f i = g i) : rowV n f = rowV n g := by
  unfold rowV
  refine List.map_congr_left fun i hi => ?_
  rw [h i (List.mem_range.mp hi)]
theorem ok_solved {f fB fW fF : Addr} {fd fdB fdW fdF : FuncData} (F : Fun K "solved" "solved" sSolved f fd) (DBu : Df K mg "_bring_up" sBringUp ["rows", "at"] fB fdB) (DWo : Df K mg "_without" sWithout ["row", "lead", "at", "before"] fW fdW) (DFr : Df K mg "fraction" sFraction ["top", "bottom"] fF fdF) (mgcd : mg "gcd" = some (.builtin "math.gcd"))
    (mL : mg "list" = none) (ml : mg "len" = none) (mr : mg "range" = none) (mE : mg "enumerate" = none) (mZ : mg "zip" = none) : FnOk P w K mg base CX0 2 f fd ["equations"] spSv := by
  have GBu : FnOk P w K mg base CX0 1 fB fdB ["rows", "at"] spBu := ok_bring DBu.F
  have GWo : FnOk P w K mg base CX0 1 fW fdW ["row", "lead", "at", "before"] spWo := ok_without DWo.F mZ
  have GFr : FnOk P w K mg base CX0 1 fF fdF ["top", "bottom"] spFrZ := ok_fractionZ DFr.F mgcd
  refine F.ok scSv (fun vs H Q E h => ?_) (fun cdv A outer s H vs Q E hr h => ?_)
  · obtain ⟨R, as, n, k, rfl, _⟩ := h
    rfl
  · obtain ⟨R0, as0, n, A, rfl, hM0, n64, inj, hL1, q⟩ := h
    have r1 : Room 1 _ := hr
    refine ⟨_, (pss_cons (ps_set (i := 1) scSv.nd rfl (.inl rfl) (pe_callTy call_list_of (by rfl) mL (by decide +kernel) (pa_cons (pv 0) pa_nil)))
      (pss_cons (ps_set (i := 2) scSv.nd rfl (.inr rfl) pe_int)
      (pss_cons (ps_for PassesOwn.never rfl (pi_range1 (by rfl) mr (pa_cons (pe_callB call_len_seq (by rfl) ml PySem.boot_len (pa_cons (pv 1) pa_nil)) pa_nil)) (pg_name (i := 3) scSv.nd rfl (.inr rfl)) (pss_cons (ps_expr (pe_call GBu r1 (by rfl) DBu.g DBu.F.kp DBu.b .nil pass0 (pa_cons (pv 1) (pa_cons (pv 3) pa_nil))))
      (pss_cons (ps_set (i := 4) scSv.nd rfl (.inr rfl) (pe_ix ix_list (pv 1) (pv 3) (fun _ _ => rfl)))
      (pss_cons (ps_setLc (i := 1) (own := [("here", 5), ("row", 6)]) (g := gTup K 2 (gCons (gName 5) (gCons (gName 6) gNil))) (tt := tYes) (te := (tIf (tTest (tOp rEq (tVar 5) (tVar 3))) (tVar 6) (tCall spWo [] E0 (tCons (tVar 6) (tCons (tVar 4) (tCons (tVar 3) (tCons (tVar 2) tNil))))))) rfl scSv.nd rfl rfl (sw_true rfl rfl rfl (by decide +kernel)) (pi_enum (by rfl) mE (pa_cons (pv 1) pa_nil)) (blkOk_by (N := ["equations", "rows", "before", "at", "lead", "here", "row"]) (sc := defScope sSolved) (by decide +kernel)) (fun _ _ _ _ _ => by exact ((pg_tup rfl (pgs_cons (pg_name (i := 5) scSv.nd rfl (.inl rfl)) (pgs_cons (pg_name (i := 6) scSv.nd rfl (.inl rfl)) pgs_nil))))) (fun _ _ _ _ _ => pts_nil) (fun _ _ _ _ _ => by exact (pe_ifExp (pt_cmpR op_eq (pv 5) (pv 3) (nomark _)) (pv 6) (pe_call GWo r1 (by rfl) DWo.g DWo.F.kp DWo.b .nil pass0 (pa_cons (pv 6) (pa_cons (pv 4) (pa_cons (pv 3) (pa_cons (pv 2) pa_nil))))))))
      (pss_one (ps_set (i := 2) scSv.nd rfl (.inr rfl) (pe_ix ix_list (pv 4) (pv 3) (fun _ _ => rfl))))))))
      (pss_one (ps_ret (pe_lc (own := [("here", 5), ("row", 6)]) (g := gTup K 2 (gCons (gName 5) (gCons (gName 6) gNil))) (tt := tYes) (te := (tCall spFrZ [] E0 (tCons (tOp (rIxL K) (tVar 6) (tUn (rU fun i => V.int (-i)) (tC (V.int 1)))) (tCons (tOp (rIxL K) (tVar 6) (tVar 5)) tNil)))) rfl scSv.nd (pi_enum (by rfl) mE (pa_cons (pv 1) pa_nil)) (blkOk_by (N := ["equations", "rows", "before", "at", "lead", "here", "row"]) (sc := defScope sSolved) (by decide +kernel)) (fun _ _ _ _ _ => by exact ((pg_tup rfl (pgs_cons (pg_name (i := 5) scSv.nd rfl (.inl rfl)) (pgs_cons (pg_name (i := 6) scSv.nd rfl (.inl rfl)) pgs_nil))))) (fun _ _ _ _ _ => pts_nil) (fun _ _ _ _ _ => by exact (pe_call GFr r1 (by rfl) DFr.g DFr.F.kp DFr.b .nil pass0 (pa_cons (pe_ix ix_list (pv 6) (pe_un un_neg pe_int) (fun _ _ => rfl)) (pa_cons (pe_ix ix_list (pv 6) (pv 5) (fun _ _ => rfl)) pa_nil)))))))))), ?_⟩
    refine ⟨.ref R0, rfl, R0, _, rfl, .inl (SqL.of hM0.at_), fun R nR => ?_⟩
    have s1 := same_new (o := .lst (as0.map V.ref)) nR
    have hM1 : MatAt (upd H R (.lst (as0.map V.ref))) R as0 n A := ⟨upd_same, hM0.len, fun i a e => ⟨s1 _ _ (hM0.row i a e).1, ne_of_none (hM0.row i a e).1 nR⟩⟩
    show gName 1 _ _ (upd H R (.lst (as0.map V.ref))) _
    generalize upd H R (.lst (as0.map V.ref)) = H1 at s1 hM1 ⊢
    have hl1 : (as0.map V.ref).length = n := by rw [List.length_map, hM0.len]
    refine ⟨.ref R, rfl, R, _, rfl, .inl (SqL.of hM1.at_), _, rfl, by omega, by rw [hl1]; omega, ?_⟩
    have en : ((((as0.map V.ref).length : Nat) : Int)).toNat = n := by omega
    refine for_range (lo := 0) (n := ((((as0.map V.ref).length : Nat) : Int)).toNat) (fun k σ H' => ∃ R' as M d y3 y4, σ = [some (.ref R0), some (.ref R'), some (.int d), y3, y4, none, none] ∧ Same H H' ∧ H R' = none ∧ MatAt H' R' as n M ∧ BInv n A 2000 k M d)
      ⟨R, as0, A, 1, none, none, rfl, s1, nR, hM1, BInv.init (by decide)⟩ ?_ ?_
    · rintro k σ H2 hk ⟨R', as, M, d, y3, y4, rfl, s2, nHR, hM2, I⟩
      have hk' : k < n := by omega
      obtain ⟨f0, f1, f2, f3⟩ := I.pivot hk' inj
      refine ⟨.ref R', rfl, .int (0 + (k : Int)), rfl, R', as, n, k, M, ?_, hM2, hk', by omega, ⟨f0, f1, f2, f3⟩, fun g H3 kg gn gz g3 hR3 => ?_⟩
      · show [V.ref R', V.int (0 + (k : Int))] = _
        rw [Int.zero_add]
      -- the rows exchanged
      have las := hM2.len
      have hM3 : MatAt H3 R' (swapA as k g) n (fun i j => M (if i = k then g else if i = g then k else i) j) := ⟨hR3, by rw [swapA_len]; exact las, fun i a e => by
        have hi : i < as.length := by
          obtain ⟨h, _⟩ := List.getElem?_eq_some_iff.mp e
          rw [swapA_len] at h
          exact h
        rw [swapA_get (by omega) (by omega) hi] at e
        exact ⟨g3 _ _ (hM2.row _ _ e).2 (hM2.row _ _ e).1, (hM2.row _ _ e).2⟩⟩
      have I3 := I.swap hk' gn kg
      have pv : (fun i j => M (if i = k then g else if i = g then k else i) j) k k ≠ 0 := by
        show M (if k = k then g else _) k ≠ 0
        rw [if_pos rfl]
        exact gz
      have s3 : Same H H3 := fun b o e => g3 b o (fun z => by rw [z, nHR] at e; cases e) (s2 _ _ e)
      generalize (fun i j => M (if i = k then g else if i = g then k else i) j) = M3 at hM3 I3 pv
      generalize swapA as k g = as3 at hM3
      obtain ⟨la, el, el2, hla, _⟩ := hM3.get hk'
      have ek : (0 : Int) + (k : Int) = (k : Int) := Int.zero_add _
      have hne := I3.nz
      obtain ⟨db, mb⟩ := I3.le (by decide) hL1
      refine ⟨.ref R', rfl, .int (0 + (k : Int)), rfl, R', _, 0 + (k : Int), _, rfl, rfl, SqL.of hM3.at_, at_of (j := k) ek el2, ?_⟩
      refine ⟨.ref R', rfl, R', _, rfl, SqL.of hM3.at_, fun D nD => ?_⟩
      have l3 := hM3.len
      refine lc_it (walk_enum (K := K) (a := R') (xs := as3.map V.ref)) (fun i H' => Same H3 H' ∧ ∃ bs : List Addr, H' D = some (.lst (bs.map V.ref)) ∧ bs.length = i ∧ ∀ j a, bs[j]? = some a → H' a = some (.lst (rowV (n + 1) (elimM M3 k d j))) ∧ a ≠ D)
        ⟨same_new nD, [], upd_same, rfl, fun j a h => by simp at h⟩ (fun i H' _ p => SqL.of (p.1 _ _ hM3.at_)) ?_ ?_
      · rintro i x H4 H5 hi ⟨s4, bs, hD, lb, hbs⟩ ⟨T, u, v, rfl, nT, rfl, eu, ev⟩
        have hi' : i < n := by rw [List.length_map, l3] at hi; exact hi
        obtain ⟨a, ea, ea2, ha, nRa⟩ := hM3.get hi'
        have eu' : some (V.int (i : Int)) = some u := eu
        have ev' : (as3.map V.ref)[i]? = some v := ev
        cases eu'
        rw [ea2] at ev'
        cases ev'
        have sT := same_new (o := .tup [.int (i : Int), .ref a]) nT
        have s5 := s4.trans sT
        have hD5 := sT _ _ hD
        have hbs5 : ∀ j b, bs[j]? = some b → (upd H4 T (.tup [.int (i : Int), .ref a])) b = some (.lst (rowV (n + 1) (elimM M3 k d j))) ∧ b ≠ D := fun j b e => ⟨sT _ _ (hbs j b e).1, (hbs j b e).2⟩
        have lt : (bs.map V.ref).length < sizeLine := by
          rw [List.length_map, lb]
          exact Nat.lt_of_le_of_lt (show i ≤ 64 by omega) (by decide)
        -- what is behind the choice
        have fin : ∀ b H6, Same (upd H4 T (.tup [.int (i : Int), .ref a])) H6 → H6 b = some (.lst (rowV (n + 1) (elimM M3 k d i))) → b ≠ D → ∃ acc, H6 D = some (.lst acc) ∧ acc.length < sizeLine ∧ Same H3 (upd H6 D (.lst (acc ++ [.ref b]))) ∧ ∃ cs : List Addr, (upd H6 D (.lst (acc ++ [.ref b]))) D = some (.lst (cs.map V.ref)) ∧ cs.length = i + 1 ∧ ∀ j c, cs[j]? = some c → (upd H6 D (.lst (acc ++ [.ref b]))) c = some (.lst (rowV (n + 1) (elimM M3 k d j))) ∧ c ≠ D := by
          intro b H6 s6 hb nb
          refine ⟨_, s6 _ _ hD5, lt, fun c o e => ?_, bs ++ [b], ?_, ?_, fun j c e => ?_⟩
          · rw [upd_ne (ne_of_none e nD)]
            exact s6 _ _ (s5 _ _ e)
          · rw [upd_same, List.map_append]
            rfl
          · rw [List.length_append, lb]
            rfl
          · rcases nth_snoc e with e | ⟨e1, e2⟩
            · refine ⟨?_, (hbs j c e).2⟩
              rw [upd_ne (hbs j c e).2]
              exact s6 _ _ (hbs5 j c e).1
            · subst e2
              refine ⟨?_, nb⟩
              rw [upd_ne nb, hb, e1, lb]
        refine ⟨T, [.int (i : Int), .ref a], rfl, SqT.of upd_same, rfl, .int (i : Int), [.ref a], rfl, .ref a, [], rfl, rfl, rfl, ?_⟩
        refine ⟨.int (i : Int), rfl, .int (0 + (k : Int)), rfl, rfl, _, rfl, ite2 (fun c => ?_) (fun c => ?_)⟩
        · have e : i = k := by
            have := of_decide_eq_true c
            injection this
            omega
          refine ⟨.ref a, rfl, fin a _ (Same.refl _) ?_ (ne_of_none ha nD)⟩
          rw [sT _ _ (s4 _ _ ha)]
          congr 2
          refine rowV_congr fun j _ => ?_
          unfold elimM
          rw [if_pos e, e]
        · have ne : i ≠ k := fun e => c (decide_eq_true (by rw [e, ek]))
          refine ⟨.ref a, rfl, .ref la, rfl, .int (0 + (k : Int)), rfl, .int d, rfl, a, la, n, k, d, M3 i, M3 k, ?_, s5 _ _ ha, s5 _ _ hla, by omega, by omega, hne, big_pow db n64, fun j hj => ⟨big_pow (mb i j hi' hj) n64, big_pow (mb k j hk' hj) n64⟩, fun b H6 s6 hb nb => ?_⟩
          · rw [ek]; rfl
          · refine fin b H6 s6 ?_ (fun e => by rw [e, hD5] at nb; cases nb)
            rw [hb]
            congr 2
            refine rowV_congr fun j hj => ?_
            unfold elimM
            rw [if_neg ne]
            exact fdiv_dvd (I3.dvd hk' hi' (by omega) ne)
      · rintro H4 ⟨s4, bs, hD, lb, hbs⟩
        have lb' : bs.length = n := by rw [lb, List.length_map, l3]
        have hM4 : MatAt H4 D bs n (elimM M3 k d) := ⟨hD, lb', hbs⟩
        refine ⟨.ref la, rfl, .int (0 + (k : Int)), rfl, la, _, 0 + (k : Int), _, rfl, rfl, SqL.of (s4 _ _ hla), at_of (j := k) ek (rowV_get (by omega)), ?_⟩
        exact ⟨D, bs, elimM M3 k d, M3 k k, _, _, rfl, s3.trans s4, s3.free nD, hM4, I3.step hk' hL1 pv⟩
    · rintro σ H2 ⟨R', as, M, d, y3, y4, rfl, s2, nHR, hM2, I⟩
      rw [en] at I
      obtain ⟨dg, sol⟩ := I.done
      obtain ⟨db, mb⟩ := I.le (by decide) hL1
      have hd0 := I.nz
      have las := hM2.len
      refine ⟨.ref R', rfl, R', _, rfl, SqL.of hM2.at_, fun S nS => ?_⟩
      refine lc_it (walk_enum (K := K) (a := R') (xs := as.map V.ref)) (fun i H' => Same H2 H' ∧ ∃ us : List V, H' S = some (.lst us) ∧ us.length = i ∧ ∀ m u, us[m]? = some u → FracAt H' u (fracZ (M m n) d))
        ⟨same_new nS, [], upd_same, rfl, fun j a h => by simp at h⟩ (fun i H' _ p => SqL.of (p.1 _ _ hM2.at_)) ?_ ?_
      · rintro i x H4 H5 hi ⟨s4, us, hS, lu, hus⟩ ⟨T, u, v, rfl, nT, rfl, eu, ev⟩
        have hi' : i < n := by rw [List.length_map, las] at hi; exact hi
        obtain ⟨a, ea, ea2, ha, nRa⟩ := hM2.get hi'
        have eu' : some (V.int (i : Int)) = some u := eu
        have ev' : (as.map V.ref)[i]? = some v := ev
        cases eu'
        rw [ea2] at ev'
        cases ev'
        have sT := same_new (o := .tup [.int (i : Int), .ref a]) nT
        have s5 := s4.trans sT
        have hS5 := sT _ _ hS
        have ha5 := s5 _ _ ha
        refine ⟨T, [.int (i : Int), .ref a], rfl, SqT.of upd_same, rfl, .int (i : Int), [.ref a], rfl, .ref a, [], rfl, rfl, rfl, ?_⟩
        refine ⟨.ref a, rfl, 1, rfl, a, _, -1, _, rfl, rfl, SqL.of ha5, rowV_last _ _, .ref a, rfl, .int (i : Int), rfl, a, _, (i : Int), _, rfl, rfl, SqL.of ha5, at_of (j := i) rfl (rowV_get (by omega)), ?_⟩
        rw [dg i hi']
        refine ⟨M i n, d, rfl, hd0, ?_, fun t nt => ?_⟩
        · exact Nat.lt_trans (big_pow db n64) (Nat.pow_lt_pow_right (a := 2) (m := 1000) (n := 8999) (by decide) (by decide))
        · have s6 := same_new (o := .tup [.int (fracZ (M i n) d).1, .int (fracZ (M i n) d).2]) nt
          refine ⟨us, s6 _ _ hS5, by rw [lu]; exact Nat.lt_of_le_of_lt (show i ≤ 64 by omega) (by decide), fun b o e => ?_, us ++ [.ref t], upd_same, by rw [List.length_append, lu]; rfl, fun m u e => ?_⟩
          · rw [upd_ne (ne_of_none e nS)]
            exact s6 _ _ (s5 _ _ e)
          · have nSt : t ≠ S := fun e => by rw [e, hS5] at nt; cases nt
            rcases nth_snoc e with e | ⟨e1, e2⟩
            · obtain ⟨t2, e3, h3⟩ := hus m u e
              refine ⟨t2, e3, ?_⟩
              have nS2 : t2 ≠ S := fun e => by rw [e, hS] at h3; cases h3
              rw [upd_ne nS2]
              exact s6 _ _ (sT _ _ h3)
            · subst e2
              refine ⟨t, rfl, ?_⟩
              rw [upd_ne nSt, upd_same, e1, lu]
      · rintro H4 ⟨s4, us, hS, lu, hus⟩
        exact q S us d (fun m => M m n) H4 (s2.trans s4) hS hd0 db (fun m hm => mb m n hm (Nat.le_refl _)) sol (by rw [lu, List.length_map, las]) hus
end
section
/-! ### the moves as a flow; one closed group -/
theorem cnt_cons (m : Mv) (ms : List Mv) (b e : Nat) : cnt (m :: ms) b e = (if m.2[b]? = some ((e : Nat) : Int) then m.1 else 0) + cnt ms b e := by
  unfold cnt
  rw [List.map_cons, List.sum_cons]
theorem tot_cons (m : Mv) (ms : List Mv) : tot (m :: ms) = m.1 + tot ms := by
  unfold tot
  rw [List.map_cons, List.sum_cons]
theorem GoodAll.tl {many : Nat} {m : Mv} {ms : List Mv} (G : GoodAll many (m :: ms)) : GoodAll many ms := fun x hx => G x (List.mem_cons_of_mem _ hx)
theorem cnt_nn {many : Nat} (b e : Nat) : ∀ {ms : List Mv}, GoodAll many ms → 0 ≤ cnt ms b e
  | [], _ => Int.le_refl 0
  | m :: ms, G => by
    have ih := cnt_nn b e G.tl
    have h := (G m List.mem_cons_self).1
    rw [cnt_cons]
    split <;> omega
theorem cnt_row {many b : Nat} (hb : b < many) : ∀ {ms : List Mv}, GoodAll many ms → sumN many (cnt ms b) = tot ms
  | [], _ => sumN_zero many
  | m :: ms, G => by
    have ih := cnt_row hb G.tl
    obtain ⟨_, _, hl, hx⟩ := G m List.mem_cons_self
    have hb2 : b < m.2.length := by omega
    have g : m.2[b]? = some m.2[b] := List.getElem?_eq_getElem hb2
    obtain ⟨x0, x1⟩ := hx m.2[b] (List.getElem_mem hb2)
    have e : cnt (m :: ms) b = fun e => (if m.2[b]? = some ((e : Nat) : Int) then m.1 else 0) + cnt ms b e := funext fun e => cnt_cons m ms b e
    rw [e, sumN_add, show sumN many (fun e => cnt ms b e) = tot ms from ih, tot_cons, g]
    congr 1
    rw [sumN_one (i := m.2[b].toNat) (by omega) (fun q _ ne => if_neg fun h => ne (by injection h; omega)), if_pos (by congr 1; omega)]
theorem tot_le {many : Nat} : ∀ {ms : List Mv}, GoodAll many ms → (ms.length : Int) ≤ tot ms ∧ tot ms ≤ 99 * (ms.length : Int)
  | [], _ => ⟨Int.le_refl 0, Int.le_refl 0⟩
  | m :: ms, G => by
    obtain ⟨h1, h2⟩ := tot_le G.tl
    obtain ⟨h3, h4, _⟩ := G m List.mem_cons_self
    rw [tot_cons, List.length_cons]
    omega
theorem tot_pos {many : Nat} {ms : List Mv} (G : Good many ms) : 0 < tot ms ∧ tot ms ≤ 792 := by
  have h := tot_le (many := many) G.mv
  have := G.l1
  have := G.l8
  omega
theorem cnt_flow {many : Nat} {ms : List Mv} (G : Good many ms) : Flow many (cnt ms) (tot ms) := ⟨fun b e _ _ => cnt_nn (many := many) b e G.mv, fun _ hb => cnt_row hb G.mv, (tot_pos G).1⟩
theorem cnt_mem {many : Nat} {b e : Nat} : ∀ {ms : List Mv}, GoodAll many ms → (0 < cnt ms b e ↔ ∃ m ∈ ms, m.2[b]? = some ((e : Nat) : Int))
  | [], _ => ⟨fun h => absurd h (Int.lt_irrefl 0), fun ⟨_, h, _⟩ => nomatch h⟩
  | m :: ms, G => by
    have ih := cnt_mem (b := b) (e := e) G.tl
    have h0 := cnt_nn (many := many) b e G.tl
    have h1 := (G m List.mem_cons_self).1
    rw [cnt_cons]
    by_cases q : m.2[b]? = some ((e : Nat) : Int)
    · rw [if_pos q]
      exact ⟨fun _ => ⟨m, List.mem_cons_self, q⟩, fun _ => by omega⟩
    · rw [if_neg q, Int.zero_add, ih]
      constructor
      · rintro ⟨x, hx, hq⟩
        exact ⟨x, List.mem_cons_of_mem _ hx, hq⟩
      · rintro ⟨x, hx, hq⟩
        rcases List.mem_cons.mp hx with e | hx
        · rw [e] at hq; exact absurd hq q
        · exact ⟨x, hx, hq⟩
theorem rowM_go {many : Nat} {ms : List Mv} (G : GoodAll many ms) {n : Nat} (hn : n < ms.length) {b : Nat} (hb : b < many) (e : Nat) : (ms[n].2[b]? = some ((e : Nat) : Int)) ↔ goK (rowM ms n) (b : Int) = (e : Int) := by
  obtain ⟨_, _, hl, _⟩ := G ms[n] (List.getElem_mem hn)
  have hb2 : b < ms[n].2.length := by omega
  have e1 : rowM ms n = ms[n].2 := by
    unfold rowM
    rw [List.getD_eq_getElem?_getD, List.getElem?_eq_getElem hn]
    rfl
  rw [e1]
  unfold goK
  rw [Int.toNat_natCast, List.getD_eq_getElem?_getD, List.getElem?_eq_getElem hb2]
  constructor
  · intro h; injection h
  · intro h; exact congrArg some h
theorem cnt_pos {many : Nat} {ms : List Mv} (G : GoodAll many ms) {b e : Nat} (hb : b < many) : 0 < cnt ms b e ↔ ∃ n, n < ms.length ∧ goK (rowM ms n) (b : Int) = (e : Int) := by
  rw [cnt_mem G]
  constructor
  · rintro ⟨m, hm, q⟩
    obtain ⟨n, hn, rfl⟩ := List.getElem_of_mem hm
    exact ⟨n, hn, (rowM_go G hn hb e).mp q⟩
  · rintro ⟨n, hn, q⟩
    exact ⟨ms[n], List.getElem_mem hn, (rowM_go G hn hb e).mpr q⟩
/-- from a place one comes to one from which all come back -/
theorem some_okR {many : Nat} {ms : List Mv} (G : GoodAll many ms) (m6 : many ≤ 6) (n : Nat) : ∀ (p : Int), 0 ≤ p → p < (many : Int) → (reachL many ms p).length ≤ n → ∃ q, Rch ms p q ∧ okP many ms q = true := by
  induction n with
  | zero =>
    intro p p0 p1 h
    have := List.length_pos_of_mem (reachL_self G m6 p0 p1)
    omega
  | succ n ih =>
    intro p p0 p1 h
    cases hk : okP many ms p with
    | true => exact ⟨p, Rch.refl ms p, hk⟩
    | false =>
      obtain ⟨x, hx, hd⟩ := List.all_eq_false.mp hk
      have hne : reachL many ms x ≠ reachL many ms p := fun z => hd (decide_eq_true z)
      obtain ⟨x0, x1⟩ := reachL_in hx
      have hpx := (mem_reachL G m6 p0 p1).mp hx
      rcases rise_sub (reachL_rise many ms x) (reachL_rise many ms p) (fun k hk => (mem_reachL G m6 p0 p1).mpr (hpx.trans ((mem_reachL G m6 x0 x1).mp hk))) with e | lt
      · exact absurd e hne
      · obtain ⟨q, h1, h2⟩ := ih x x0 x1 (by omega)
        exact ⟨q, hpx.trans h1, h2⟩
/-- what is closed for the flow holds all that is reached -/
theorem Rch.set {many : Nat} {ms : List Mv} (G : GoodAll many ms) {E : Nat → Prop} (hE : ClSet many (cnt ms) E) {p q : Int} (p0 : 0 ≤ p) (p1 : p < (many : Int)) (hp : E p.toNat) (h : Rch ms p q) : E q.toNat := by
  have := Rch.ind (F := fun x => (0 ≤ x ∧ x < (many : Int)) ∧ E x.toNat) ⟨⟨p0, p1⟩, hp⟩ (fun x n hx hn => ?_) h
  · exact this.2
  · obtain ⟨⟨x0, x1⟩, hx⟩ := hx
    obtain ⟨y0, y1⟩ := goK_in' (rowM_good G hn) x0 x1
    refine ⟨⟨y0, y1⟩, hE x.toNat (by omega) hx _ (by omega) ?_⟩
    rw [cnt_pos G (by omega)]
    refine ⟨n, hn, ?_⟩
    rw [show ((x.toNat : Nat) : Int) = x by omega]
    omega
theorem one_cl {many : Nat} {ms : List Mv} (G : Good many ms) {g : List Int} (h : closedL many ms = [g]) : OneCl many (cnt ms) (fun m => (m : Int) ∈ g) := by
  have m6 := G.m6
  have GA : GoodAll many ms := G.mv
  have hg : g ∈ closedL many ms := by rw [h]; exact List.mem_singleton_self g
  obtain ⟨p, hp, rfl⟩ := List.mem_map.mp hg
  obtain ⟨hp1, hp2⟩ := List.mem_filter.mp hp
  obtain ⟨p0, p1⟩ := mem_ids.mp hp1
  refine ⟨fun b hb hbg e he ce => ?_, ⟨p.toNat, by omega, ?_⟩, fun E hE ⟨b0, hb0, eb0⟩ b hb hbg => ?_⟩
  · obtain ⟨n, hn, q⟩ := (cnt_pos GA hb).mp ce
    show (e : Int) ∈ reachL many ms p
    rw [mem_reachL GA m6 p0 p1, ← q]
    exact Rch.step ((mem_reachL GA m6 p0 p1).mp hbg) hn
  · show ((p.toNat : Nat) : Int) ∈ reachL many ms p
    rw [show ((p.toNat : Nat) : Int) = p by omega]
    exact reachL_self GA m6 p0 p1
  · obtain ⟨q, h1, h2⟩ := some_okR GA m6 _ (b0 : Int) (by omega) (by omega) (Nat.le_refl _)
    obtain ⟨q0, q1⟩ := h1.in GA (by omega) (by omega)
    obtain ⟨h3, h4⟩ := okP_head GA m6 q0 q1 h2
    have hin := (head_least (reachL_rise many ms q) (reachL_self GA m6 q0 q1)).1
    have : reachL many ms ((reachL many ms q).getD 0 0) ∈ closedL many ms := List.mem_map.mpr ⟨_, List.mem_filter.mpr ⟨(List.mem_filter.mp hin).1, h3⟩, rfl⟩
    rw [h, List.mem_singleton, h4] at this
    have eq : E q.toNat := Rch.set GA hE (by omega) (by omega) (by rw [Int.toNat_natCast]; exact eb0) h1
    have hbq : (b : Int) ∈ reachL many ms q := by rw [this]; exact hbg
    have := Rch.set GA hE q0 q1 eq ((mem_reachL GA m6 q0 q1).mp hbq)
    rw [Int.toNat_natCast] at this
    exact this
end
section
variable {P : Program} {w : World} {K : PySem.W.Frag} {mg : Str → Option Value} {base : Heap} {C : Addr}
/-! ### _balance -/
theorem scBa : FnScope ["chain", "weights", "many", "rows", "end", "row", "begin"] ["chain"] (defScope sBalance) := ⟨rfl, rfl, rfl, by decide +kernel, rfl, by decide +kernel, by decide +kernel⟩
def spBa (C : Addr) : Sp := fun vs H Q _ => ∃ (x : Addr) (many : Nat) (ms : List Mv), vs = [.ref x] ∧ ChainAt C H x many ms ∧ Good many ms ∧ ∀ R as H', Same H H' → MatAt H' R as many (balA many (cnt ms) (tot ms)) → Q (.ref R) H'
theorem rowV_snoc {n : Nat} {g h : Nat → Int} {z : Int} (e : ∀ i, i < n → h i = g i) (e2 : h n = z) : rowV n g ++ [V.int z] = rowV (n + 1) h := by
  rw [rowV_congr (fun i hi => (e i hi).symm)]
  unfold rowV
  rw [List.range_succ, List.map_append, ← e2]
  rfl
theorem sum_range (g : Nat → Int) : ∀ n : Nat, ((List.range n).map g).sum = sumN n g
  | 0 => rfl
  | n + 1 => by
    rw [List.range_succ, List.map_append, List.sum_append, sum_range g n]
    show sumN n g + (g n + 0) = sumN n g + g n
    omega
theorem rowV_map (n : Nat) (g : Nat → Int) : rowV n g = ((List.range n).map g).map V.int := by
  unfold rowV
  rw [List.map_map]
  rfl
theorem ok_balance {f fW fP fT : Addr} {fd fdW fdP fdT : FuncData} (F : Fun K "_balance" "_balance" sBalance f fd) (DW : Df K mg "_weights" sWeights ["chain"] fW fdW) (T : ChM K C fP fT fdP fdT) (mr : mg "range" = none) (me : mg "enumerate" = none) (mL : mg "list" = none) (mSu : mg "sum" = none) : FnOk P w K mg base CX0 3 f fd ["chain"] (spBa C) := by
  have GW : FnOk P w K mg base CX0 2 fW fdW ["chain"] (spWeights C) := ok_weights DW.F T mr me mL
  have GP : FnOk P w K mg base CX0 1 fP fdP ["self"] (spPlaces C) := ok_places T.FP T.cl T.nM
  refine F.ok scBa (fun vs H Q E h => ?_) (fun cdv A outer s H vs Q E hr h => ?_)
  · obtain ⟨x, many, ms, rfl, _⟩ := h
    rfl
  · obtain ⟨x, many, ms, rfl, hC, G, q⟩ := h
    have r2 : Room 2 _ := hr
    have r1 : Room 1 _ := hr.mono (by decide)
    refine ⟨_, (pss_cons (ps_set (i := 1) scBa.nd rfl (.inr rfl) (pe_call GW r2 (by rfl) DW.g DW.F.kp DW.b .nil pass0 (pa_cons (pv 0) pa_nil)))
      (pss_cons (ps_set (i := 2) scBa.nd rfl (.inl rfl) (pe_meth0 (pv 0) T.cl T.hP GP r1 T.bP .nil pass0))
      (pss_cons (ps_set (i := 3) scBa.nd rfl (.inl rfl) (pe_lst pa_nil))
      (pss_cons (ps_for PassesOwn.never rfl (pi_range1 (by rfl) mr (pa_cons (pe_op op_sub (pv 2) pe_int) pa_nil)) (pg_name (i := 4) scBa.nd rfl (.inr rfl)) (pss_cons (ps_setLc (i := 5) (own := [("begin", 6)]) (g := gName 6) (tt := tYes) (te := (tOp (rIxL K) (tOp (rIxL K) (tVar 1) (tVar 6)) (tVar 4))) rfl scBa.nd rfl rfl (sw_true rfl rfl rfl (by decide +kernel)) (pi_range1 (by rfl) mr (pa_cons (pv 2) pa_nil)) (blkOk_by (N := ["chain", "weights", "many", "rows", "end", "row", "begin"]) (sc := defScope sBalance) (by decide +kernel)) (fun _ _ _ _ _ => by exact (pg_name (i := 6) scBa.nd rfl (.inl rfl))) (fun _ _ _ _ _ => pts_nil) (fun _ _ _ _ _ => by exact (pe_ix ix_list (pe_ix ix_list (pv 1) (pv 6) (fun _ _ => rfl)) (pv 4) (fun _ _ => rfl))))
      (pss_cons (ps_augS (pv 5) (pv 4) pget_list (pe_callB (cr_sum rfl) (by rfl) mSu (by decide +kernel) (pa_cons (pe_ix ix_list (pv 1) (pv 4) (fun _ _ => rfl)) pa_nil)) ip_sub set_list)
      (pss_one (ps_expr (pe_bm PySem.F.plainAttrs_list PySem.F.slot_list_append PySem.F.type_list_append mt_append (pv 3) (pa_cons (pe_op op_cat (pv 5) (pe_lst (pa_cons pe_int pa_nil))) pa_nil)))))))
      (pss_cons (ps_expr (pe_bm PySem.F.plainAttrs_list PySem.F.slot_list_append PySem.F.type_list_append mt_append (pv 3) (pa_cons (pe_op op_cat (pe_op op_rep (pe_lst (pa_cons pe_int pa_nil)) (pv 2)) (pe_lst (pa_cons pe_int pa_nil))) pa_nil)))
      (pss_one (ps_ret (pv 3)))))))), ?_⟩
    have m1 := G.m1
    have m6 := G.m6
    refine ⟨.ref x, rfl, x, many, ms, rfl, hC, G, fun W as H1 s1 hW => ?_⟩
    have hC1 := hC.same s1
    obtain ⟨dx1, a1, ws1, g1, _, _⟩ := id hC1
    refine ⟨.ref x, rfl, x, dx1, _, rfl, g1, ch_no, x, many, ms, rfl, hC1, ?_⟩
    refine ⟨(by show 0 ≤ sizeLine; decide), fun R nR => ?_⟩
    have s2 : Same H (upd H1 R (.lst [])) := s1.trans (same_new nR)
    have hW2 := hW.same (same_new (o := .lst []) nR)
    have nHR : H R = none := s1.free nR
    have hR2 : (upd H1 R (.lst [])) R = some (.lst []) := upd_same
    generalize upd H1 R (.lst []) = H2 at s2 hW2 hR2 ⊢
    have em : ((many : Nat) : Int).toNat = many := by omega
    refine ⟨.int (many : Int), rfl, _, _, rfl, rfl, _, rfl, by omega, by omega, ?_⟩
    refine for_range (lo := 0) (n := ((many : Nat) : Int) - 1 |>.toNat) (fun i σ H' => ∃ y4 y5, ∃ bs : List Addr, σ = [some (.ref x), some (.ref W), some (.int (many : Int)), some (.ref R), y4, y5, none] ∧ Same H H' ∧ WtsAt H H' W as many (cnt ms) ∧ H' R = some (.lst (bs.map V.ref)) ∧ bs.length = i ∧
      ∀ j a, bs[j]? = some a → H' a = some (.lst (rowV (many + 1) (balA many (cnt ms) (tot ms) j))) ∧ a ≠ R)
      ⟨none, none, [], rfl, s2, hW2, hR2, rfl, fun j a e => by simp at e⟩ ?_ ?_
    · rintro e σ H3 he ⟨y4, y5, bs, rfl, s3, hW3, hR3, lb, hbs⟩
      have he2 : e + 1 < many := by omega
      have eE : (0 : Int) + (e : Int) = (e : Int) := Int.zero_add _
      refine ⟨.int (many : Int), rfl, _, rfl, by omega, by omega, fun D nD => ?_⟩
      refine lc_range (lo := 0) (n := ((many : Nat) : Int).toNat) (fun j H' => Same H3 H' ∧ H' D = some (.lst (rowV j fun b => cnt ms b e))) ⟨same_new nD, upd_same⟩ ?_ ?_
      · rintro j H4 hj ⟨s4, hD⟩
        have hj' : j < many := by omega
        have ej : (0 : Int) + (j : Int) = (j : Int) := Int.zero_add _
        have hW4 := hW3.same s4
        obtain ⟨a, ha⟩ : ∃ a, as[j]? = some a := ⟨as[j]'(by rw [hW.len]; exact hj'), List.getElem?_eq_getElem (by rw [hW.len]; exact hj')⟩
        have gj : (as.map V.ref)[j]? = some (.ref a) := by rw [List.getElem?_map, ha]; rfl
        refine ⟨rfl, .ref W, rfl, .int (0 + (j : Int)), rfl, W, _, 0 + (j : Int), _, rfl, rfl, SqL.of hW4.at_, at_of ej gj, .int (0 + (e : Int)), rfl, a, _, 0 + (e : Int), _, rfl, rfl, SqL.of (hW4.row j a ha), at_of (j := e) eE (rowV_get (by omega)), _, hD, ?_, ?_⟩
        · rw [rowV_len]
          exact Nat.lt_of_le_of_lt (show j ≤ 6 by omega) (by decide)
        · refine ⟨fun b o q => by rw [upd_ne (ne_of_none q nD)]; exact s4 _ _ q, ?_⟩
          rw [upd_same, rowV_snoc (fun _ _ => rfl) rfl]
      · rintro H4 ⟨s4, hD⟩
        rw [em] at hD
        have hW4 := hW3.same s4
        obtain ⟨a, ha⟩ : ∃ a, as[e]? = some a := ⟨as[e]'(by rw [hW.len]; omega), List.getElem?_eq_getElem (by rw [hW.len]; omega)⟩
        have gj : (as.map V.ref)[e]? = some (.ref a) := by rw [List.getElem?_map, ha]; rfl
        have et : ((List.range many).map (cnt ms e)).sum = tot ms := by rw [sum_range]; exact cnt_row (by omega) G.mv
        have hrow : H4 a = some (.lst (((List.range many).map (cnt ms e)).map V.int)) := by rw [← rowV_map]; exact hW4.row e a ha
        refine ⟨.ref D, rfl, .int (0 + (e : Int)), rfl, D, _, 0 + (e : Int), _, rfl, rfl, SqL.of hD, at_of (j := e) eE (rowV_get (by omega)), ?_⟩
        refine ⟨.ref W, rfl, .int (0 + (e : Int)), rfl, W, _, 0 + (e : Int), _, rfl, rfl, SqL.of hW4.at_, at_of (j := e) eE gj, a, _, rfl, SqL.of hrow, ?_⟩
        rw [et]
        refine ⟨_, _, rfl, rfl, D, _, 0 + (e : Int), e, rfl, rfl, hD, ?_, ?_⟩
        · rw [rowV_len]
          unfold ixN
          rw [if_pos (by omega), if_pos (by omega)]
          congr 1
          omega
        rw [rowV_set (by omega)]
        have nDR : R ≠ D := ne_of_none hR3 nD
        have hR4 := s4 _ _ hR3
        have hR5 : (upd H4 D (.lst (rowV many fun b => if b = e then cnt ms e e - tot ms else cnt ms b e))) R = some (.lst (bs.map V.ref)) := by rw [upd_ne nDR]; exact hR4
        have k5 : ∀ b o, H3 b = some o → (upd H4 D (.lst (rowV many fun b => if b = e then cnt ms e e - tot ms else cnt ms b e))) b = some o := fun b o q => by rw [upd_ne (ne_of_none q nD)]; exact s4 _ _ q
        have hD5 : (upd H4 D (.lst (rowV many fun b => if b = e then cnt ms e e - tot ms else cnt ms b e))) D = some (.lst (rowV many fun b => if b = e then cnt ms e e - tot ms else cnt ms b e)) := upd_same
        generalize upd H4 D (.lst (rowV many fun b => if b = e then cnt ms e e - tot ms else cnt ms b e)) = H5 at hR5 k5 hD5 ⊢
        refine ⟨.ref R, rfl, .inl ⟨rfl, _, SqL.of hR5⟩, .ref D, rfl, (by show 1 ≤ sizeLine; decide), fun z nz => ?_⟩
        have s6 := same_new (o := .lst [.int 0]) nz
        refine ⟨D, z, _, _, rfl, rfl, s6 _ _ hD5, upd_same, ?_, fun y ny => ?_⟩
        · rw [rowV_len]
          exact Nat.le_of_lt (Nat.lt_of_le_of_lt (show many + 1 ≤ 7 by omega) (by decide))
        rw [rowV_snoc (h := balA many (cnt ms) (tot ms) e) (fun i hi => by
          unfold balA
          rw [if_pos he2, if_neg (by omega)]
          by_cases q : i = e
          · rw [if_pos q, if_pos q, q]
          · rw [if_neg q, if_neg q]) (by
          unfold balA
          rw [if_pos he2, if_pos rfl])]
        have s7 := s6.trans (same_new (o := .lst (rowV (many + 1) (balA many (cnt ms) (tot ms) e))) ny)
        have hy : (upd (upd H5 z (.lst [.int 0])) y (.lst (rowV (many + 1) (balA many (cnt ms) (tot ms) e)))) y = some (.lst (rowV (many + 1) (balA many (cnt ms) (tot ms) e))) := upd_same
        have hR7 := s7 _ _ hR5
        have nyR : y ≠ R := fun q => by rw [q, s6 _ _ hR5] at ny; cases ny
        generalize upd (upd H5 z (.lst [.int 0])) y (.lst (rowV (many + 1) (balA many (cnt ms) (tot ms) e))) = H7 at s7 hy hR7 ⊢
        refine ⟨R, _, .ref y, rfl, rfl, hR7, ?_, ?_⟩
        · rw [List.length_map, lb]
          exact Nat.lt_of_le_of_lt (show e ≤ 6 by omega) (by decide)
        have keep : ∀ b o, b ≠ R → H3 b = some o → (upd H7 R (.lst (bs.map V.ref ++ [.ref y]))) b = some o := fun b o n q => by rw [upd_ne n]; exact s7 _ _ (k5 _ _ q)
        refine ⟨_, _, bs ++ [y], rfl, fun b o q => keep b o (ne_of_none q nHR) (s3 _ _ q), ?_, ?_, ?_, fun j c q => ?_⟩
        · exact ⟨keep _ _ (ne_of_none hW.at_ nR) hW3.at_, hW3.len, fun b c q => keep _ _ (ne_of_none (hW.row b c q) nR) (hW3.row b c q), hW3.nd, hW3.new, hW3.newR, hW3.neR⟩
        · rw [upd_same, List.map_append]
          rfl
        · rw [List.length_append, lb]
          rfl
        · rcases nth_snoc q with q | ⟨q1, q2⟩
          · exact ⟨keep _ _ (hbs j c q).2 (hbs j c q).1, (hbs j c q).2⟩
          · subst q2
            refine ⟨?_, nyR⟩
            rw [upd_ne nyR, hy, q1, lb]
    · rintro σ H3 ⟨y4, y5, bs, rfl, s3, hW3, hR3, lb, hbs⟩
      have e1 : (((many : Nat) : Int) - 1).toNat = many - 1 := by omega
      rw [e1] at lb
      refine ⟨.ref R, rfl, .inl ⟨rfl, _, SqL.of hR3⟩, (by show 1 ≤ sizeLine; decide), fun z nz => ?_⟩
      have s4 := same_new (o := .lst [.int 1]) nz
      refine ⟨.int (many : Int), rfl, z, _, _, rfl, rfl, upd_same, by omega, by omega, ?_, fun y ny => ?_⟩
      · rw [em]
        exact Nat.le_of_lt (Nat.lt_of_le_of_lt (show 1 * many ≤ 6 by omega) (by decide))
      rw [em, flat_rep]
      have s5 := s4.trans (same_new (o := .lst (List.replicate many (V.int 1))) ny)
      have hy : (upd (upd H3 z (.lst [.int 1])) y (.lst (List.replicate many (V.int 1)))) y = some (.lst (List.replicate many (V.int 1))) := upd_same
      generalize upd (upd H3 z (.lst [.int 1])) y (.lst (List.replicate many (V.int 1))) = H5 at s5 hy ⊢
      refine ⟨(by show 1 ≤ sizeLine; decide), fun z2 nz2 => ?_⟩
      have s6 := same_new (o := .lst [.int 1]) nz2
      refine ⟨y, z2, _, _, rfl, rfl, s6 _ _ hy, upd_same, ?_, fun y2 ny2 => ?_⟩
      · rw [List.length_replicate]
        exact Nat.le_of_lt (Nat.lt_of_le_of_lt (show many + 1 ≤ 7 by omega) (by decide))
      have er : List.replicate many (V.int 1) ++ [V.int 1] = rowV (many + 1) (balA many (cnt ms) (tot ms) (many - 1)) := by
        have : List.replicate many (V.int 1) ++ [V.int 1] = List.replicate (many + 1) (V.int 1) := by rw [List.replicate_succ']
        rw [this]
        apply List.ext_getElem?
        intro i
        rw [List.getElem?_replicate]
        by_cases hi : i < many + 1
        · rw [if_pos hi, rowV_get hi]
          unfold balA
          rw [if_neg (by omega)]
        · rw [if_neg hi, List.getElem?_eq_none (by rw [rowV_len]; omega)]
      rw [er]
      have s7 := (s5.trans s6).trans (same_new (o := .lst (rowV (many + 1) (balA many (cnt ms) (tot ms) (many - 1)))) ny2)
      have hy2 : (upd (upd H5 z2 (.lst [.int 1])) y2 (.lst (rowV (many + 1) (balA many (cnt ms) (tot ms) (many - 1))))) y2 = some (.lst (rowV (many + 1) (balA many (cnt ms) (tot ms) (many - 1)))) := upd_same
      have hR7 := s7 _ _ hR3
      have nyR : y2 ≠ R := fun q => by rw [q, (s5.trans s6) _ _ hR3] at ny2; cases ny2
      generalize upd (upd H5 z2 (.lst [.int 1])) y2 (.lst (rowV (many + 1) (balA many (cnt ms) (tot ms) (many - 1)))) = H7 at s7 hy2 hR7 ⊢
      refine ⟨R, _, .ref y2, rfl, rfl, hR7, ?_, ?_⟩
      · rw [List.length_map, lb]
        exact Nat.lt_of_le_of_lt (show many - 1 ≤ 6 by omega) (by decide)
      have keep : ∀ b o, b ≠ R → H3 b = some o → (upd H7 R (.lst (bs.map V.ref ++ [.ref y2]))) b = some o := fun b o n q => by rw [upd_ne n]; exact s7 _ _ q
      refine ⟨.ref R, rfl, q R (bs ++ [y2]) _ (fun b o q => keep b o (ne_of_none q nHR) (s3 _ _ q)) ⟨?_, ?_, fun j c q => ?_⟩⟩
      · rw [upd_same, List.map_append]
        rfl
      · rw [List.length_append, lb]
        show many - 1 + 1 = many
        omega
      · rcases nth_snoc q with q | ⟨q1, q2⟩
        · exact ⟨keep _ _ (hbs j c q).2 (hbs j c q).1, (hbs j c q).2⟩
        · subst q2
          refine ⟨?_, nyR⟩
          rw [upd_ne nyR, hy2, q1, lb]
end
section
def Big (x : Int) : Prop := x.natAbs < 2 ^ 4000
theorem Big.mul {x y : Int} (hx : Big x) (hy : Big y) : (x * y).natAbs < 2 ^ 8999 := by
  rw [Int.natAbs_mul]
  refine Nat.lt_of_lt_of_le (Nat.mul_lt_mul'' hx hy) ?_
  rw [← Nat.pow_add]
  exact Nat.pow_le_pow_right (by decide) (by decide)
theorem Big.ok {x y : Int} (hx : Big x) (hy : Big y) : CMulW x y := wide_mul hx hy (by decide) (by decide) (by decide)
theorem Big.of_le {x : Int} {m : Nat} (h : x.natAbs ≤ m) (hm : m < 2 ^ 4000 := by decide) : Big x := Nat.lt_of_le_of_lt h hm
theorem Big.mono {a b : Int} (h0 : 0 ≤ a) (h : a ≤ b) (hb : Big b) : Big a := Nat.lt_of_le_of_lt (show a.natAbs ≤ b.natAbs by omega) hb
theorem frac_big {x z : Int} (hx : 0 ≤ x) (h1 : Big x) (hz : 0 < z) (h2 : Big z) : Big (frac x z).1 ∧ Big (frac x z).2 := by
  have a1 := frac_nn hx hz
  have a2 := frac_top hx hz
  have a3 := frac_pos (x := x) hz
  have a4 := frac_le (x := x) hz
  exact ⟨h1.mono a1 a2, h2.mono (by omega) a4⟩
end
section
variable {P : Program} {w : World} {K : PySem.W.Frag} {mg : Str → Option Value} {base : Heap} {C : Addr}
/-! ### own -/
theorem scOw : FnScope ["chain", "groups"] ["chain"] (defScope sOwn) := ⟨rfl, rfl, rfl, by decide +kernel, rfl, by decide +kernel, by decide +kernel⟩
/-- the own shares, over one bottom -/
structure OwnOk (many : Nat) (ms : List Mv) (g : List Int) (z : Nat → Int) (t : Int) : Prop where
  pos : 0 < t
  big : t.natAbs ≤ 2000 ^ 6
  st : Stat many (cnt ms) (tot ms) z
  sum : sumN many z = t
  nn : ∀ b, b < many → 0 ≤ z b
  supp : ∀ b, b < many → (0 < z b ↔ (b : Int) ∈ g)
def FracsAt (H : Hp) (us : List V) (n : Nat) (f : Nat → Int × Int) : Prop := us.length = n ∧ ∀ m u, us[m]? = some u → FracAt H u (f m)
theorem FracsAt.mono {H H' : Hp} {us : List V} {n : Nat} {f : Nat → Int × Int} (h : FracsAt H us n f) (k : ∀ t xs, H t = some (.tup xs) → H' t = some (.tup xs)) : FracsAt H' us n f := ⟨h.1, fun m u e => by
  obtain ⟨t, e2, h2⟩ := h.2 m u e
  exact ⟨t, e2, k _ _ h2⟩⟩
theorem FracsAt.same {H H' : Hp} {us : List V} {n : Nat} {f : Nat → Int × Int} (s : Same H H') (h : FracsAt H us n f) : FracsAt H' us n f := h.mono fun _ _ e => s _ _ e
def spOwn (C T : Addr) : Sp := fun vs H Q _ => ∃ (x : Addr) (many : Nat) (ms : List Mv), vs = [.ref x] ∧ ChainAt C H x many ms ∧ Good many ms ∧ (closedL many ms).length ≤ 1 ∧ GxR.TabG H T ∧
  ∀ g S us z t H', closedL many ms = [g] → OwnOk many ms g z t → Gr T H H' → GxR.TabG H' T → H' S = some (.lst us) → FracsAt H' us many (fun m => frac (z m) t) → Q (.ref S) H'
theorem ChainAt.tab {T x : Addr} {H H' : Hp} {many : Nat} {ms : List Mv} (hT : GxR.TabG H T) (g : Gr T H H') (h : ChainAt C H x many ms) : ChainAt C H' x many ms := by
  obtain ⟨dx, a0, ws0, h1, h2, h3⟩ := h
  exact ⟨dx, a0, ws0, g.tab hT (fun _ z => nomatch z) h1, g.tab hT (fun _ z => nomatch z) h2, h3.same fun b xs e => g.tab hT (fun _ z => nomatch z) e⟩
theorem ok_own {f fC fS fB tI : Addr} {fd fdC fdS fdB : FuncData} (F : Fun K "own" "own" sOwn f fd) (DC : Df K mg "closed" sClosed ["chain"] fC fdC) (DSv : Df K mg "solved" sSolved ["equations"] fS fdS) (DBa : Df K mg "_balance" sBalance ["chain"] fB fdB)
    (GC : FnOk P w K mg base CX0 4 fC fdC ["chain"] (spCl C tI)) (GSv : FnOk P w K mg base CX0 2 fS fdS ["equations"] spSv) (GBa : FnOk P w K mg base CX0 3 fB fdB ["chain"] (spBa C)) (ml : mg "len" = none) : FnOk P w K mg base CX0 5 f fd ["chain"] (spOwn C tI) := by
  refine F.ok scOw (fun vs H Q E h => ?_) (fun cdv A outer s H vs Q E hr h => ?_)
  · obtain ⟨x, many, ms, rfl, _⟩ := h
    rfl
  · obtain ⟨x, many, ms, rfl, hC, G, hlen, hTab, q⟩ := h
    have r4 : Room 4 _ := hr
    have r3 : Room 3 _ := hr.mono (by decide)
    have r2 : Room 2 _ := hr.mono (by decide)
    refine ⟨_, (pss_cons (ps_set (i := 1) scOw.nd rfl (.inl rfl) (pe_call GC r4 (by rfl) DC.g DC.F.kp DC.b .nil pass0 (pa_cons (pv 0) pa_nil)))
      (pss_cons (ps_if (pt_cmpR op_gt (pe_callB call_len_seq (by rfl) ml PySem.boot_len (pa_cons (pv 1) pa_nil)) pe_int (nomark _)) pss_never pss_nil)
      (pss_one (ps_ret (pe_call GSv r2 (by rfl) DSv.g DSv.F.kp DSv.b .nil pass0 (pa_cons (pe_call GBa r3 (by rfl) DBa.g DBa.F.kp DBa.b .nil pass0 (pa_cons (pv 0) pa_nil)) pa_nil)))))), ?_⟩
    have m1 := G.m1
    have m6 := G.m6
    have ne := closedL_ne (ms := ms) G.mv m1 m6
    obtain ⟨g, hg⟩ : ∃ g, closedL many ms = [g] := by
      cases h : closedL many ms with
      | nil => exact absurd h ne
      | cons g r =>
        rw [h] at hlen
        cases r with
        | nil => exact ⟨g, rfl⟩
        | cons _ _ => simp at hlen
    refine ⟨.ref x, rfl, x, many, ms, rfl, hC, G, hTab, fun L H1 g1 hT1 nL hL => ?_⟩
    have hC1 := hC.tab hTab g1
    obtain ⟨vl, hvl, hpl⟩ := id hL
    refine ⟨.ref L, rfl, L, _, rfl, .inl (SqL.of hvl), _, _, rfl, rfl, _, rfl, ite2 (fun c => ?_) (fun c => ?_)⟩
    · have h1 : (1 : Int) < ((vl.length : Nat) : Int) := of_decide_eq_true c
      rw [hpl.length] at h1
      omega
    refine ⟨.ref x, rfl, x, many, ms, rfl, hC1, G, fun R as H2 s2 hM => ?_⟩
    have fl := cnt_flow G
    have oc := one_cl G hg
    have tp := tot_pos G
    refine ⟨R, as, many, _, rfl, hM, by omega, bal_inj fl oc, bal_l1 fl (K := 2000) (by omega), fun S us d X H3 s3 hS d0 db xb sol lu hus => ?_⟩
    obtain ⟨z, t, t0, hzt, st, sum, nn, supp⟩ := bal_sol fl oc d0 sol
    have p6 : (2000 : Nat) ^ many ≤ 2000 ^ 6 := Nat.pow_le_pow_right (by decide) m6
    have O : OwnOk many ms g z t := ⟨t0, by
      rcases hzt with ⟨e, _⟩ | ⟨e, _⟩
      · rw [e]; omega
      · rw [e, Int.natAbs_neg]; omega, st, sum, nn, supp⟩
    refine q g S us z t H3 hg O (g1.trans (Gr.of_same (s2.trans s3))) (tab_same (s2.trans s3) hT1) hS ⟨lu, fun m u e => ?_⟩
    have h := hus m u e
    rcases hzt with ⟨e1, e2⟩ | ⟨e1, e2⟩
    · rw [e1, e2]
      rw [fracZ_pos (by omega)] at h
      exact h
    · rw [e1, e2]
      have e3 : fracZ (X m) d = frac (-X m) (-d) := if_pos (by omega)
      rw [e3] at h
      exact h
end
section
variable {P : Program} {w : World} {K : PySem.W.Frag} {mg : Str → Option Value} {base : Heap} {C : Addr}
/-! ### _row_to_one -/
/-- what is found at i of a dict of groups and rows -/
theorem kv_at {H : Hp} : ∀ {kvs : List (List Key × V)} {l : List GR} {i : Nat} {k : List Key} {v : V}, Paired (KvAt H) kvs l → kvs[i]? = some (k, v) → ∃ g : GR, l[i]? = some g ∧ k = g.1.map Sum.inl ∧ ∃ a, v = .ref a ∧ H a = some (.lst (g.2.map V.int))
  | _, _, _, _, _, .nil, e => by simp at e
  | _, _, 0, _, _, .cons h _, e => by
    cases e
    exact ⟨_, rfl, h⟩
  | _, _, i + 1, _, _, .cons _ r, e => kv_at (i := i) r e
/-- the least of the shortest rows by which a group is one place -/
def rowTo (many : Nat) (ms : List Mv) (g : List Int) : Option (List Int) := ((gf many ms g).find? fun p => decide (p.1.length = 1)).map (·.2)
def ListOr2 (H : Hp) (v : V) (r : Option (List Int)) : Prop := match r with
  | none => v = .non
  | some o => ∃ a, v = .ref a ∧ H a = some (.lst (o.map V.int))
theorem scRt : FnScope ["moves", "group", "led", "row"] ["moves", "group"] (defScope sRowToOne) := ⟨rfl, rfl, rfl, by decide +kernel, rfl, by decide +kernel, by decide +kernel⟩
def spRt : Sp := fun vs H Q _ => ∃ (m ba : Addr) (many : Nat) (ws : List V) (ms : List Mv) (b : List Int), vs = [.ref m, .ref ba] ∧ H m = some (.lst ws) ∧ MovesAt H ws ms ∧ GoodAll many ms ∧ ms.length ≤ 8 ∧ many ≤ 6 ∧ H ba = some (.tup (b.map V.int)) ∧ goodG many b ∧
  ∀ v H', Same H H' → ListOr2 H' v (rowTo many ms b) → Q v H'
theorem find_at {l : List GR} {f : GR → Bool} {i : Nat} {g : GR} (e : l[i]? = some g) (h : f g = true) (bef : ∀ j p, j < i → l[j]? = some p → f p = false) : l.find? f = some g := by
  induction l generalizing i with
  | nil => simp at e
  | cons x r ih =>
    cases i with
    | zero =>
      cases e
      rw [List.find?_cons, h]
    | succ i =>
      rw [List.find?_cons, bef 0 x (Nat.succ_pos _) rfl]
      exact ih e fun j p hj ej => bef (j + 1) p (Nat.succ_lt_succ hj) ej
theorem len_one (n : Nat) : decide (V.int ((n : Nat) : Int) = V.int 1) = decide (n = 1) := by
  refine decide_eq_decide.mpr ⟨fun h => ?_, fun h => by subst h; rfl⟩
  injection h with h
  omega
theorem ok_rt {f fG : Addr} {fd fdG : FuncData} (F : Fun K "_row_to_one" "_row_to_one" sRowToOne f fd) (DG : Df K mg "groups_from" sGroupsFrom ["moves", "begin"] fG fdG) (GG : FnOk P w K mg base CX0 2 fG fdG ["moves", "begin"] spGf) (ml : mg "len" = none) : FnOk P w K mg base CX0 3 f fd ["moves", "group"] spRt := by
  refine F.ok scRt (fun vs H Q E h => ?_) (fun cdv A outer s H vs Q E hr h => ?_)
  · obtain ⟨m, ba, many, ws, ms, b, rfl, _⟩ := h
    rfl
  · obtain ⟨m, ba, many, ws, ms, b, rfl, hm, hM, G, l8, m6, hb, gb, q⟩ := h
    refine ⟨_, (pss_cons (ps_for PassesOwn.never rfl (pi_itemsT (pe_frz (pe_call GG hr (by rfl) DG.g DG.F.kp DG.b .nil pass0 (pa_cons (pv 0) (pa_cons (pv 1) pa_nil))))) (pg_tup rfl (pgs_cons (pg_name (i := 2) scRt.nd rfl (.inl rfl)) (pgs_cons (pg_name (i := 3) scRt.nd rfl (.inl rfl)) pgs_nil))) (pss_one (ps_if (pt_cmpR op_eq (pe_callB call_len_seq (by rfl) ml PySem.boot_len (pa_cons (pv 2) pa_nil)) pe_int (nomark _)) (pss_one (ps_ret (pv 3))) pss_nil)))
      (pss_one (ps_ret pe_non))), ?_⟩
    refine ⟨.ref m, rfl, .ref ba, rfl, m, ba, many, ws, ms, b, rfl, hm, hM, G, l8, m6, hb, gb, fun D H1 s1 nD ⟨kvs, hD, pk⟩ => ?_⟩
    refine ⟨D, .dT kvs, rfl, hD, True.intro, fun od => ⟨D, od, kvs, rfl, upd_same, ?_⟩⟩
    have s2 : Same H (upd H1 D (.frz od (.dT kvs))) := Same.put s1 nD
    have rowAt : ∀ {a : Addr} {r : List Int}, H1 a = some (.lst (r.map V.int)) → (upd H1 D (.frz od (.dT kvs))) a = some (.lst (r.map V.int)) := fun {a r} e => by
      rw [upd_ne (fun z => by rw [z, hD] at e; cases e)]
      exact e
    have lenK : kvs.length = (gf many ms b).length := pk.length
    have hDf : (upd H1 D (.frz od (.dT kvs))) D = some (.frz od (.dT kvs)) := upd_same
    generalize hHF : upd H1 D (.frz od (.dT kvs)) = HF at s2 rowAt hDf ⊢
    refine for_it walk_itemsT (fun i σ H' => ∃ y2 y3, σ = [some (.ref m), some (.ref ba), y2, y3] ∧ Same HF H' ∧ ∀ j p, j < i → (gf many ms b)[j]? = some p → decide (p.1.length = 1) = false) ⟨none, none, rfl, Same.refl _, fun j p hj => absurd hj (Nat.not_lt_zero _)⟩ (fun i σ H' _ ⟨_, _, _, s3, _⟩ => s3 _ _ hDf) ?_ ?_
    · rintro i x σ H2 H2' hi ⟨y2, y3, rfl, s3, bef⟩ ⟨T, qa, k, v, ekv, rfl, nT, hqa, rfl⟩
      obtain ⟨g, eg, ek, a, rfl, ha⟩ := kv_at pk ekv
      have hq : H2 qa = some (.tup (g.1.map V.int)) := by rw [hqa, ek, key_ints]
      have sT := same_new (o := .tup [.ref qa, .ref a]) nT
      refine ⟨T, [.ref qa, .ref a], rfl, SqT.of upd_same, rfl, .ref qa, [.ref a], rfl, .ref a, [], rfl, rfl, ?_⟩
      refine ⟨.ref qa, rfl, qa, _, rfl, .inr (SqT.of (sT _ _ hq)), ?_⟩
      rw [List.length_map]
      refine ⟨rfl, decide (g.1.length = 1), ?_, ?_⟩
      · rw [len_one]
      by_cases c : g.1.length = 1
      · rw [decide_eq_true c]
        refine iteT ⟨.ref a, rfl, q _ _ (s2.trans (s3.trans sT)) ?_⟩
        have e : rowTo many ms b = some g.2 := by
          unfold rowTo
          rw [find_at eg (decide_eq_true c) bef]
          rfl
        rw [e]
        exact ⟨a, rfl, sT _ _ (s3 _ _ (rowAt ha))⟩
      · rw [decide_eq_false c]
        refine iteF ⟨_, _, rfl, s3.trans sT, fun j p hj e => ?_⟩
        by_cases cj : j < i
        · exact bef j p cj e
        · have ej : j = i := by omega
          rw [ej, eg] at e
          cases e
          exact decide_eq_false c
    · rintro σ H2 ⟨y2, y3, rfl, s3, bef⟩
      refine q _ _ (s2.trans s3) ?_
      have e : rowTo many ms b = none := by
        unfold rowTo
        rw [List.find?_eq_none.mpr fun p hp => ?_]
        · rfl
        · obtain ⟨j, hj, ep⟩ := List.getElem_of_mem hp
          rw [bef j p (by omega) (by rw [← ep]; exact List.getElem?_eq_getElem hj)]
          exact Bool.false_ne_true
      rw [e]
      rfl
/-! ### _first_apart -/
def natPairs (n : Nat) : List (List Nat) := (List.range n).flatMap fun i => (List.range' (i + 1) (n - (i + 1))).map fun j => [i, j]
theorem combs_eq : ∀ n, n ≤ 6 → Cm.combsN n = natPairs n := by
  intro n hn
  match n, hn with
  | 0, _ => decide +kernel
  | 1, _ => decide +kernel
  | 2, _ => decide +kernel
  | 3, _ => decide +kernel
  | 4, _ => decide +kernel
  | 5, _ => decide +kernel
  | 6, _ => decide +kernel
theorem mem_natPairs {n : Nat} {g : List Nat} : g ∈ natPairs n ↔ ∃ i j, i < j ∧ j < n ∧ g = [i, j] := by
  unfold natPairs
  rw [List.mem_flatMap]
  constructor
  · rintro ⟨i, hi, h⟩
    obtain ⟨j, hj, rfl⟩ := List.mem_map.mp h
    have a := List.mem_range.mp hi
    have b := List.mem_range'_1.mp hj
    exact ⟨i, j, by omega, by omega, rfl⟩
  · rintro ⟨i, j, a, b, rfl⟩
    exact ⟨i, List.mem_range.mpr (by omega), List.mem_map.mpr ⟨j, List.mem_range'_1.mpr (by omega), rfl⟩⟩
/-- all pairs, rising -/
def pairsL (many : Nat) : List (List Int) := (natPairs many).map fun g => g.map fun (i : Nat) => (i : Int)
theorem mem_pairsL {many : Nat} {g : List Int} : g ∈ pairsL many ↔ ∃ x y : Int, 0 ≤ x ∧ x < y ∧ y < (many : Int) ∧ g = [x, y] := by
  unfold pairsL
  rw [List.mem_map]
  constructor
  · rintro ⟨n, hn, rfl⟩
    obtain ⟨i, j, a, b, rfl⟩ := mem_natPairs.mp hn
    exact ⟨(i : Int), (j : Int), by omega, by omega, by omega, rfl⟩
  · rintro ⟨x, y, a, b, c, rfl⟩
    refine ⟨[x.toNat, y.toNat], mem_natPairs.mpr ⟨x.toNat, y.toNat, by omega, by omega, rfl⟩, ?_⟩
    show [((x.toNat : Nat) : Int), ((y.toNat : Nat) : Int)] = [x, y]
    rw [Int.toNat_of_nonneg a, Int.toNat_of_nonneg (by omega)]
theorem pair_good {many : Nat} {x y : Int} (a : 0 ≤ x) (b : x < y) (c : y < (many : Int)) : goodG many [x, y] :=
  ⟨List.pairwise_cons.mpr ⟨fun z hz => by rw [List.mem_singleton.mp hz]; exact b, List.pairwise_singleton _ _⟩, fun z hz => by
    rcases List.mem_cons.mp hz with e | hz
    · rw [e]; omega
    · rw [List.mem_singleton.mp hz]; omega⟩
def firstApart (many : Nat) (ms : List Mv) : Option (List Int) := (pairsL many).find? fun g => (rowTo many ms g).isNone
def TupOr (H : Hp) (v : V) (r : Option (List Int)) : Prop := match r with
  | none => v = .non
  | some o => ∃ a, v = .ref a ∧ H a = some (.tup (o.map V.int))
theorem walk_comb {n : Nat} : L2.Walk (ItC n) (Cm.combsN n).length (fun _ => True) (fun i H v H' => ∃ T ns, v = .ref T ∧ H T = none ∧ H' = upd H T (.tup (ns.map fun (j : Nat) => V.int j)) ∧ (Cm.combsN n)[i]? = some ns) :=
  ⟨fun _ _ hi _ => hi, fun _ _ => Nat.le_refl _, fun _ _ _ _ _ _ y => y⟩
theorem scFa : FnScope ["chain", "moves", "pair"] ["chain"] (defScope sFirstApart) := ⟨rfl, rfl, rfl, by decide +kernel, rfl, by decide +kernel, by decide +kernel⟩
def spFa (C : Addr) : Sp := fun vs H Q _ => ∃ (x : Addr) (many : Nat) (ms : List Mv), vs = [.ref x] ∧ ChainAt C H x many ms ∧ Good many ms ∧ ∀ v H', Same H H' → TupOr H' v (firstApart many ms) → Q v H'
theorem find_atL {α : Type} {l : List α} {f : α → Bool} {i : Nat} {g : α} (e : l[i]? = some g) (h : f g = true) (bef : ∀ j p, j < i → l[j]? = some p → f p = false) : l.find? f = some g := by
  induction l generalizing i with
  | nil => simp at e
  | cons x r ih =>
    cases i with
    | zero =>
      cases e
      rw [List.find?_cons, h]
    | succ i =>
      rw [List.find?_cons, bef 0 x (Nat.succ_pos _) rfl]
      exact ih e fun j p hj ej => bef (j + 1) p (Nat.succ_lt_succ hj) ej
theorem ok_fa {f fR fP fT : Addr} {fd fdR fdP fdT : FuncData} (F : Fun K "_first_apart" "_first_apart" sFirstApart f fd) (DRt : Df K mg "_row_to_one" sRowToOne ["moves", "group"] fR fdR) (GRt : FnOk P w K mg base CX0 3 fR fdR ["moves", "group"] spRt) (T : ChM K C fP fT fdP fdT) (mL : mg "list" = none) (mr : mg "range" = none) (mC : mg "combinations" = some (.type "itertools.combinations")) :
    FnOk P w K mg base CX0 4 f fd ["chain"] (spFa C) := by
  have GP : FnOk P w K mg base CX0 1 fP fdP ["self"] (spPlaces C) := ok_places T.FP T.cl T.nM
  have GT : FnOk P w K mg base CX0 1 fT fdT ["self"] (spTold C) := ok_told T.FT T.cl T.nV mL
  refine F.ok scFa (fun vs H Q E h => ?_) (fun cdv A outer s H vs Q E hr h => ?_)
  · obtain ⟨x, many, ms, rfl, _⟩ := h
    rfl
  · obtain ⟨x, many, ms, rfl, hC, G, q⟩ := h
    have r1 : Room 1 _ := hr.mono (by decide)
    refine ⟨_, (pss_cons (ps_set (i := 1) scFa.nd rfl (.inl rfl) (pe_meth0 (pv 0) T.cl T.hT GT r1 T.bT .nil pass0))
      (pss_cons (ps_for PassesOwn.never rfl (pi_comb rfl (by rfl) mC (prg_1 (by rfl) mr (pe_meth0 (pv 0) T.cl T.hP GP r1 T.bP .nil pass0))) (pg_name (i := 2) scFa.nd rfl (.inl rfl)) (pss_one (ps_if (pt_cmpR op_isN (pe_call GRt hr (by rfl) DRt.g DRt.F.kp DRt.b .nil pass0 (pa_cons (pv 1) (pa_cons (pv 2) pa_nil))) pe_non (nomark _)) (pss_one (ps_ret (pv 2))) pss_nil)))
      (pss_one (ps_ret pe_non)))), ?_⟩
    have m6 := G.m6
    have l8 := G.l8
    have l1 := G.l1
    obtain ⟨dx, a0, ws0, h1, h2, h3⟩ := id hC
    refine ⟨.ref x, rfl, x, dx, _, rfl, h1, ch_noT, x, many, ms, rfl, hC, fun m ws nm hM => ?_⟩
    have s1 := same_new (o := .lst ws) nm
    have hm1 : (upd H m (.lst ws)) m = some (.lst ws) := upd_same
    have hM1 : MovesAt (upd H m (.lst ws)) ws ms := hM
    have hC1 := hC.same s1
    generalize upd H m (.lst ws) = H1 at s1 hm1 hM1 hC1 ⊢
    obtain ⟨dx1, a1, ws1, h1, h2, h3⟩ := id hC1
    refine ⟨.ref x, rfl, x, dx1, _, rfl, h1, ch_no, x, many, ms, rfl, hC1, _, rfl, many, rfl, rfl, m6, ?_⟩
    have at_pair : ∀ {i : Nat} {ns : List Nat}, (Cm.combsN many)[i]? = some ns → (pairsL many)[i]? = some (ns.map fun (j : Nat) => (j : Int)) := fun {i ns} e => by
      unfold pairsL
      rw [← combs_eq many m6, List.getElem?_map, e]
      rfl
    refine for_it walk_comb (fun i σ H' => ∃ y2, σ = [some (.ref x), some (.ref m), y2] ∧ Same H1 H' ∧ ∀ j g, j < i → (pairsL many)[j]? = some g → (rowTo many ms g).isNone = false) ⟨none, rfl, Same.refl _, fun j p hj => absurd hj (Nat.not_lt_zero _)⟩ (fun _ _ _ _ _ => True.intro) ?_ ?_
    · rintro i v σ H2 H2' hi ⟨y2, rfl, s2, bef⟩ ⟨T', ns, rfl, nT, rfl, e⟩
      have ep := at_pair e
      obtain ⟨a, b, a0', ab, bm, eg⟩ := mem_pairsL.mp (List.mem_of_getElem? ep)
      have gg : goodG many (ns.map fun (j : Nat) => (j : Int)) := by rw [eg]; exact pair_good a0' ab bm
      have sT := same_new (o := .tup (ns.map fun (j : Nat) => V.int j)) nT
      have s12 := s2.trans sT
      have hT : (upd H2 T' (.tup (ns.map fun (j : Nat) => V.int j))) T' = some (.tup ((ns.map fun (j : Nat) => (j : Int)).map V.int)) := by
        rw [upd_same, List.map_map]
        rfl
      refine ⟨.ref m, rfl, .ref T', rfl, m, T', many, ws, ms, _, rfl, s12 _ _ hm1, hM1.same (Same.tups s12), G.mv, l8, m6, hT, gg, fun v H3 s3 hv => ?_⟩
      unfold ListOr2 at hv
      cases hr' : rowTo many ms (ns.map fun (j : Nat) => (j : Int)) with
      | none =>
        rw [hr'] at hv
        subst hv
        refine ⟨rfl, true, by simp, iteT ⟨.ref T', rfl, q _ _ (s1.trans (s12.trans s3)) ?_⟩⟩
        have e2 : firstApart many ms = some (ns.map fun (j : Nat) => (j : Int)) := find_atL ep (by rw [hr']; rfl) bef
        rw [e2]
        exact ⟨T', rfl, s3 _ _ hT⟩
      | some r =>
        rw [hr'] at hv
        obtain ⟨v', rfl, hv'⟩ := hv
        refine ⟨rfl, false, by simp, iteF ⟨_, rfl, s12.trans s3, fun j g hj ej => ?_⟩⟩
        by_cases c : j < i
        · exact bef j g c ej
        · have eji : j = i := by omega
          rw [eji, ep] at ej
          cases ej
          rw [hr']
          rfl
    · rintro σ H2 ⟨y2, rfl, s2, bef⟩
      refine q _ _ (s1.trans s2) ?_
      have lp : (pairsL many).length = (Cm.combsN many).length := by
        unfold pairsL
        rw [List.length_map, combs_eq many m6]
      have e : firstApart many ms = none := List.find?_eq_none.mpr fun g hg => by
        obtain ⟨j, hj, ej⟩ := List.getElem_of_mem hg
        rw [bef j g (by omega) (by rw [← ej]; exact List.getElem?_eq_getElem hj)]
        exact Bool.false_ne_true
      rw [e]
      rfl
end
/-! ### which places meet: the mathematics -/
/-- a row leads the group to one place -/
def Meets (many : Nat) (ms : List Mv) (g : List Int) : Prop := ∃ r, Valid ms r ∧ (runG many ms g r).length = 1
theorem runG_cons (many : Nat) (ms : List Mv) (g : List Int) (n : Int) (r : List Int) : runG many ms g (n :: r) = runG many ms (ledG many (rowM ms n.toNat) g) r := rfl
theorem runG_app (many : Nat) (ms : List Mv) (g r s : List Int) : runG many ms g (r ++ s) = runG many ms (runG many ms g r) s := List.foldl_append
theorem find_one {l : List GR} : (((l.find? fun p => decide (p.1.length = 1)).map (·.2)).isSome = true) ↔ ∃ p ∈ l, p.1.length = 1 := by
  rw [Option.isSome_map, List.find?_isSome]
  constructor
  · rintro ⟨p, hp, c⟩
    exact ⟨p, hp, of_decide_eq_true c⟩
  · rintro ⟨p, hp, c⟩
    exact ⟨p, hp, decide_eq_true c⟩
theorem rowTo_meets {many : Nat} {ms : List Mv} {g : List Int} (hb : goodG many g) (m6 : many ≤ 6) : (rowTo many ms g).isSome = true ↔ Meets many ms g := by
  have fo := find_one (l := gf many ms g)
  have rows := gf_row (many := many) (ms := ms) (b := g)
  have runs := fun r h => gf_run (many := many) (ms := ms) (b := g) hb m6 (r := r) h
  unfold rowTo
  generalize gf many ms g = l at fo rows runs ⊢
  rw [fo]
  constructor
  · rintro ⟨p, hp, c⟩
    obtain ⟨h1, h2⟩ := rows p hp
    exact ⟨p.2, h2, by rw [h1]; exact c⟩
  · rintro ⟨r, hv, hl⟩
    obtain ⟨p, hp, e⟩ := List.mem_map.mp (runs r hv)
    exact ⟨p, hp, by rw [e]; exact hl⟩
theorem rowTo_none {many : Nat} {ms : List Mv} {g : List Int} (hb : goodG many g) (m6 : many ≤ 6) : (rowTo many ms g).isNone = true ↔ ¬ Meets many ms g := by
  rw [← rowTo_meets hb m6]
  cases rowTo many ms g <;> simp
theorem runG_good {many : Nat} {ms : List Mv} {g : List Int} (hb : goodG many g) : ∀ r, goodG many (runG many ms g r) := fun r => by
  induction r using snocInd with
  | h0 => exact hb
  | h l x _ =>
    rw [runG_snoc]
    exact ledG_good _ _ _
theorem mem_runG {many : Nat} {ms : List Mv} (G : GoodAll many ms) : ∀ {r g : List Int} {z : Int}, goodG many g → Valid ms r → (z ∈ runG many ms g r ↔ ∃ x ∈ g, walkP ms x r = z)
  | [], g, z, _, _ => ⟨fun h => ⟨z, h, rfl⟩, fun ⟨x, hx, e⟩ => by
      have e' : x = z := e
      rw [← e']
      exact hx⟩
  | n :: r, g, z, hg, hv => by
    have hn := hv n List.mem_cons_self
    have gr : GoodRow many (rowM ms n.toNat) := rowM_good G (by omega)
    rw [runG_cons, mem_runG G (ledG_good _ _ _) fun k hk => hv k (List.mem_cons_of_mem _ hk)]
    constructor
    · rintro ⟨y, hy, e⟩
      obtain ⟨x, hx, rfl⟩ := (mem_ledG gr hg.2).mp hy
      exact ⟨x, hx, e⟩
    · rintro ⟨x, hx, e⟩
      exact ⟨goK (rowM ms n.toNat) x, (mem_ledG gr hg.2).mpr ⟨x, hx, rfl⟩, e⟩
theorem runG_len {many : Nat} {ms : List Mv} (G : GoodAll many ms) {r g h : List Int} (hg : goodG many g) (hv : Valid ms r) (sub : ∀ x ∈ g, walkP ms x r ∈ h.map fun y => walkP ms y r) : (runG many ms g r).length ≤ h.length := by
  have nd : (runG many ms g r).Nodup := List.Pairwise.imp (fun {a b} (h : a < b) => (by omega : a ≠ b)) (runG_good hg r).1
  have := pigeon (l := runG many ms g r) (m := h.map fun y => walkP ms y r) nd fun z hz => by
    obtain ⟨x, hx, rfl⟩ := (mem_runG G hg hv).mp hz
    exact sub x hx
  rw [List.length_map] at this
  exact this
theorem runG_ne {many : Nat} {ms : List Mv} (G : GoodAll many ms) {r g : List Int} (hg : goodG many g) (hv : Valid ms r) (ne : g ≠ []) : runG many ms g r ≠ [] := by
  obtain ⟨x, t, rfl⟩ := List.exists_cons_of_ne_nil ne
  intro z
  have := (mem_runG G hg hv).mpr ⟨x, List.mem_cons_self, rfl⟩
  rw [z] at this
  cases this
/-- where each two places meet, all do -/
theorem sync {many : Nat} {ms : List Mv} (G : GoodAll many ms) (all : ∀ x y : Int, 0 ≤ x → x < y → y < (many : Int) → Meets many ms [x, y]) : ∀ (k : Nat) (g : List Int), goodG many g → g ≠ [] → g.length ≤ k → Meets many ms g
  | 0, g, _, ne, h => absurd (List.eq_nil_of_length_eq_zero (by omega)) ne
  | k + 1, g, hg, ne, h => by
    match g, hg, ne, h with
    | [x], _, _, _ => exact ⟨[], (fun _ h => nomatch h), rfl⟩
    | x :: y :: t, hg, _, h =>
      have xy : x < y := (List.pairwise_cons.mp hg.1).1 y List.mem_cons_self
      have hx := hg.2 x List.mem_cons_self
      have hy := hg.2 y (List.mem_cons_of_mem _ List.mem_cons_self)
      obtain ⟨r, hv, hl⟩ := all x y hx.1 xy hy.2
      have gp : goodG many [x, y] := pair_good hx.1 xy hy.2
      obtain ⟨z, ez⟩ : ∃ z, runG many ms [x, y] r = [z] := List.length_eq_one_iff.mp hl
      have wx : walkP ms x r = z := by
        have := (mem_runG G gp hv).mpr ⟨x, List.mem_cons_self, rfl⟩
        rw [ez] at this
        exact List.mem_singleton.mp this
      have wy : walkP ms y r = z := by
        have := (mem_runG G gp hv).mpr ⟨y, List.mem_cons_of_mem _ List.mem_cons_self, rfl⟩
        rw [ez] at this
        exact List.mem_singleton.mp this
      have le : (runG many ms (x :: y :: t) r).length ≤ (x :: t).length := runG_len G hg hv fun u hu => by
        rcases List.mem_cons.mp hu with e | hu
        · rw [e]; exact List.mem_map.mpr ⟨x, List.mem_cons_self, rfl⟩
        · rcases List.mem_cons.mp hu with e | hu
          · rw [e, wy, ← wx]; exact List.mem_map.mpr ⟨x, List.mem_cons_self, rfl⟩
          · exact List.mem_map.mpr ⟨u, List.mem_cons_of_mem _ hu, rfl⟩
      obtain ⟨s, hs, e⟩ := sync G all k (runG many ms (x :: y :: t) r) (runG_good hg r) (runG_ne G hg hv (List.cons_ne_nil _ _)) (by
        rw [List.length_cons] at le h
        rw [List.length_cons] at h
        omega)
      exact ⟨r ++ s, hv.app hs, by rw [runG_app]; exact e⟩
theorem apart_none {many : Nat} {ms : List Mv} (G : GoodAll many ms) (m6 : many ≤ 6) (m1 : 1 ≤ many) (h : firstApart many ms = none) : (rowTo many ms (ids many)).isSome = true := by
  refine (rowTo_meets (ids_good many) m6).mpr (sync G (fun x y x0 xy ym => ?_) _ (ids many) (ids_good many) (fun z => ?_) (Nat.le_refl _))
  · have := List.find?_eq_none.mp h [x, y] (mem_pairsL.mpr ⟨x, y, x0, xy, ym, rfl⟩)
    exact Classical.byContradiction fun c => this ((rowTo_none (pair_good x0 xy ym) m6).mpr c)
  · have : (0 : Int) ∈ ids many := mem_ids.mpr ⟨by omega, by omega⟩
    rw [z] at this
    cases this
/-- if two are apart so are all -/
theorem Meets.sub {many : Nat} {ms : List Mv} (G : GoodAll many ms) {g h : List Int} (hg : goodG many g) (hh : goodG many h) (ne : h ≠ []) (sub : ∀ x ∈ h, x ∈ g) (m : Meets many ms g) : Meets many ms h := by
  obtain ⟨r, hv, hl⟩ := m
  refine ⟨r, hv, ?_⟩
  obtain ⟨z, ez⟩ := List.length_eq_one_iff.mp hl
  have le : (runG many ms h r).length ≤ [z].length := by
    have nd : (runG many ms h r).Nodup := List.Pairwise.imp (fun {a b} (h : a < b) => (by omega : a ≠ b)) (runG_good hh r).1
    refine pigeon nd fun u hu => ?_
    obtain ⟨x, hx, rfl⟩ := (mem_runG G hh hv).mp hu
    rw [← ez]
    exact (mem_runG G hg hv).mpr ⟨x, sub x hx, rfl⟩
  have : (runG many ms h r).length ≠ 0 := fun z => runG_ne G hh hv ne (List.eq_nil_of_length_eq_zero z)
  have e : [z].length = 1 := rfl
  omega
/-- what two that never meet come to: two -/
theorem apart_two {many : Nat} {ms : List Mv} (G : GoodAll many ms) {x y : Int} (hg : goodG many [x, y]) (no : ¬ Meets many ms [x, y]) : ∀ p ∈ gf many ms [x, y], p.1.length = 2 ∧ goodG many p.1 := by
  intro p hp
  obtain ⟨e, hv⟩ := gf_row p hp
  have le : (runG many ms [x, y] p.2).length ≤ [x, y].length := runG_len G hg hv fun u hu => List.mem_map.mpr ⟨u, hu, rfl⟩
  have ne := runG_ne G hg hv (List.cons_ne_nil x [y])
  have n0 : (runG many ms [x, y] p.2).length ≠ 0 := fun z => ne (List.eq_nil_of_length_eq_zero z)
  have n1 : (runG many ms [x, y] p.2).length ≠ 1 := fun z => no ⟨p.2, hv, z⟩
  have l2 : [x, y].length = 2 := rfl
  rw [← e]
  exact ⟨by omega, runG_good hg p.2⟩
theorem pairsL_len {many : Nat} (m6 : many ≤ 6) : (pairsL many).length ≤ 15 := by
  unfold pairsL
  rw [List.length_map]
  match many, m6 with
  | 0, _ => decide +kernel
  | 1, _ => decide +kernel
  | 2, _ => decide +kernel
  | 3, _ => decide +kernel
  | 4, _ => decide +kernel
  | 5, _ => decide +kernel
  | 6, _ => decide +kernel
/-! ### _law_apart: the mathematics -/
/-- where a move leads a pair, the lesser first -/
def bhP (row g : List Int) : List Int := if goK row (g.getD 0 0) ≤ goK row (g.getD 1 0) then [goK row (g.getD 0 0), goK row (g.getD 1 0)] else [goK row (g.getD 1 0), goK row (g.getD 0 0)]
def addA (kn : List (List Int)) (g row : List Int) : List (List Int) := if g ∉ kn ∧ ((bhP row g).getD 0 0 = (bhP row g).getD 1 0 ∨ bhP row g ∈ kn) then kn ++ [g] else kn
def movA (ms : List Mv) (g : List Int) (kn : List (List Int)) : Nat → List (List Int)
  | 0 => kn
  | k + 1 => addA (movA ms g kn k) g (rowM ms k)
def turnA (ms : List Mv) (ps kn : List (List Int)) : Nat → List (List Int)
  | 0 => kn
  | k + 1 => movA ms (ps.getD k []) (turnA ms ps kn k) ms.length
def knownA (ms : List Mv) (ps : List (List Int)) : Nat → List (List Int)
  | 0 => []
  | t + 1 => turnA ms ps (knownA ms ps t) ps.length
/-- what a list becomes by adding at its end -/
def Ext {α : Type} (a b : List α) : Prop := ∃ t, b = a ++ t
theorem Ext.refl {α : Type} (a : List α) : Ext a a := ⟨[], (List.append_nil a).symm⟩
theorem Ext.trans {α : Type} {a b c : List α} (h : Ext a b) (k : Ext b c) : Ext a c := by
  obtain ⟨t, rfl⟩ := h
  obtain ⟨u, rfl⟩ := k
  exact ⟨t ++ u, List.append_assoc _ _ _⟩
theorem Ext.len {α : Type} {a b : List α} (h : Ext a b) : a.length ≤ b.length := by
  obtain ⟨t, rfl⟩ := h
  rw [List.length_append]
  omega
theorem Ext.eq {α : Type} {a b : List α} (h : Ext a b) (l : b.length ≤ a.length) : b = a := by
  obtain ⟨t, rfl⟩ := h
  rw [List.length_append] at l
  have : t = [] := List.eq_nil_of_length_eq_zero (by omega)
  rw [this, List.append_nil]
theorem Ext.mem {α : Type} {a b : List α} (h : Ext a b) {x : α} (m : x ∈ a) : x ∈ b := by
  obtain ⟨t, rfl⟩ := h
  exact List.mem_append.mpr (.inl m)
theorem addA_ext (kn : List (List Int)) (g row : List Int) : Ext kn (addA kn g row) := by
  unfold addA
  split
  · exact ⟨_, rfl⟩
  · exact Ext.refl _
theorem movA_ext (ms : List Mv) (g : List Int) (kn : List (List Int)) : ∀ k, Ext kn (movA ms g kn k)
  | 0 => Ext.refl _
  | k + 1 => (movA_ext ms g kn k).trans (addA_ext _ _ _)
theorem turnA_ext (ms : List Mv) (ps kn : List (List Int)) : ∀ k, Ext kn (turnA ms ps kn k)
  | 0 => Ext.refl _
  | k + 1 => (turnA_ext ms ps kn k).trans (movA_ext _ _ _ _)
theorem knownA_ext (ms : List Mv) (ps : List (List Int)) (t : Nat) : Ext (knownA ms ps t) (knownA ms ps (t + 1)) := turnA_ext _ _ _ _
/-- a property that each addition keeps -/
theorem addA_all {F : List (List Int) → Prop} {kn : List (List Int)} {g row : List Int} (h : F kn) (n : g ∉ kn → ((bhP row g).getD 0 0 = (bhP row g).getD 1 0 ∨ bhP row g ∈ kn) → F (kn ++ [g])) : F (addA kn g row) := by
  unfold addA
  split
  · rename_i c
    exact n c.1 c.2
  · exact h
theorem movA_all {F : List (List Int) → Prop} {ms : List Mv} {g : List Int} {kn : List (List Int)} (h : F kn) (n : ∀ kn k, k < ms.length → F kn → g ∉ kn → ((bhP (rowM ms k) g).getD 0 0 = (bhP (rowM ms k) g).getD 1 0 ∨ bhP (rowM ms k) g ∈ kn) → F (kn ++ [g])) : ∀ k, k ≤ ms.length → F (movA ms g kn k)
  | 0, _ => h
  | k + 1, hk => addA_all (movA_all h n k (by omega)) (n _ k (by omega) (movA_all h n k (by omega)))
theorem turnA_all {F : List (List Int) → Prop} {ms : List Mv} {ps kn : List (List Int)} (h : F kn) (n : ∀ kn g k, g ∈ ps → k < ms.length → F kn → g ∉ kn → ((bhP (rowM ms k) g).getD 0 0 = (bhP (rowM ms k) g).getD 1 0 ∨ bhP (rowM ms k) g ∈ kn) → F (kn ++ [g])) : ∀ k, k ≤ ps.length → F (turnA ms ps kn k)
  | 0, _ => h
  | k + 1, hk => by
    refine movA_all (turnA_all h n k (by omega)) (fun kn j hj => n kn _ j ?_ hj) _ (Nat.le_refl _)
    rw [List.getD_eq_getElem?_getD, List.getElem?_eq_getElem (by omega)]
    exact List.getElem_mem (by omega)
theorem knownA_all {F : List (List Int) → Prop} {ms : List Mv} {ps : List (List Int)} (h : F []) (n : ∀ kn g k, g ∈ ps → k < ms.length → F kn → g ∉ kn → ((bhP (rowM ms k) g).getD 0 0 = (bhP (rowM ms k) g).getD 1 0 ∨ bhP (rowM ms k) g ∈ kn) → F (kn ++ [g])) : ∀ t, F (knownA ms ps t)
  | 0 => h
  | t + 1 => turnA_all (knownA_all h n t) n _ (Nat.le_refl _)
theorem knownA_sub (ms : List Mv) (ps : List (List Int)) (t : Nat) : (knownA ms ps t).Nodup ∧ ∀ g ∈ knownA ms ps t, g ∈ ps :=
  knownA_all (F := fun kn => kn.Nodup ∧ ∀ g ∈ kn, g ∈ ps) ⟨List.nodup_nil, fun _ h => nomatch h⟩ (fun kn g k hg hk h no c => ⟨List.nodup_append.mpr ⟨h.1, by simp, fun a ha b hb => by
    rw [List.mem_singleton.mp hb]
    intro e
    exact no (e ▸ ha)⟩, fun x hx => (List.mem_append.mp hx).elim (h.2 x) fun e => by rw [List.mem_singleton.mp e]; exact hg⟩) t
theorem knownA_len (ms : List Mv) (ps : List (List Int)) (t : Nat) : (knownA ms ps t).length ≤ ps.length := pigeon (knownA_sub ms ps t).1 (knownA_sub ms ps t).2
/-- behind so many turns as there are pairs nothing more is added -/
theorem knownA_still (ms : List Mv) (ps : List (List Int)) : ∀ t, t + 1 ≤ (knownA ms ps (t + 1)).length ∨ knownA ms ps (t + 1) = knownA ms ps t
  | 0 => by
    by_cases c : (knownA ms ps 1).length ≤ (knownA ms ps 0).length
    · exact .inr ((knownA_ext ms ps 0).eq c)
    · have : (knownA ms ps 0).length = 0 := rfl
      exact .inl (by show 1 ≤ (knownA ms ps 1).length; omega)
  | t + 1 => by
    by_cases c : (knownA ms ps (t + 2)).length ≤ (knownA ms ps (t + 1)).length
    · exact .inr ((knownA_ext ms ps (t + 1)).eq c)
    · rcases knownA_still ms ps t with h | h
      · exact .inl (by show t + 2 ≤ (knownA ms ps (t + 2)).length; omega)
      · refine .inr ?_
        show turnA ms ps (knownA ms ps (t + 1)) ps.length = _
        rw [h]
        exact h
theorem knownA_end (ms : List Mv) (ps : List (List Int)) : knownA ms ps (ps.length + 1) = knownA ms ps ps.length := by
  rcases knownA_still ms ps ps.length with h | h
  · have := knownA_len ms ps (ps.length + 1)
    omega
  · exact h
/-- what a turn that adds nothing has seen -/
theorem still_add {kn : List (List Int)} {g row : List Int} (h : addA kn g row = kn) (c : (bhP row g).getD 0 0 = (bhP row g).getD 1 0 ∨ bhP row g ∈ kn) : g ∈ kn := by
  unfold addA at h
  refine Classical.byContradiction fun no => ?_
  rw [if_pos ⟨no, c⟩] at h
  have := congrArg List.length h
  rw [List.length_append] at this
  have e : [g].length = 1 := rfl
  omega
theorem still_mov {ms : List Mv} {g : List Int} {kn : List (List Int)} (h : movA ms g kn ms.length = kn) {k : Nat} (hk : k < ms.length) (c : (bhP (rowM ms k) g).getD 0 0 = (bhP (rowM ms k) g).getD 1 0 ∨ bhP (rowM ms k) g ∈ kn) : g ∈ kn := by
  have up : ∀ j, Ext (movA ms g kn j) (movA ms g kn ms.length) ∨ ms.length < j := by
    intro j
    by_cases cj : ms.length < j
    · exact .inr cj
    · refine .inl ?_
      have : ∀ e, Ext (movA ms g kn j) (movA ms g kn (j + e)) := fun e => by
        induction e with
        | zero => exact Ext.refl _
        | succ e ih => exact ih.trans (addA_ext _ _ _)
      have := this (ms.length - j)
      rw [show j + (ms.length - j) = ms.length by omega] at this
      exact this
  have eq : ∀ j, j ≤ ms.length → movA ms g kn j = kn := fun j hj => by
    rcases up j with u | u
    · refine (movA_ext ms g kn j).eq ?_
      have := u.len
      rw [h] at this
      exact this
    · omega
  have e1 := eq (k + 1) (by omega)
  have e0 := eq k (by omega)
  have : addA (movA ms g kn k) g (rowM ms k) = kn := e1
  rw [e0] at this
  exact still_add this c
theorem still_turn {ms : List Mv} {ps kn : List (List Int)} (h : turnA ms ps kn ps.length = kn) {g : List Int} (hg : g ∈ ps) {k : Nat} (hk : k < ms.length) (c : (bhP (rowM ms k) g).getD 0 0 = (bhP (rowM ms k) g).getD 1 0 ∨ bhP (rowM ms k) g ∈ kn) : g ∈ kn := by
  have up : ∀ j, j ≤ ps.length → Ext (turnA ms ps kn j) (turnA ms ps kn ps.length) := by
    intro j cj
    have : ∀ e, Ext (turnA ms ps kn j) (turnA ms ps kn (j + e)) := fun e => by
      induction e with
      | zero => exact Ext.refl _
      | succ e ih => exact ih.trans (movA_ext _ _ _ _)
    have := this (ps.length - j)
    rw [show j + (ps.length - j) = ps.length by omega] at this
    exact this
  have eq : ∀ j, j ≤ ps.length → turnA ms ps kn j = kn := fun j hj => by
    refine (turnA_ext ms ps kn j).eq ?_
    have := (up j hj).len
    rw [h] at this
    exact this
  obtain ⟨j, hj, e⟩ := List.getElem_of_mem hg
  have e1 := eq (j + 1) (by omega)
  have e0 := eq j (by omega)
  have : movA ms (ps.getD j []) (turnA ms ps kn j) ms.length = kn := e1
  rw [e0, List.getD_eq_getElem?_getD, List.getElem?_eq_getElem hj, e] at this
  exact still_mov this hk c
/-- a move and a pair -/
theorem ledG_pair {many : Nat} {row : List Int} (gr : GoodRow many row) {x y : Int} (x0 : 0 ≤ x) (xy : x < y) (ym : y < (many : Int)) :
    (goK row x = goK row y → ledG many row [x, y] = [goK row x]) ∧ (goK row x ≠ goK row y → ledG many row [x, y] = bhP row [x, y]) := by
  have gx := goK_in' gr x0 (by omega)
  have gy := goK_in' gr (by omega : 0 ≤ y) ym
  have gp := pair_good x0 xy ym
  refine ⟨fun e => rise_same (ledG_good _ _ _).1 (List.pairwise_singleton _ _) fun k => ?_, fun n => rise_same (ledG_good _ _ _).1 ?_ fun k => ?_⟩
  · rw [mem_ledG gr gp.2]
    simp [← e, eq_comm]
  · unfold bhP
    show (if goK row x ≤ goK row y then [goK row x, goK row y] else [goK row y, goK row x]).Pairwise (· < ·)
    split
    · exact List.pairwise_cons.mpr ⟨fun z hz => by rw [List.mem_singleton.mp hz]; omega, List.pairwise_singleton _ _⟩
    · exact List.pairwise_cons.mpr ⟨fun z hz => by rw [List.mem_singleton.mp hz]; omega, List.pairwise_singleton _ _⟩
  · rw [mem_ledG gr gp.2]
    unfold bhP
    show _ ↔ k ∈ (if goK row x ≤ goK row y then [goK row x, goK row y] else [goK row y, goK row x])
    split
    · simp [eq_comm]
    · simp [eq_comm, or_comm]
theorem bhP_eq {row : List Int} {x y : Int} : ((bhP row [x, y]).getD 0 0 = (bhP row [x, y]).getD 1 0) ↔ goK row x = goK row y := by
  unfold bhP
  show ((if goK row x ≤ goK row y then [goK row x, goK row y] else [goK row y, goK row x]).getD 0 0 = (if goK row x ≤ goK row y then [goK row x, goK row y] else [goK row y, goK row x]).getD 1 0) ↔ _
  split
  · exact Iff.rfl
  · exact eq_comm
theorem known_sound {many : Nat} {ms : List Mv} (G : GoodAll many ms) (t : Nat) : ∀ g ∈ knownA ms (pairsL many) t, Meets many ms g :=
  knownA_all (F := fun kn => ∀ g ∈ kn, Meets many ms g) (fun _ h => nomatch h) (fun kn g k hg hk h no c z hz => by
    rcases List.mem_append.mp hz with hz | hz
    · exact h z hz
    · rw [List.mem_singleton.mp hz]
      obtain ⟨x, y, x0, xy, ym, rfl⟩ := mem_pairsL.mp hg
      have gr : GoodRow many (rowM ms k) := rowM_good G hk
      obtain ⟨l1, l2⟩ := ledG_pair gr x0 xy ym
      have step : Meets many ms (ledG many (rowM ms k) [x, y]) → Meets many ms [x, y] := fun ⟨r, hv, hl⟩ => ⟨(k : Int) :: r, fun n hn => by
        rcases List.mem_cons.mp hn with e | hn
        · rw [e]; omega
        · exact hv n hn, by rw [runG_cons, Int.toNat_natCast]; exact hl⟩
      by_cases e : goK (rowM ms k) x = goK (rowM ms k) y
      · exact step ⟨[], (fun _ h => nomatch h), by rw [l1 e]; rfl⟩
      · rcases c with c | c
        · exact absurd (bhP_eq.mp c) e
        · exact step (by rw [l2 e]; exact h _ c)) t
theorem known_all {many : Nat} {ms : List Mv} (G : GoodAll many ms) : ∀ (r g : List Int), g ∈ pairsL many → Valid ms r → (runG many ms g r).length = 1 → g ∈ knownA ms (pairsL many) (pairsL many).length
  | [], g, hg, _, hl => by
    obtain ⟨x, y, _, _, _, rfl⟩ := mem_pairsL.mp hg
    exact absurd hl (by show ¬ [x, y].length = 1; simp)
  | n :: r, g, hg, hv, hl => by
    have hn := hv n List.mem_cons_self
    obtain ⟨x, y, x0, xy, ym, rfl⟩ := mem_pairsL.mp hg
    have hk : n.toNat < ms.length := by omega
    have gr : GoodRow many (rowM ms n.toNat) := rowM_good G hk
    obtain ⟨l1, l2⟩ := ledG_pair gr x0 xy ym
    refine still_turn (knownA_end ms (pairsL many)) hg hk ?_
    by_cases e : goK (rowM ms n.toNat) x = goK (rowM ms n.toNat) y
    · exact .inl (bhP_eq.mpr e)
    · refine .inr ?_
      rw [runG_cons, l2 e] at hl
      refine known_all G r _ ?_ (fun z hz => hv z (List.mem_cons_of_mem _ hz)) hl
      have gg : goodG many (bhP (rowM ms n.toNat) [x, y]) := by rw [← l2 e]; exact ledG_good _ _ _
      obtain ⟨u, v, ep⟩ : ∃ u v, bhP (rowM ms n.toNat) [x, y] = [u, v] := by
        unfold bhP
        split
        · exact ⟨_, _, rfl⟩
        · exact ⟨_, _, rfl⟩
      rw [ep] at gg ⊢
      exact mem_pairsL.mpr ⟨u, v, (gg.2 u List.mem_cons_self).1, (List.pairwise_cons.mp gg.1).1 v List.mem_cons_self, (gg.2 v (List.mem_cons_of_mem _ List.mem_cons_self)).2, rfl⟩
/-- the pairs that never meet -/
theorem known_meets {many : Nat} {ms : List Mv} (G : GoodAll many ms) {g : List Int} (hg : g ∈ pairsL many) : g ∈ knownA ms (pairsL many) ((pairsL many).length + 1) ↔ Meets many ms g := by
  refine ⟨known_sound G _ g, fun ⟨r, hv, hl⟩ => ?_⟩
  rw [knownA_end]
  exact known_all G r g hg hv hl
section
variable {P : Program} {w : World} {K : PySem.W.Frag} {mg : Str → Option Value} {base : Heap} {C : Addr}
/-! ### _law_apart -/
theorem scAp : FnScope ["_law_told", "_law_pairs", "_law_one", "_law_known", "_law_turn", "_law_pair", "_law_move", "_law_behind", "_law_other_here"] ["_law_told"] (defScope sLawApart) := ⟨rfl, rfl, rfl, by decide +kernel, rfl, by decide +kernel, by decide +kernel⟩
/-- the pairs whose first is below i -/
def pairsTo (many i : Nat) : List (List Int) := ((List.range i).flatMap fun i => (List.range' (i + 1) (many - (i + 1))).map fun j => [i, j]).map fun g => g.map fun (i : Nat) => (i : Int)
def pairsAt (many i : Nat) : List (List Int) := (List.range (many - (i + 1))).map fun (e : Nat) => [(i : Int), (i : Int) + 1 + (e : Int)]
theorem pairsTo_zero (many : Nat) : pairsTo many 0 = [] := rfl
theorem pairsTo_succ (many i : Nat) : pairsTo many (i + 1) = pairsTo many i ++ pairsAt many i := by
  unfold pairsTo pairsAt
  rw [List.range_succ, List.flatMap_append, List.map_append]
  congr 1
  rw [List.flatMap_singleton, List.map_map, List.range'_eq_map_range, List.map_map]
  refine List.map_congr_left fun e _ => ?_
  show [((i : Nat) : Int), ((i + 1 + e : Nat) : Int)] = _
  rw [show ((i + 1 + e : Nat) : Int) = (i : Int) + 1 + (e : Int) by omega]
theorem pairsTo_len {many : Nat} (m6 : many ≤ 6) : ∀ i, (pairsTo many i).length ≤ 6 * i
  | 0 => Nat.zero_le _
  | i + 1 => by
    have ih := pairsTo_len m6 i
    rw [pairsTo_succ, List.length_append]
    unfold pairsAt
    rw [List.length_map, List.length_range]
    omega
theorem pairsTo_all (many : Nat) : pairsTo many many = pairsL many := rfl
theorem paired_getL {α β : Type} {F : α → β → Prop} : ∀ {l₁ : List α} {l₂ : List β} {i : Nat} {a : α}, Paired F l₁ l₂ → l₁[i]? = some a → ∃ b, l₂[i]? = some b ∧ F a b
  | _, _, _, _, .nil, e => by simp at e
  | _, _, 0, _, .cons h _, e => by
    cases e
    exact ⟨_, rfl, h⟩
  | _, _, i + 1, _, .cons _ r, e => paired_getL (i := i) r e
theorem movA_len (ms : List Mv) (ps : List (List Int)) (i : Nat) {j k : Nat} {g : List Int} (hj : j ≤ ps.length) (hg : g ∈ ps) (hk : k ≤ ms.length) : (movA ms g (turnA ms ps (knownA ms ps i) j) k).length ≤ ps.length := by
  have step : ∀ (kn : List (List Int)) (g : List Int), g ∈ ps → (kn.Nodup ∧ ∀ x ∈ kn, x ∈ ps) → g ∉ kn → ((kn ++ [g]).Nodup ∧ ∀ x ∈ kn ++ [g], x ∈ ps) := fun kn g hg h no => ⟨List.nodup_append.mpr ⟨h.1, by simp, fun a ha b hb => by
    rw [List.mem_singleton.mp hb]
    intro e
    exact no (e ▸ ha)⟩, fun x hx => (List.mem_append.mp hx).elim (h.2 x) fun e => by rw [List.mem_singleton.mp e]; exact hg⟩
  have h := movA_all (F := fun kn => kn.Nodup ∧ ∀ x ∈ kn, x ∈ ps) (ms := ms) (g := g) (turnA_all (F := fun kn => kn.Nodup ∧ ∀ x ∈ kn, x ∈ ps) (ms := ms) (ps := ps) (knownA_sub ms ps i) (fun kn g k hg _ h no _ => step kn g hg h no) j hj) (fun kn _ _ h no _ => step kn g hg h no) k hk
  exact pigeon h.1 h.2
theorem two_sort {row : List Int} {x y : Int} {ns : List Int} (hp : ns.Perm [goK row x, goK row y]) (hs : ns.Pairwise (· ≤ ·)) : ns = bhP row [x, y] := by
  unfold bhP
  show ns = (if goK row x ≤ goK row y then [goK row x, goK row y] else [goK row y, goK row x])
  split
  · rename_i c
    exact List.Perm.eq_of_pairwise (fun a b _ _ => Int.le_antisymm) hs (List.pairwise_cons.mpr ⟨fun z hz => by rw [List.mem_singleton.mp hz]; exact c, List.pairwise_singleton _ _⟩) hp
  · exact List.Perm.eq_of_pairwise (fun a b _ _ => Int.le_antisymm) hs (List.pairwise_cons.mpr ⟨fun z hz => by rw [List.mem_singleton.mp hz]; omega, List.pairwise_singleton _ _⟩) (hp.trans (List.Perm.swap _ _ _))
theorem eqv_tupI (xs ys : List Int) : PyData.eqv (.tuple (xs.map PyData.int)) (.tuple (ys.map PyData.int)) = decide (xs = ys) := by
  simp only [PyData.eqv]
  exact PySem.W.ked_eqvAll xs ys
theorem any_tups (g : List Int) : ∀ xss : List (List Int), ((xss.map fun xs => PyData.tuple (xs.map PyData.int)).any fun z => PyData.eqv z (.tuple (g.map PyData.int))) = decide (g ∈ xss)
  | [] => by rw [decide_eq_false (by simp)]; rfl
  | x :: xss => by
    rw [List.map_cons, List.any_cons, eqv_tupI, any_tups g xss]
    by_cases c : x = g
    · subst c
      rw [decide_eq_true rfl, decide_eq_true List.mem_cons_self]
      rfl
    · rw [decide_eq_false c, Bool.false_or]
      refine decide_eq_decide.mpr ⟨fun h => List.mem_cons_of_mem _ h, fun h => ?_⟩
      rcases List.mem_cons.mp h with e | h
      · exact absurd e.symm c
      · exact h
/-- a tuple of ints -/
abbrev TupG (H : Hp) : V → List Int → Prop := fun v g => ∃ t, v = V.ref t ∧ H t = some (.tup (g.map V.int))
theorem dp_tups {K : PySem.W.Frag} {H : Hp} : ∀ {vs : List V} {gs : List (List Int)}, Paired (TupG H) vs gs → DpAll K H vs (gs.map fun g => .tuple (g.map PyData.int))
  | _, _, .nil => .nil
  | _, _, .cons ⟨t, e, ht⟩ r => .cons (by rw [e]; exact dp_tup ht) (dp_tups r)
theorem Sh.tups (xss : List (List Int)) : Sh 2 (.list (xss.map fun xs => .tuple (xs.map PyData.int))) := Sh.list fun d hd => by
  obtain ⟨xs, _, rfl⟩ := List.mem_map.mp hd
  exact Sh.tuple (Sh.ints xs)
theorem TupG.all {H H' : Hp} (s : ∀ b xs, H b = some (.tup xs) → H' b = some (.tup xs)) {vs : List V} {gs : List (List Int)} (h : Paired (TupG H) vs gs) : Paired (TupG H') vs gs := L2.Paired.mapP h fun _ _ ⟨t, e, ht⟩ => ⟨t, e, s _ _ ht⟩
/-- the pairs that never meet, rising -/
def apartL (many : Nat) (ms : List Mv) : List (List Int) := (pairsL many).filter fun g => !decide (g ∈ knownA ms (pairsL many) ((pairsL many).length + 1))
def TupsAt (H : Hp) (a : Addr) (xss : List (List Int)) : Prop := ∃ vs, H a = some (.lst vs) ∧ Paired (fun v g => ∃ t, v = V.ref t ∧ H t = some (.tup (g.map V.int))) vs xss
def spAp : Sp := fun vs H Q _ => ∃ (t m : Addr) (many : Nat) (ws : List V) (ms : List Mv), vs = [.ref t] ∧ ToldAt H t m many ws ms ∧ Good many ms ∧ ∀ a H', Same H H' → TupsAt H' a (apartL many ms) → Q (.ref a) H'
theorem ok_ap {k : Nat} {f : Addr} {fd : FuncData} (F : Fun K "_law_apart" "_law_apart" sLawApart f fd) (mr : mg "range" = none) (ml : mg "len" = none) (mt : mg "tuple" = none) (ms' : mg "sorted" = none) : FnOk P w K mg base CX0 (k + 1) f fd ["_law_told"] spAp := by
  refine F.ok scAp (fun vs H Q E h => ?_) (fun cdv A outer s H vs Q E hr h => ?_)
  · obtain ⟨t, m, many, ws, ms, rfl, _⟩ := h
    rfl
  · obtain ⟨t, m, many, ws, ms, rfl, hT, G, q⟩ := h
    have hu := hu64 hr
    have hu5 : (A.deeper (envOfC "_law_apart" (defScope sLawApart) s.heap.objs.size f cdv)).units + 65 < cLine := by
      have := hr.un
      omega
    refine ⟨_, (pss_cons (ps_set (i := 1) scAp.nd rfl (.inl rfl) (pe_lst pa_nil))
      (pss_cons (ps_for PassesOwn.never rfl (pi_range1 (by rfl) mr (pa_cons (pe_ix ix_tup (pv 0) pe_int (fun _ _ => rfl)) pa_nil)) (pg_name (i := 2) scAp.nd rfl (.inr rfl)) (pss_one (ps_set (i := 1) scAp.nd rfl (.inl rfl) (pe_op op_cat (pv 1) (pe_lc (own := [("_law_other_here", 8)]) (g := gName 8) (tt := tYes) (te := (tTup (tCons (tVar 2) (tCons (tVar 8) tNil)))) rfl scAp.nd (pi_range2 (by rfl) mr (pa_cons (pe_op op_add (pv 2) pe_int) (pa_cons (pe_ix ix_tup (pv 0) pe_int (fun _ _ => rfl)) pa_nil))) (blkOk_by (N := ["_law_told", "_law_pairs", "_law_one", "_law_known", "_law_turn", "_law_pair", "_law_move", "_law_behind", "_law_other_here"]) (sc := defScope sLawApart) (by decide +kernel)) (fun _ _ _ _ _ => by exact (pg_name (i := 8) scAp.nd rfl (.inl rfl))) (fun _ _ _ _ _ => pts_nil) (fun _ _ _ _ _ => by exact (pe_tup (pa_cons (pv 2) (pa_cons (pv 8) pa_nil)))))))))
      (pss_cons (ps_set (i := 3) scAp.nd rfl (.inr rfl) (pe_lst pa_nil))
      (pss_cons (ps_for PassesOwn.never rfl (pi_range1 (by rfl) mr (pa_cons (pe_op op_add (pe_callB call_len_seq (by rfl) ml PySem.boot_len (pa_cons (pv 1) pa_nil)) pe_int) pa_nil)) (pg_name (i := 4) scAp.nd rfl (.inl rfl)) (pss_one (ps_for PassesOwn.never rfl (pi_list (pv 1)) (pg_name (i := 5) scAp.nd rfl (.inl rfl)) (pss_one (ps_for PassesOwn.never rfl (pi_list (pe_ix ix_tup (pv 0) pe_int (fun _ _ => rfl))) (pg_name (i := 6) scAp.nd rfl (.inl rfl)) (pss_cons (ps_set (i := 7) scAp.nd rfl (.inl rfl) (pe_callTy call_tuple_of (by rfl) mt (by decide +kernel) (pa_cons (pe_callB cr_sorted (by rfl) ms' (by decide +kernel) (pa_cons (pe_lst (pa_cons (pe_ix ix_tup (pe_ix ix_tup (pv 6) pe_int (fun _ _ => rfl)) (pe_ix ix_tup (pv 5) pe_int (fun _ _ => rfl)) (fun _ _ => rfl)) (pa_cons (pe_ix ix_tup (pe_ix ix_tup (pv 6) pe_int (fun _ _ => rfl)) (pe_ix ix_tup (pv 5) pe_int (fun _ _ => rfl)) (fun _ _ => rfl)) pa_nil))) pa_nil)) pa_nil)))
      (pss_one (ps_if (PW.pt (pw_and (pt_cmpR (op_notInD hu5) (pv 5) (pv 3) (by with_unfolding_all rfl)) (pw_and1 (PW.pt (pw_or (pt_cmpR op_eq (pe_ix ix_tup (pv 7) pe_int (fun _ _ => rfl)) (pe_ix ix_tup (pv 7) pe_int (fun _ _ => rfl)) (nomark _)) (pw_or1 (pt_cmpR (op_inD hu5) (pv 7) (pv 3) (by with_unfolding_all rfl)))))))) (pss_one (ps_expr (pe_bm PySem.F.plainAttrs_list PySem.F.slot_list_append PySem.F.type_list_append mt_append (pv 3) (pa_cons (pv 5) pa_nil)))) pss_nil))))))))
      (pss_one (ps_ret (pe_lc (own := [("_law_pair", 5)]) (g := gName 5) (tt := (tTest (tOp (rNotInD K) (tVar 5) (tVar 3)))) (te := (tVar 5)) rfl scAp.nd (pi_list (pv 1)) (blkOk_by (N := ["_law_told", "_law_pairs", "_law_one", "_law_known", "_law_turn", "_law_pair", "_law_move", "_law_behind", "_law_other_here"]) (sc := defScope sLawApart) (by decide +kernel)) (fun _ _ _ _ _ => by exact (pg_name (i := 5) scAp.nd rfl (.inl rfl))) (fun _ _ _ _ _ => by exact (pts_one (pt_cmpR (op_notInD hu5) (pv 5) (pv 3) (by with_unfolding_all rfl)))) (fun _ _ _ _ _ => by exact (pv 5))))))))), ?_⟩
    have m6 := G.m6
    have m1 := G.m1
    have l8 := G.l8
    refine ⟨Nat.zero_le _, fun p0 np0 => ?_⟩
    have s0 := same_new (o := .lst []) np0
    have hp0 : (upd H p0 (.lst [])) p0 = some (.lst []) := upd_same
    generalize upd H p0 (.lst []) = H0 at s0 hp0 ⊢
    have hT0 := hT.same s0
    refine ⟨.ref t, rfl, t, _, 0, _, rfl, rfl, SqT.of hT0.1, atI_nat (j := 0) rfl, _, rfl, by omega, by omega, ?_⟩
    refine for_range (lo := 0) (n := ((many : Nat) : Int).toNat) (fun i σ H' => ∃ p y2 vs, σ = [some (.ref t), some (.ref p), y2, none, none, none, none, none, none] ∧ Same H0 H' ∧ H' p = some (.lst vs) ∧ Paired (TupG H') vs (pairsTo many i))
      ⟨p0, none, [], rfl, Same.refl _, hp0, .nil⟩ ?_ ?_
    · rintro i σ H1 hi ⟨p, y2, vs, rfl, s1, hp, pv⟩
      rw [Int.toNat_natCast] at hi
      have hT1 := hT0.same s1
      refine ⟨.ref p, rfl, .int (0 + (i : Int)), rfl, (0 + (i : Int)), 1, rfl, rfl, .ref t, rfl, t, _, 0, _, rfl, rfl, SqT.of hT1.1, atI_nat (j := 0) rfl, _, _, rfl, ⟨by omega, by omega, by omega, by omega⟩, fun D nD => ?_⟩
      refine lc_range (lo := 0 + (i : Int) + 1) (n := ((many : Int) - (0 + (i : Int) + 1)).toNat) (fun e H' => Same H1 H' ∧ ∃ ds, H' D = some (.lst ds) ∧ Paired (TupG H') ds ((pairsAt many i).take e)) ⟨same_new nD, [], upd_same, by rw [List.take_zero]; exact .nil⟩ ?_ ?_
      · rintro e H2 he ⟨s2, ds, hD, pd⟩
        refine ⟨rfl, .int (0 + (i : Int)), rfl, .int (0 + (i : Int) + 1 + (e : Int)), rfl, (by show 2 ≤ sizeLine; decide), fun g ng => ?_⟩
        have s3 := same_new (o := .tup [.int (0 + (i : Int)), .int (0 + (i : Int) + 1 + (e : Int))]) ng
        have ld : ds.length ≤ 8 := by
          have := pd.length
          rw [List.length_take] at this
          have l2 : (pairsAt many i).length ≤ 6 := by
            unfold pairsAt
            rw [List.length_map, List.length_range]
            omega
          omega
        have ee : (pairsAt many i)[e]? = some [0 + (i : Int), 0 + (i : Int) + 1 + (e : Int)] := by
          unfold pairsAt
          rw [List.getElem?_map, List.getElem?_range (by omega)]
          show some [(i : Int), (i : Int) + 1 + (e : Int)] = _
          rw [show (0 + (i : Int)) = (i : Int) by omega]
        have tk : ∀ b xs, (upd H2 g (.tup [.int (0 + (i : Int)), .int (0 + (i : Int) + 1 + (e : Int))])) b = some (.tup xs) → (upd (upd H2 g (.tup [.int (0 + (i : Int)), .int (0 + (i : Int) + 1 + (e : Int))])) D (.lst (ds ++ [.ref g]))) b = some (.tup xs) := fun b xs e1 => by
          rw [upd_ne (fun z => by rw [z, s3 _ _ hD] at e1; cases e1)]
          exact e1
        refine ⟨ds, s3 _ _ hD, small8 ld, fun b u e1 => by rw [upd_ne (ne_of_none e1 nD)]; exact s3 _ _ (s2 _ _ e1), ds ++ [.ref g], upd_same, ?_⟩
        rw [take_snoc ee]
        exact paired_end (F := TupG _) ⟨g, rfl, tk _ _ upd_same⟩ (TupG.all (fun b xs e1 => tk b xs (s3 _ _ e1)) pd)
      · rintro H2 ⟨s2, ds, hD, pd⟩
        rw [List.take_of_length_le (by unfold pairsAt; rw [List.length_map, List.length_range]; omega)] at pd
        have pv2 := TupG.all (Same.tups s2) pv
        have lp := pairsTo_len m6 i
        have la : (pairsAt many i).length ≤ 6 := by
          unfold pairsAt
          rw [List.length_map, List.length_range]
          omega
        refine ⟨p, D, _, _, rfl, rfl, s2 _ _ hp, hD, le1k (by have := pd.length; have := pv2.length; omega), fun p2 np2 => ⟨p2, _, vs ++ ds, rfl, (s1.trans s2).trans (same_new np2), upd_same, ?_⟩⟩
        rw [pairsTo_succ]
        exact TupG.all (Same.tups (same_new np2)) (paired_app pv2 pd)
    rintro σ H1 ⟨p, y2, vs, rfl, s1, hp, pv⟩
    rw [Int.toNat_natCast, pairsTo_all] at pv
    have lpv := pv.length
    have l15 := pairsL_len m6
    have hT1 := hT0.same s1
    refine ⟨Nat.zero_le _, fun kq nkq => ?_⟩
    have s2 := same_new (o := .lst []) nkq
    have hq2 : (upd H1 kq (.lst [])) kq = some (.lst []) := upd_same
    have hp2 := s2 _ _ hp
    have hT2 := hT1.same s2
    have pv2 := TupG.all (Same.tups s2) pv
    have npq : p ≠ kq := ne_of_none hp nkq
    have s02 := (s0.trans s1).trans s2
    have off0 : ∀ {b o}, H b = some o → b ≠ kq := fun {b o} e => ne_of_none ((s0.trans s1) _ _ e) nkq
    have ntq : t ≠ kq := ne_of_none hT1.1 nkq
    have nmq : m ≠ kq := ne_of_none hT1.2.1 nkq
    generalize upd H1 kq (.lst []) = H2 at s2 hq2 hp2 hT2 pv2 s02 ⊢
    refine ⟨.ref p, rfl, p, _, rfl, .inl (SqL.of hp2), _, _, rfl, rfl, _, rfl, by omega, by omega, ?_⟩
    -- all that stays but the list of the known
    let Off : Hp → Prop := fun H' => ∀ b o, b ≠ kq → H2 b = some o → H' b = some o
    refine for_range (lo := 0) (n := (((vs.length : Nat) : Int) + 1).toNat) (fun i σ H' => ∃ y4 y5 y6 y7, σ = [some (.ref t), some (.ref p), y2, some (.ref kq), y4, y5, y6, y7, none] ∧ Off H' ∧ ∃ ks, H' kq = some (.lst ks) ∧ Paired (TupG H') ks (knownA ms (pairsL many) i))
      ⟨none, none, none, none, rfl, fun b o _ e => e, [], hq2, .nil⟩ ?_ ?_
    · rintro i σ H3 hi ⟨y4, y5, y6, y7, rfl, off3, ks3, hk3, pk3⟩
      refine ⟨.ref p, rfl, p, rfl, ⟨_, SqL.of (off3 _ _ npq hp2)⟩, ?_⟩
      refine for_list (K := K) (a := p) (xs := vs) (fun j σ H' => ∃ y5 y6 y7, σ = [some (.ref t), some (.ref p), y2, some (.ref kq), some (.int (0 + (i : Int))), y5, y6, y7, none] ∧ Off H' ∧ ∃ ks, H' kq = some (.lst ks) ∧ Paired (TupG H') ks (turnA ms (pairsL many) (knownA ms (pairsL many) i) j))
        ⟨y5, y6, y7, rfl, off3, ks3, hk3, pk3⟩ (fun j σ H' _ ⟨_, _, _, _, off, _⟩ => SqL.of (off _ _ npq hp2)) ?_ ?_
      · rintro j v σ H4 hv ⟨y5, y6, y7, rfl, off4, ks4, hk4, pk4⟩
        obtain ⟨g, eg, tg, rfl, htg⟩ := paired_getL pv2 hv
        obtain ⟨gx, gy, x0, xy, ym, rfl⟩ := mem_pairsL.mp (List.mem_of_getElem? eg)
        have eg2 : (pairsL many).getD j [] = [gx, gy] := by
          rw [List.getD_eq_getElem?_getD, eg]
          rfl
        have offT : ∀ {H'}, Off H' → ∀ b xs, H2 b = some (.tup xs) → H' b = some (.tup xs) := fun {H'} o b xs e => o b _ (fun z => by rw [z, hq2] at e; cases e) e
        have hT4 : ToldAt H4 t m many ws ms := ⟨offT off4 _ _ hT2.1, off4 _ _ nmq hT2.2.1, hT2.2.2.same (offT off4)⟩
        refine ⟨.ref t, rfl, t, _, 1, _, rfl, rfl, SqT.of hT4.1, atI_nat (j := 1) rfl, m, rfl, ⟨_, SqL.of hT4.2.1⟩, ?_⟩
        refine for_list (K := K) (a := m) (xs := ws) (fun k σ H' => ∃ y6 y7, σ = [some (.ref t), some (.ref p), y2, some (.ref kq), some (.int (0 + (i : Int))), some (.ref tg), y6, y7, none] ∧ Off H' ∧ ∃ ks, H' kq = some (.lst ks) ∧ Paired (TupG H') ks (movA ms [gx, gy] (turnA ms (pairsL many) (knownA ms (pairsL many) i) j) k))
          ⟨y6, y7, rfl, off4, ks4, hk4, pk4⟩ (fun k σ H' _ ⟨_, _, _, off, _⟩ => SqL.of (off _ _ nmq hT2.2.1)) ?_ ?_
        · rintro k w1 σ H5 hw ⟨y6, y7, rfl, off5, ks5, hk5, pk5⟩
          have hT5 : ToldAt H5 t m many ws ms := ⟨offT off5 _ _ hT2.1, off5 _ _ nmq hT2.2.1, hT2.2.2.same (offT off5)⟩
          obtain ⟨mv, emv, ta, tb, rfl, hta, htb⟩ := paired_getL hT5.2.2 hw
          have hk8 : k < ms.length := (List.getElem?_eq_some_iff.mp emv).1
          have gm := G.mv mv (List.mem_of_getElem? emv)
          have htg5 := offT off5 _ _ htg
          have erow : rowM ms k = mv.2 := rowM_at emv
          have two : (2 : Nat) ≤ sizeLine := by decide
          refine ⟨.ref ta, rfl, ta, _, 1, _, rfl, rfl, SqT.of hta, atI_nat (j := 1) rfl, .ref tg, rfl, tg, _, 0, _, rfl, rfl, SqT.of htg5, atI_nat (j := 0) rfl, tb, _, gx, _, rfl, rfl, SqT.of htb, at_of (show gx = ((gx.toNat : Nat) : Int) by omega) (at_goK x0 (by rw [gm.2.2.1]; omega)), ?_⟩
          refine ⟨.ref ta, rfl, ta, _, 1, _, rfl, rfl, SqT.of hta, atI_nat (j := 1) rfl, .ref tg, rfl, tg, _, 1, _, rfl, rfl, SqT.of htg5, atI_nat (j := 1) rfl, tb, _, gy, _, rfl, rfl, SqT.of htb, at_of (show gy = ((gy.toNat : Nat) : Int) by omega) (at_goK (by omega) (by rw [gm.2.2.1]; omega)), two, fun L nL => ?_⟩
          have s6 := same_new (o := .lst [V.int (goK mv.2 gx), V.int (goK mv.2 gy)]) nL
          refine ⟨L, [goK mv.2 gx, goK mv.2 gy], rfl, SqL.of upd_same, (by show 2 < 64; decide), fun ns sp hperm hsort nsp => ?_⟩
          have ens : ns = bhP mv.2 [gx, gy] := two_sort hperm hsort
          subst ens
          have s7 := same_new (o := .lst ((bhP mv.2 [gx, gy]).map V.int)) nsp
          refine ⟨sp, _, rfl, .inl ⟨SqL.of upd_same, fun g7 ng7 => ?_⟩⟩
          have s57 := (s6.trans s7).trans (same_new (o := .tup ((bhP mv.2 [gx, gy]).map V.int)) ng7)
          have hg7 : (upd (upd (upd H5 L (.lst [V.int (goK mv.2 gx), V.int (goK mv.2 gy)])) sp (.lst ((bhP mv.2 [gx, gy]).map V.int))) g7 (.tup ((bhP mv.2 [gx, gy]).map V.int))) g7 = some (.tup ((bhP mv.2 [gx, gy]).map V.int)) := upd_same
          generalize upd (upd (upd H5 L (.lst [V.int (goK mv.2 gx), V.int (goK mv.2 gy)])) sp (.lst ((bhP mv.2 [gx, gy]).map V.int))) g7 (.tup ((bhP mv.2 [gx, gy]).map V.int)) = H7 at s57 hg7 ⊢
          have hk7 := s57 _ _ hk5
          have pk7 := TupG.all (Same.tups s57) pk5
          have htg7 := s57 _ _ htg5
          have off7 : Off H7 := fun b o nb e => s57 _ _ (off5 b o nb e)
          have emov : movA ms [gx, gy] (turnA ms (pairsL many) (knownA ms (pairsL many) i) j) (k + 1) = addA (movA ms [gx, gy] (turnA ms (pairsL many) (knownA ms (pairsL many) i) j) k) [gx, gy] mv.2 := by
            show addA _ _ (rowM ms k) = _
            rw [erow]
          have jl : j < (pairsL many).length := (List.getElem?_eq_some_iff.mp eg).1
          have kl := movA_len ms (pairsL many) i (j := j) (k := k) (by omega) (List.mem_of_getElem? eg) (by omega)
          generalize movA ms [gx, gy] (turnA ms (pairsL many) (knownA ms (pairsL many) i) j) k = kn at pk7 emov kl
          have hdk : Dp K H7 (.ref kq) (.list (kn.map fun g => .tuple (g.map PyData.int))) := .lst (SqL.of hk7) (dp_tups pk7)
          obtain ⟨u, v, euv⟩ : ∃ u v, bhP mv.2 [gx, gy] = [u, v] := by
            unfold bhP
            split
            · exact ⟨_, _, rfl⟩
            · exact ⟨_, _, rfl⟩
          have sh1 : ∀ g : List Int, SeqAt.shaped (.tuple (g.map PyData.int)) = true := fun g => (Sh.tuple (n := 0) (Sh.ints g)).shaped (by decide)
          have sh2 := (Sh.tups kn).shaped (by decide)
          refine ⟨.ref tg, rfl, .ref kq, rfl, _, _, dp_tup htg7, hdk, sh1 _, sh2, _, rfl, ?_⟩
          rw [any_tups]
          by_cases c1 : [gx, gy] ∈ kn
          · rw [decide_eq_true c1]
            refine iteF (iteF ⟨_, _, rfl, off7, ks5, hk7, ?_⟩)
            rw [emov]
            unfold addA
            rw [if_neg (fun z => z.1 c1)]
            exact pk7
          rw [decide_eq_false c1]
          have hg7' : H7 g7 = some (.tup [.int u, .int v]) := by rw [hg7, euv]; rfl
          have app : (u = v ∨ [u, v] ∈ kn) → Off (upd H7 kq (.lst (ks5 ++ [.ref tg]))) ∧ Paired (TupG (upd H7 kq (.lst (ks5 ++ [.ref tg])))) (ks5 ++ [.ref tg]) (addA kn [gx, gy] mv.2) := fun c => by
            refine ⟨fun b o nb e => by rw [upd_ne nb]; exact off7 b o nb e, ?_⟩
            have ea : addA kn [gx, gy] mv.2 = kn ++ [[gx, gy]] := by
              unfold addA
              rw [euv, if_pos ⟨c1, c⟩]
            have kt : ∀ b xs, H7 b = some (.tup xs) → (upd H7 kq (.lst (ks5 ++ [.ref tg]))) b = some (.tup xs) := fun b xs e => by
              rw [upd_ne (fun z => by rw [z, hk7] at e; cases e)]
              exact e
            rw [ea]
            exact paired_end (F := TupG _) ⟨tg, rfl, kt _ _ htg7⟩ (TupG.all kt pk7)
          have lks : ks5.length ≤ 15 := by
            have := pk7.length
            omega
          refine iteT ⟨.ref g7, rfl, g7, _, 0, _, rfl, rfl, SqT.of hg7', atI_nat (j := 0) rfl, .ref g7, rfl, g7, _, 1, _, rfl, rfl, SqT.of hg7', atI_nat (j := 1) rfl, rfl, _, rfl, ?_⟩
          by_cases c2 : u = v
          · rw [decide_eq_true (show V.int u = V.int v by rw [c2])]
            obtain ⟨a1, a2⟩ := app (.inl c2)
            exact iteT (iteT ⟨.ref kq, rfl, .inl ⟨rfl, _, SqL.of hk7⟩, .ref tg, rfl, kq, _, _, rfl, rfl, hk7, lt1k (by omega), ⟨_, _, rfl, a1, _, upd_same, by rw [emov]; exact a2⟩⟩)
          · rw [decide_eq_false (show ¬ V.int u = V.int v from fun z => c2 (by injection z))]
            refine iteF ⟨.ref g7, rfl, .ref kq, rfl, _, _, dp_tup hg7, hdk, sh1 _, sh2, _, rfl, ?_⟩
            rw [any_tups]
            by_cases c3 : bhP mv.2 [gx, gy] ∈ kn
            · rw [decide_eq_true c3]
              obtain ⟨a1, a2⟩ := app (.inr (by rw [← euv]; exact c3))
              exact iteT ⟨.ref kq, rfl, .inl ⟨rfl, _, SqL.of hk7⟩, .ref tg, rfl, kq, _, _, rfl, rfl, hk7, lt1k (by omega), ⟨_, _, rfl, a1, _, upd_same, by rw [emov]; exact a2⟩⟩
            · rw [decide_eq_false c3]
              refine iteF ⟨_, _, rfl, off7, ks5, hk7, ?_⟩
              rw [emov]
              unfold addA
              rw [if_neg (fun z => z.2.elim (fun e => c2 (by rw [euv] at e; exact e)) c3)]
              exact pk7
        · rintro σ H5 ⟨y6, y7, rfl, off5, ks5, hk5, pk5⟩
          rw [hT2.2.2.length] at pk5
          refine ⟨_, y6, y7, rfl, off5, ks5, hk5, ?_⟩
          show Paired _ _ (movA ms ((pairsL many).getD j []) (turnA ms (pairsL many) (knownA ms (pairsL many) i) j) ms.length)
          rw [eg2]
          exact pk5
      · rintro σ H4 ⟨y5, y6, y7, rfl, off4, ks4, hk4, pk4⟩
        rw [lpv] at pk4
        exact ⟨_, y5, y6, y7, rfl, off4, ks4, hk4, pk4⟩
    · rintro σ H3 ⟨y4, y5, y6, y7, rfl, off3, ks3, hk3, pk3⟩
      rw [show (((vs.length : Nat) : Int) + 1).toNat = (pairsL many).length + 1 by omega] at pk3
      have offT : ∀ b xs, H2 b = some (.tup xs) → H3 b = some (.tup xs) := fun b xs e => off3 b _ (fun z => by rw [z, hq2] at e; cases e) e
      have pv3 := TupG.all offT pv2
      have sh1 : ∀ g : List Int, SeqAt.shaped (.tuple (g.map PyData.int)) = true := fun g => (Sh.tuple (n := 0) (Sh.ints g)).shaped (by decide)
      unfold apartL at q
      generalize knownA ms (pairsL many) ((pairsL many).length + 1) = kn at pk3 q
      refine ⟨.ref p, rfl, p, rfl, ⟨_, SqL.of (off3 _ _ npq hp2)⟩, fun D nD => ?_⟩
      refine lc_list (K := K) (a := p) (xs := vs) (fun e H' => Same H3 H' ∧ ∃ ds, H' D = some (.lst ds) ∧ Paired (TupG H') ds (((pairsL many).take e).filter fun g => !decide (g ∈ kn)))
        ⟨same_new nD, [], upd_same, by rw [List.take_zero]; exact .nil⟩ (fun e H' _ h => SqL.of (h.1 _ _ (off3 _ _ npq hp2))) ?_ ?_
      · rintro e v H4 hv ⟨s4, ds, hD, pd⟩
        obtain ⟨g, eg, tg, rfl, htg⟩ := paired_getL pv3 hv
        have htg4 := s4 _ _ htg
        have pk4 := TupG.all (Same.tups s4) pk3
        have el : e < (pairsL many).length := (List.getElem?_eq_some_iff.mp eg).1
        have ld : ds.length ≤ 15 := by
          have h1 := pd.length
          have h2 := List.length_filter_le (fun g => !decide (g ∈ kn)) ((pairsL many).take e)
          rw [List.length_take] at h2
          omega
        refine ⟨rfl, .ref tg, rfl, .ref kq, rfl, _, _, dp_tup htg4, .lst (SqL.of (s4 _ _ hk3)) (dp_tups pk4), sh1 _, (Sh.tups kn).shaped (by decide), _, rfl, ?_⟩
        rw [any_tups]
        have et : ((pairsL many).take (e + 1)).filter (fun g => !decide (g ∈ kn)) = ((pairsL many).take e).filter (fun g => !decide (g ∈ kn)) ++ [g].filter (fun g => !decide (g ∈ kn)) := by rw [take_snoc eg, List.filter_append]
        by_cases c : g ∈ kn
        · rw [decide_eq_true c]
          refine iteF ⟨s4, ds, hD, ?_⟩
          have : [g].filter (fun g => !decide (g ∈ kn)) = [] := by
            rw [List.filter_cons, decide_eq_true c]
            rfl
          rw [et, this, List.append_nil]
          exact pd
        · rw [decide_eq_false c]
          have : [g].filter (fun g => !decide (g ∈ kn)) = [g] := by
            rw [List.filter_cons, decide_eq_false c]
            rfl
          have tk : ∀ b xs, H4 b = some (.tup xs) → (upd H4 D (.lst (ds ++ [.ref tg]))) b = some (.tup xs) := fun b xs e1 => by
            rw [upd_ne (fun z => by rw [z, hD] at e1; cases e1)]
            exact e1
          refine iteT ⟨.ref tg, rfl, ds, hD, lt1k (by omega), fun b u e1 => by rw [upd_ne (ne_of_none e1 nD)]; exact s4 _ _ e1, ds ++ [.ref tg], upd_same, ?_⟩
          rw [et, this]
          exact paired_end (F := TupG _) ⟨tg, rfl, tk _ _ htg4⟩ (TupG.all tk pd)
      · rintro H4 ⟨s4, ds, hD, pd⟩
        rw [List.take_of_length_le (by omega)] at pd
        exact q D H4 (fun b o e => s4 _ _ (off3 _ _ (off0 e) (s02 _ _ e))) ⟨ds, hD, pd⟩
end
section
/-! ### where all meet, one group is closed -/
theorem one_closed {many : Nat} {ms : List Mv} (G : Good many ms) (all : ∀ g ∈ pairsL many, Meets many ms g) : (closedL many ms).length ≤ 1 := by
  have m1 := G.m1
  have m6 := G.m6
  have GA : GoodAll many ms := G.mv
  have ne : ids many ≠ [] := fun z => by
    have : (0 : Int) ∈ ids many := mem_ids.mpr ⟨by omega, by omega⟩
    rw [z] at this
    cases this
  obtain ⟨r, hv, hl⟩ := sync GA (fun x y x0 xy ym => all [x, y] (mem_pairsL.mpr ⟨x, y, x0, xy, ym, rfl⟩)) _ (ids many) (ids_good many) ne (Nat.le_refl _)
  obtain ⟨w, ew⟩ : ∃ w, runG many ms (ids many) r = [w] := List.length_eq_one_iff.mp hl
  have toW : ∀ p : Int, 0 ≤ p → p < (many : Int) → walkP ms p r = w := fun p p0 p1 => by
    have := (mem_runG GA (ids_good many) hv).mpr ⟨p, mem_ids.mpr ⟨p0, p1⟩, rfl⟩
    rw [ew] at this
    exact List.mem_singleton.mp this
  have same : ∀ p ∈ (ids many).filter (clK many ms), (reachL many ms w).getD 0 0 = p := fun p hp => by
    obtain ⟨h1, h2⟩ := List.mem_filter.mp hp
    obtain ⟨p0, p1⟩ := mem_ids.mp h1
    obtain ⟨h3, h4⟩ := (clK_def _ _ _).mp h2
    have hw : w ∈ reachL many ms p := (mem_reachL GA m6 p0 p1).mpr ⟨r, hv, toW p p0 p1⟩
    have e : reachL many ms w = reachL many ms p := of_decide_eq_true (List.all_eq_true.mp h4 w hw)
    rw [e]
    exact h3
  have pw : ((ids many).filter (clK many ms)).Pairwise (· < ·) := List.Pairwise.filter _ (ids_pair many)
  unfold closedL
  rw [List.length_map]
  match e : (ids many).filter (clK many ms) with
  | [] => exact Nat.zero_le _
  | [_] => exact Nat.le_refl _
  | a :: b :: l =>
    rw [e] at pw same
    have h1 := (List.pairwise_cons.mp pw).1 b List.mem_cons_self
    have h2 := same a List.mem_cons_self
    have h3 := same b (List.mem_cons_of_mem _ List.mem_cons_self)
    omega
theorem apart_all {many : Nat} {ms : List Mv} (G : GoodAll many ms) (h : apartL many ms = []) : ∀ g ∈ pairsL many, Meets many ms g := fun g hg => by
  refine (known_meets G hg).mp ?_
  have := List.filter_eq_nil_iff.mp h g hg
  simpa using this
theorem eqv_tups0 : ∀ (gs : List (List Int)), PyData.eqv (.list (gs.map fun g => .tuple (g.map PyData.int))) (.list []) = decide (gs = [])
  | [] => by simp only [List.map_nil, PyData.eqv, PyData.eqvAll, decide_true]
  | x :: xss => by simp [PyData.eqv, PyData.eqvAll]
end
section
/-! ### maps that don't lead all places to one -/
def Two (L : List Int) : Prop := ∃ x, x ∈ L ∧ ∃ y, y ∈ L ∧ x ≠ y
theorem set_two {L ks : List Int} {c : Nat} (nd : ks.Nodup) (hl : ks.length = c) (mem : ∀ k, k ∈ ks ↔ k ∈ L) : 1 < c ↔ Two L := by
  constructor
  · intro h
    match ks, nd, hl with
    | [], _, hl => rw [← hl] at h; exact absurd h (by decide)
    | [_], _, hl => rw [← hl] at h; exact absurd h (Nat.lt_irrefl 1)
    | a :: b :: r, nd, _ =>
      refine ⟨a, (mem a).mp List.mem_cons_self, b, (mem b).mp (List.mem_cons_of_mem _ List.mem_cons_self), fun e => ?_⟩
      rw [List.nodup_cons] at nd
      exact nd.1 (by rw [e]; exact List.mem_cons_self)
  · rintro ⟨x, hx, y, hy, ne⟩
    have h1 := (mem x).mpr hx
    have h2 := (mem y).mpr hy
    have := pigeon (l := [x, y]) (m := ks) (List.nodup_cons.mpr ⟨fun h => ne (List.mem_singleton.mp h), List.nodup_cons.mpr ⟨(fun h => nomatch h), List.nodup_nil⟩⟩) fun k hk => by
      rcases List.mem_cons.mp hk with e | hk
      · rw [e]; exact h1
      · rw [List.mem_singleton.mp hk]; exact h2
    have e2 : [x, y].length = 2 := rfl
    omega
def stepM (ms : List Mv) (n : Nat) (L : List Int) : List Int := L.map (goK (rowM ms n))
inductive RMap (many : Nat) (ms : List Mv) : List Int → Prop
  | here : RMap many ms (ids many)
  | step {L : List Int} {n : Nat} : RMap many ms L → n < ms.length → Two (stepM ms n L) → RMap many ms (stepM ms n L)
theorem ids_rowG (many : Nat) : GoodRow many (ids many) := ⟨by unfold ids; rw [List.length_map, List.length_range], fun k hk => mem_ids.mp hk⟩
theorem stepM_good {many : Nat} {ms : List Mv} (G : GoodAll many ms) {n : Nat} (hn : n < ms.length) {L : List Int} (hL : GoodRow many L) : GoodRow many (stepM ms n L) := by
  refine ⟨by unfold stepM; rw [List.length_map]; exact hL.1, fun k hk => ?_⟩
  obtain ⟨x, hx, rfl⟩ := List.mem_map.mp hk
  exact goK_in' (rowM_good G hn) (hL.2 x hx).1 (hL.2 x hx).2
theorem RMap.good {many : Nat} {ms : List Mv} (G : GoodAll many ms) {L : List Int} (h : RMap many ms L) : GoodRow many L := by
  induction h with
  | here => exact ids_rowG many
  | step _ hn _ ih => exact stepM_good G hn ih
/-- more than 30 of them -/
def TooMany (many : Nat) (ms : List Mv) : Prop := ∃ l : List (List Int), l.Nodup ∧ (∀ L ∈ l, RMap many ms L) ∧ 30 < l.length
/-- all that follow a map are found -/
def SuccIn (ms : List Mv) (fs : List (List Int)) (L : List Int) : Prop := ∀ n, n < ms.length → Two (stepM ms n L) → stepM ms n L ∈ fs
theorem all_found {many : Nat} {ms : List Mv} {fs : List (List Int)} (h0 : ids many ∈ fs) (cl : ∀ L ∈ fs, SuccIn ms fs L) {L : List Int} (h : RMap many ms L) : L ∈ fs := by
  induction h with
  | here => exact h0
  | step _ hn tw ih => exact cl _ ih _ hn tw
theorem too_many {many : Nat} {ms : List Mv} {fs : List (List Int)} (nd : fs.Nodup) (hr : ∀ L ∈ fs, RMap many ms L) (h0 : ids many ∈ fs) (cl : (∀ L ∈ fs, SuccIn ms fs L) ∨ 30 < fs.length) : 30 < fs.length ↔ TooMany many ms := by
  constructor
  · intro h
    exact ⟨fs, nd, hr, h⟩
  · rintro ⟨l, ln, lr, hl⟩
    rcases cl with cl | h
    · have := pigeon ln fun L hL => all_found h0 cl (lr L hL)
      omega
    · exact h
theorem one_place {ms : List Mv} (G : GoodAll 1 ms) : ¬ TooMany 1 ms := by
  rintro ⟨l, ln, lr, hl⟩
  have no : ∀ L : List Int, GoodRow 1 L → ¬ Two L := fun L hL => by
    rintro ⟨x, hx, y, hy, ne⟩
    have h1 := hL.2 x hx
    have h2 := hL.2 y hy
    omega
  have all : ∀ L, RMap 1 ms L → L = ids 1 := fun L h => by
    cases h with
    | here => rfl
    | step h1 hn tw => exact absurd tw (no _ (stepM_good G hn (h1.good G)))
  have := pigeon (l := l) (m := [ids 1]) ln fun L hL => by rw [all L (lr L hL)]; exact List.mem_cons_self
  have e : [ids 1].length = 1 := rfl
  omega
end
section
def tLenSetT (K : PySem.W.Frag) (ta : TE) : TE := fun σ H Q => ta σ H fun x H1 => ∃ (l : Addr) (ns : List Int), x = V.ref l ∧ SqT K H1 l (ns.map V.int) ∧ ns.length < 64 ∧ ∀ c : Nat, (∃ ks : List Int, ks.Nodup ∧ ks.length = c ∧ ∀ k, k ∈ ks ↔ k ∈ ns) → Q (.int (c : Int)) H1
open RZ in
theorem pe_lenSetT {X : Cx} {a : Expr} {ta : TE} {p p2 q pos : Pos} (hg : Gl X "len") (hm : X.mg "len" = none) (hg2 : Gl X "set") (hm2 : X.mg "set" = none) (ha : PE X a ta) (hc : X.calm = true := by rfl)
    (na : starEach [a] X.env = (false, eval a X.env) :: starEach [] X.env := by rfl) : PE X (.Call (.Name "len" p) [.Call (.Name "set" p2) [a] [] q] [] pos) (tLenSetT X.K ta) := by
  refine ⟨fun pins s σ H Q I h => Call_ (ld_blt I hg hm PySem.boot_len (PyProof.Rows.callWith_builtin1 (PyProof.Rows.args_cons (Call_ (ld_blt I hg2 hm2 PyProof.Rows.boot_set
    (PyProof.Rows.callWith_type1 (PyProof.Rows.args_cons (thn (ha.run pins s σ H _ I h) fun v s1 hq => PyProof.Rows.args_nil ?_) na) na rfl))) rfl) rfl rfl))⟩
  obtain ⟨x, H1, I1, r1, l, ns, ex, hq, hl, q1⟩ := hq
  subst ex
  have e0 : v = Value.ref l := r1
  subst e0
  obtain ⟨its, r, pl, hz⟩ := I1.tuple hq
  refine call_set_tupI ns (I1.ok.hd hc) pl (by simpa using intsAre_vals r) (by unfold scanBound; omega) fun h' tk c hS hcn hk => PyProof.Rows.args_nil ?_
  obtain ⟨o, es, ep, t, ho, hex, hd, hg', hnd, hmem, hlt, hf, hn, _⟩ := hS
  have J : Inv X pins σ H1 { s1 with heap := h', toks := tk } := I1.kept hk
  refine call_len_set ho hex hd hf (by rw [hn]; omega) ⟨.int (c : Int), H1, J.tok _, ⟨_, by rw [hn]⟩, q1 c ⟨_, hnd, by rw [List.length_map, Array.length_toList, hn], fun k => ?_⟩⟩
  rw [← hmem k]
  simp
end
section
variable {P : Program} {w : World} {K : PySem.W.Frag} {mg : Str → Option Value} {base : Heap} {C : Addr}
/-! ### _has_too_many_maps -/
theorem scTm : FnScope ["chain", "found", "done", "_", "whither", "ends", "place"] ["chain"] (defScope sHasTooManyMaps) := ⟨rfl, rfl, rfl, by decide +kernel, rfl, by decide +kernel, by decide +kernel⟩
def spTm (C : Addr) : Sp := fun vs H Q _ => ∃ (x : Addr) (many : Nat) (ms : List Mv), vs = [.ref x] ∧ ChainAt C H x many ms ∧ Good many ms ∧ ∀ (b : Bool) H', Same H H' → (b = true ↔ TooMany many ms) → Q (.bl b) H'
/-- what is found when d maps are done, and j moves of the next -/
structure Fnd (many : Nat) (ms : List Mv) (fs : List (List Int)) (d j : Nat) : Prop where
  nd : fs.Nodup
  rm : ∀ L ∈ fs, RMap many ms L
  h0 : ids many ∈ fs
  cl : ∀ (i : Nat) L, i < d → fs[i]? = some L → SuccIn ms fs L
  nx : ∀ L, fs[d]? = some L → ∀ n, n < j → n < ms.length → Two (stepM ms n L) → stepM ms n L ∈ fs
theorem Fnd.init (many : Nat) (ms : List Mv) : Fnd many ms [ids many] 0 0 :=
  ⟨List.nodup_cons.mpr ⟨(fun h => nomatch h), List.nodup_nil⟩, fun L h => by rw [List.mem_singleton.mp h]; exact .here, List.mem_cons_self, fun _ _ h => absurd h (Nat.not_lt_zero _), fun _ _ _ h => absurd h (Nat.not_lt_zero _)⟩
theorem Fnd.keep {many : Nat} {ms : List Mv} {fs : List (List Int)} {d j : Nat} (h : Fnd many ms fs d j) {L : List Int} (hL : fs[d]? = some L) (hk : ¬ Two (stepM ms j L) ∨ stepM ms j L ∈ fs) : Fnd many ms fs d (j + 1) :=
  ⟨h.nd, h.rm, h.h0, h.cl, fun L' hL' n hn hn2 tw => by
    by_cases c : n < j
    · exact h.nx L' hL' n c hn2 tw
    · have e : n = j := by omega
      rw [hL] at hL'
      cases hL'
      rw [e] at tw ⊢
      exact hk.resolve_left fun z => z tw⟩
theorem Fnd.add {many : Nat} {ms : List Mv} {fs : List (List Int)} {d j : Nat} (h : Fnd many ms fs d j) {L : List Int} (hL : fs[d]? = some L) (hj : j < ms.length) (tw : Two (stepM ms j L)) (no : stepM ms j L ∉ fs) : Fnd many ms (fs ++ [stepM ms j L]) d (j + 1) := by
  have dl : d < fs.length := (List.getElem?_eq_some_iff.mp hL).1
  refine ⟨List.nodup_append.mpr ⟨h.nd, by simp, fun a ha b hb e => no (by rw [← List.mem_singleton.mp hb, ← e]; exact ha)⟩, fun M hM => ?_, List.mem_append.mpr (.inl h.h0), fun i M hi hM n hn tw => ?_, fun M hM n hn hn2 tw2 => ?_⟩
  · rcases List.mem_append.mp hM with hM | hM
    · exact h.rm M hM
    · rw [List.mem_singleton.mp hM]
      exact .step (h.rm L (List.mem_of_getElem? hL)) hj tw
  · rw [List.getElem?_append_left (by omega)] at hM
    exact List.mem_append.mpr (.inl (h.cl i M hi hM n hn tw))
  · rw [List.getElem?_append_left dl, hL] at hM
    cases hM
    by_cases c : n < j
    · exact List.mem_append.mpr (.inl (h.nx L hL n c hn2 tw2))
    · have e : n = j := by omega
      rw [e]
      exact List.mem_append.mpr (.inr List.mem_cons_self)
theorem Fnd.next {many : Nat} {ms : List Mv} {fs : List (List Int)} {d : Nat} (h : Fnd many ms fs d ms.length) : Fnd many ms fs (d + 1) 0 :=
  ⟨h.nd, h.rm, h.h0, fun i L hi hL n hn tw => by
    by_cases c : i < d
    · exact h.cl i L c hL n hn tw
    · have e : i = d := by omega
      rw [e] at hL
      exact h.nx L hL n hn hn tw, fun _ _ _ h => absurd h (Nat.not_lt_zero _)⟩
theorem Fnd.ends {many : Nat} {ms : List Mv} {fs : List (List Int)} {d : Nat} (h : Fnd many ms fs d 0) (e : fs.length ≤ d ∨ 30 < fs.length) : 30 < fs.length ↔ TooMany many ms := by
  refine too_many h.nd h.rm h.h0 ?_
  rcases e with e | e
  · refine .inl fun L hL => ?_
    obtain ⟨i, hi, rfl⟩ := List.getElem_of_mem hL
    exact h.cl i _ (by omega) (List.getElem?_eq_getElem hi)
  · exact .inr e
theorem rowM_atM {ms : List Mv} {j : Nat} {mv : Mv} (h : ms[j]? = some mv) : rowM ms j = mv.2 := by
  unfold rowM
  rw [List.getD_eq_getElem?_getD, h]
  rfl
theorem ok_tm {f fE fP fT : Addr} {fd fdE fdP fdT : FuncData} {tF : Tok} (F : Fun K "_has_too_many_maps" "_has_too_many_maps" sHasTooManyMaps f fd) (DEv : Df K mg "everywhere" sEverywhere ["chain"] fE fdE) (GEv : FnOk P w K mg base CX0 2 fE fdE ["chain"] (spEv C)) (T : ChM K C fP fT fdP fdT) (gM : mg "MOST_MAPS" = some (.int 30 tF))
    (ml : mg "len" = none) (mS : mg "set" = none) (mt : mg "tuple" = none) (mL : mg "list" = none) : FnOk P w K mg base CX0 3 f fd ["chain"] (spTm C) := by
  have GT : FnOk P w K mg base CX0 1 fT fdT ["self"] (spTold C) := ok_told T.FT T.cl T.nV mL
  refine F.ok scTm (fun vs H Q E h => ?_) (fun cdv A outer s H vs Q E hr h => ?_)
  · obtain ⟨x, many, ms, rfl, _⟩ := h
    rfl
  · obtain ⟨x, many, ms, rfl, hC, G, q⟩ := h
    have r2 : Room 2 _ := hr
    have r1 : Room 1 _ := hr.mono (by decide)
    have hu5 : (A.deeper (envOfC "_has_too_many_maps" (defScope sHasTooManyMaps) s.heap.objs.size f cdv)).units + 65 < cLine := by
      have := hr.un
      omega
    refine ⟨_, (pss_cons (ps_set (i := 1) scTm.nd rfl (.inl rfl) (pe_lst (pa_cons (pe_call GEv r2 (by rfl) DEv.g DEv.F.kp DEv.b .nil pass0 (pa_cons (pv 0) pa_nil)) pa_nil)))
      (pss_cons (ps_set (i := 2) scTm.nd rfl (.inl rfl) pe_int)
      (pss_cons (ps_while PassesOwn.never (PW.pt (pw_and (pt_cmpR op_lt (pv 2) (pe_callB call_len_seq (by rfl) ml PySem.boot_len (pa_cons (pv 1) pa_nil)) (nomark _)) (pw_and1 (pt_cmpR op_le (pe_callB call_len_seq (by rfl) ml PySem.boot_len (pa_cons (pv 1) pa_nil)) (pe_glob (v := .int 30) (by rfl) gM ⟨_, rfl⟩) (nomark _))))) (pss_cons (ps_for PassesOwn.never rfl (pi_list (pe_meth0 (pv 0) T.cl T.hT GT r1 T.bT .nil pass0)) (pg_tup rfl (pgs_cons (pg_name (i := 3) scTm.nd rfl (.inl rfl)) (pgs_cons (pg_name (i := 4) scTm.nd rfl (.inr rfl)) pgs_nil))) (pss_cons (ps_set (i := 5) scTm.nd rfl (.inl rfl) (pe_callTy call_tuple_of (by rfl) mt (by decide +kernel) (pa_cons (pe_lc (own := [("place", 6)]) (g := gName 6) (tt := tYes) (te := (tOp (rIxT K) (tVar 4) (tVar 6))) rfl scTm.nd (pi_tup (pe_ix ix_list (pv 1) (pv 2) (fun _ _ => rfl))) (blkOk_by (N := ["chain", "found", "done", "_", "whither", "ends", "place"]) (sc := defScope sHasTooManyMaps) (by decide +kernel)) (fun _ _ _ _ _ => by exact (pg_name (i := 6) scTm.nd rfl (.inl rfl))) (fun _ _ _ _ _ => pts_nil) (fun _ _ _ _ _ => by exact (pe_ix ix_tup (pv 4) (pv 6) (fun _ _ => rfl)))) pa_nil)))
      (pss_one (ps_if (PW.pt (pw_and (pt_cmpR op_gt (pe_lenSetT (by rfl) ml (by rfl) mS (pv 5)) pe_int (nomark _)) (pw_and1 (pt_cmpR (op_notInD hu5) (pv 5) (pv 1) (by with_unfolding_all rfl))))) (pss_one (ps_expr (pe_bm PySem.F.plainAttrs_list PySem.F.slot_list_append PySem.F.type_list_append mt_append (pv 1) (pa_cons (pv 5) pa_nil)))) pss_nil))))
      (pss_one (ps_aug (i := 2) scTm.nd rfl (.inl rfl) pe_int ip_add))))
      (pss_one (ps_ret (pe_cmpR op_gt (pe_callB call_len_seq (by rfl) ml PySem.boot_len (pa_cons (pv 1) pa_nil)) (pe_glob (v := .int 30) (by rfl) gM ⟨_, rfl⟩) (nomark _))))))), ?_⟩
    have m1 := G.m1
    have m6 := G.m6
    have l8 := G.l8
    have GA : GoodAll many ms := G.mv
    refine ⟨.ref x, rfl, x, many, ms, rfl, hC, G, fun a0 H1 s1 ha0 => ⟨(by show 1 ≤ sizeLine; decide), fun F0 nF => ?_⟩⟩
    have s2 := s1.trans (same_new (o := .lst [.ref a0]) nF)
    have hF2 : (upd H1 F0 (.lst [.ref a0])) F0 = some (.lst [.ref a0]) := upd_same
    have ha2 := same_new (o := .lst [.ref a0]) nF _ _ ha0
    have nHF : H F0 = none := s1.free nF
    show tSeq _ _ _ _ (upd H1 F0 (.lst [.ref a0]))
    generalize upd H1 F0 (.lst [.ref a0]) = H2 at s2 hF2 ha2 ⊢
    refine while_by (fun σ H' => ∃ (d : Nat) (y3 y4 y5 : Option V) (vs : List V) (fs : List (List Int)), σ = [some (.ref x), some (.ref F0), some (.int (d : Int)), y3, y4, y5, none] ∧ Same H H' ∧ H' F0 = some (.lst vs) ∧ Paired (TupG H') vs fs ∧ Fnd many ms fs d 0 ∧ d ≤ 31 ∧ fs.length ≤ 38)
      (fun σ _ => match σ with | [_, _, some (.int d), _, _, _, _] => 64 - d.toNat | _ => 0) ⟨0, none, none, none, [.ref a0], [ids many], rfl, s2, hF2, .cons ⟨a0, rfl, ha2⟩ .nil, Fnd.init many ms, by omega, (by show 1 ≤ 38; decide)⟩ ?_ ?_
    · rintro σ H3 ⟨d, y3, y4, y5, vs, fs, rfl, s3, hF3, hp3, fn, d31, l38⟩
      have lv : vs.length = fs.length := hp3.length
      -- what follows the loop
      have after : fs.length ≤ d ∨ 30 < fs.length → tRet (tOp (rI0 fun i j => .bl (decide (j < i))) (tCB (rLenSq K) (tCons (tVar 1) tNil)) (tC (.int 30))) { nx := fun _ H' => Q .non H', rt := Q } [some (.ref x), some (.ref F0), some (.int (d : Int)), y3, y4, y5, none] H3 := by
        intro e
        refine ⟨.ref F0, rfl, F0, _, rfl, .inl (SqL.of hF3), _, _, rfl, rfl, ?_⟩
        refine q _ H3 s3 ?_
        rw [decide_eq_true_iff, ← fn.ends e, lv]
        omega
      refine ⟨.int (d : Int), rfl, .ref F0, rfl, F0, _, rfl, .inl (SqL.of hF3), _, _, rfl, rfl, _, rfl, ite2 (fun c => ?_) (fun c => ?_)⟩
      · have dl : d < fs.length := by
          have : (d : Int) < ((vs.length : Nat) : Int) := of_decide_eq_true c
          omega
        refine ⟨.ref F0, rfl, F0, _, rfl, .inl (SqL.of hF3), _, _, rfl, rfl, _, rfl, ite2 (fun c2 => ?_) (fun c2 => ?_)⟩
        · have l30 : fs.length ≤ 30 := by
            have : ((vs.length : Nat) : Int) ≤ 30 := of_decide_eq_true c2
            omega
          obtain ⟨L, eL⟩ : ∃ L, fs[d]? = some L := ⟨_, List.getElem?_eq_getElem dl⟩
          have gL := (fn.rm L (List.mem_of_getElem? eL)).good GA
          obtain ⟨dx, a1, ws1, g1, g2, g3⟩ := id (hC.same s3)
          refine ⟨.ref x, rfl, x, dx, _, rfl, g1, ch_noT, x, many, ms, rfl, hC.same s3, fun l wl nl hM => ?_⟩
          have s4 := same_new (o := .lst wl) nl
          have hl4 : (upd H3 l (.lst wl)) l = some (.lst wl) := upd_same
          have hF4 := s4 _ _ hF3
          have hp4 : Paired (TupG (upd H3 l (.lst wl))) vs fs := TupG.all (Same.tups s4) hp3
          have nlF : l ≠ F0 := fun z => by rw [z, hF3] at nl; cases nl
          have s34 := s3.trans s4
          have lenW := hM.length
          generalize upd H3 l (.lst wl) = H4 at s4 hl4 hF4 hp4 s34 hM ⊢
          refine ⟨l, rfl, ⟨_, SqL.of hl4⟩, ?_⟩
          refine for_list (K := K) (a := l) (xs := wl) (fun j σ H' => ∃ (y3 y4 y5 : Option V) (vs : List V) (fs : List (List Int)), σ = [some (.ref x), some (.ref F0), some (.int (d : Int)), y3, y4, y5, none] ∧ (∀ b o, b ≠ F0 → H4 b = some o → H' b = some o) ∧ H' F0 = some (.lst vs) ∧ Paired (TupG H') vs fs ∧ Fnd many ms fs d j ∧ fs[d]? = some L ∧ fs.length ≤ 30 + j)
            ⟨y3, y4, y5, vs, fs, rfl, fun _ _ _ e => e, hF4, hp4, fn, eL, by omega⟩ (fun j σ H' _ ⟨_, _, _, _, _, _, k, _⟩ => SqL.of (k _ _ nlF hl4)) ?_ ?_
          · rintro j v σ H5 hv ⟨y3, y4, y5, vs5, fs5, rfl, k5, hF5, hp5, fn5, eL5, l5⟩
            obtain ⟨mv, emv, ta, tb, rfl, hta, htb⟩ := hM.get' hv
            have jl : j < ms.length := (List.getElem?_eq_some_iff.mp emv).1
            have gm := G.mv mv (List.mem_of_getElem? emv)
            have erow := rowM_atM emv
            have nt : ∀ {b xs}, H4 b = some (HO.tup xs) → b ≠ F0 := fun e z => by rw [z, hF4] at e; cases e
            have hta5 := k5 _ _ (nt hta) hta
            have htb5 := k5 _ _ (nt htb) htb
            obtain ⟨vL, evL, tL, rfl, htL⟩ := paired_get hp5 eL5
            have hlm := gL.1
            refine ⟨ta, _, rfl, SqT.of hta5, rfl, .int mv.1, [.ref tb], rfl, .ref tb, [], rfl, rfl, ?_⟩
            refine ⟨.ref F0, rfl, .int (d : Int), rfl, F0, _, (d : Int), _, rfl, rfl, SqL.of hF5, atI_nat evL, tL, rfl, ⟨_, SqT.of htL⟩, fun D nD => ?_⟩
            refine lc_tup (K := K) (a := tL) (xs := L.map V.int) (fun i H' => Same H5 H' ∧ H' D = some (.lst (((stepM ms j L).take i).map V.int)))
              ⟨same_new nD, by rw [List.take_zero]; exact upd_same⟩ (fun i H' _ h => SqT.of (h.1 _ _ htL)) ?_ ?_
            · rintro i v H6 hv6 ⟨s6, hD⟩
              rw [List.getElem?_map] at hv6
              obtain ⟨p, hpp, rfl⟩ := Option.map_eq_some_iff.mp hv6
              obtain ⟨p0, p1⟩ := gL.2 p (List.mem_of_getElem? hpp)
              have hpl : p.toNat < mv.2.length := by rw [gm.2.2.1]; omega
              have ge : (mv.2.map V.int)[p.toNat]? = some (.int (goK mv.2 p)) := by
                rw [List.getElem?_map, List.getElem?_eq_getElem hpl]
                unfold goK
                rw [List.getD_eq_getElem?_getD, List.getElem?_eq_getElem hpl]
                rfl
              have hi : i < L.length := (List.getElem?_eq_some_iff.mp hpp).1
              refine ⟨rfl, .ref tb, rfl, .int p, rfl, tb, _, p, _, rfl, rfl, SqT.of (s6 _ _ htb5), at_of (show p = ((p.toNat : Nat) : Int) by omega) ge, _, hD, ?_, fun b u eb => by rw [upd_ne (ne_of_none eb nD)]; exact s6 _ _ eb, ?_⟩
              · rw [List.length_map, List.length_take]
                exact small8 (Nat.le_trans (Nat.min_le_left _ _) (by omega))
              · rw [upd_same, take_snoc (x := goK mv.2 p) (by unfold stepM; rw [List.getElem?_map, hpp, erow]; rfl), List.map_append]
                rfl
            rintro H6 ⟨s6, hD⟩
            rw [List.length_map, List.take_of_length_le (by unfold stepM; rw [List.length_map]; exact Nat.le_refl _)] at hD
            refine ⟨D, _, rfl, .inl ⟨SqL.of hD, fun te nte => ?_⟩⟩
            have s7 := s6.trans (same_new (o := .tup ((stepM ms j L).map V.int)) nte)
            have hte : (upd H6 te (.tup ((stepM ms j L).map V.int))) te = some (.tup ((stepM ms j L).map V.int)) := upd_same
            have hF7 := s7 _ _ hF5
            have hp7 : Paired (TupG (upd H6 te (.tup ((stepM ms j L).map V.int)))) vs5 fs5 := TupG.all (Same.tups s7) hp5
            generalize upd H6 te (.tup ((stepM ms j L).map V.int)) = H7 at s7 hte hF7 hp7 ⊢
            have k7 : ∀ b o, b ≠ F0 → H4 b = some o → H7 b = some o := fun b o nb e => s7 _ _ (k5 b o nb e)
            have lst6 : (stepM ms j L).length ≤ 6 := by unfold stepM; rw [List.length_map]; omega
            refine ⟨.ref te, rfl, te, _, rfl, SqT.of hte, by omega, fun c ⟨ks, kn, kl, km⟩ => ?_⟩
            have tw := set_two kn kl km
            refine ⟨_, _, rfl, rfl, _, rfl, ite2 (fun c1 => ?_) (fun c1 => ?_)⟩
            · have tw1 : Two (stepM ms j L) := tw.mp (by
                have := of_decide_eq_true c1
                omega)
              refine ⟨.ref te, rfl, .ref F0, rfl, _, _, dp_tup hte, .lst (SqL.of hF7) (dp_tups hp7), (Sh.tuple (n := 0) (Sh.ints _)).shaped (by decide), (Sh.tups _).shaped (by decide), _, rfl, ?_⟩
              rw [any_tups]
              by_cases c2 : stepM ms j L ∈ fs5
              · rw [decide_eq_true c2]
                exact iteF ⟨_, _, _, vs5, fs5, rfl, k7, hF7, hp7, fn5.keep eL5 (.inr c2), eL5, by omega⟩
              · rw [decide_eq_false c2]
                refine iteT ⟨.ref F0, rfl, .inl ⟨rfl, _, SqL.of hF7⟩, .ref te, rfl, F0, _, _, rfl, rfl, hF7, lt1k (by have := hp7.length; omega), ?_⟩
                have k8 : ∀ b o, b ≠ F0 → H7 b = some o → (upd H7 F0 (.lst (vs5 ++ [.ref te]))) b = some o := fun b o nb e => by rw [upd_ne nb]; exact e
                have nt7 : ∀ {b xs}, H7 b = some (HO.tup xs) → b ≠ F0 := fun e z => by rw [z, hF7] at e; cases e
                refine ⟨_, _, _, vs5 ++ [.ref te], fs5 ++ [stepM ms j L], rfl, fun b o nb e => k8 b o nb (k7 b o nb e), upd_same, ?_, fn5.add eL5 jl tw1 c2, ?_, ?_⟩
                · exact paired_end (F := TupG _) ⟨te, rfl, k8 _ _ (nt7 hte) hte⟩ (TupG.all (fun b xs e => k8 _ _ (nt7 e) e) hp7)
                · rw [List.getElem?_append_left (List.getElem?_eq_some_iff.mp eL5).1]
                  exact eL5
                · rw [List.length_append]
                  show fs5.length + 1 ≤ 30 + (j + 1)
                  omega
            · have tw1 : ¬ Two (stepM ms j L) := fun t => c1 (decide_eq_true (by have := tw.mpr t; omega))
              exact iteF ⟨_, _, _, vs5, fs5, rfl, k7, hF7, hp7, fn5.keep eL5 (.inl tw1), eL5, by omega⟩
          · rintro σ H5 ⟨y3, y4, y5, vs5, fs5, rfl, k5, hF5, hp5, fn5, eL5, l5⟩
            rw [lenW] at fn5 l5
            refine ⟨.int (d : Int), rfl, (d : Int), 1, rfl, rfl, ⟨d + 1, y3, y4, y5, vs5, fs5, ?_, fun b o e => k5 b o (ne_of_none e nHF) (s34 _ _ e), hF5, hp5, fn5.next, by omega, by omega⟩, ?_⟩
            · show [some (V.ref x), some (V.ref F0), some (V.int ((d : Int) + 1)), y3, y4, y5, none] = _
              rw [show ((d + 1 : Nat) : Int) = (d : Int) + 1 by omega]
            · show 64 - ((d : Int) + 1).toNat < 64 - ((d : Int)).toNat
              omega
        · exact after (.inr (by
            have : ¬ ((vs.length : Nat) : Int) ≤ 30 := fun z => c2 (decide_eq_true z)
            omega))
      · exact after (.inl (by
          have : ¬ (d : Int) < ((vs.length : Nat) : Int) := fun z => c (decide_eq_true z)
          omega))
    · rintro σ H3 Q1 Q2 hq ⟨v, e1, u, e2, p, ys, e3, e4, i, j, e5, e6, b, e7, h⟩
      refine ⟨v, e1, u, e2, p, ys, e3, e4, i, j, e5, e6, b, e7, ?_⟩
      cases b with
      | false => exact hq _ _ h
      | true =>
        obtain ⟨u2, f2, p2, ys2, f3, f4, i2, j2, f5, f6, b2, f7, h2⟩ := h
        exact ⟨u2, f2, p2, ys2, f3, f4, i2, j2, f5, f6, b2, f7, hq _ _ h2⟩
end
section
variable {P : Program} {w : World} {K : PySem.W.Frag} {mg : Str → Option Value} {base : Heap} {C : Addr}
/-! ### want_meeting -/
theorem scWm : FnScope ["chain", "pair"] ["chain"] (defScope sWantMeeting) := ⟨rfl, rfl, rfl, by decide +kernel, rfl, by decide +kernel, by decide +kernel⟩
def spWm (C : Addr) : Sp := fun vs H Q _ => ∃ (x : Addr) (many : Nat) (ms : List Mv), vs = [.ref x] ∧ ChainAt C H x many ms ∧ Good many ms ∧ firstApart many ms = none ∧ ∀ H', Same H H' → Q .non H'
theorem ok_wm {f fA : Addr} {fd fdA : FuncData} (F : Fun K "want_meeting" "want_meeting" sWantMeeting f fd) (DFa : Df K mg "_first_apart" sFirstApart ["chain"] fA fdA) (GFa : FnOk P w K mg base CX0 4 fA fdA ["chain"] (spFa C)) : FnOk P w K mg base CX0 5 f fd ["chain"] (spWm C) := by
  refine F.ok scWm (fun vs H Q E h => ?_) (fun cdv A outer s H vs Q E hr h => ?_)
  · obtain ⟨x, many, ms, rfl, _⟩ := h
    rfl
  · obtain ⟨x, many, ms, rfl, hC, G, hf, q⟩ := h
    have r4 : Room 4 _ := hr
    refine ⟨_, (pss_cons (ps_set (i := 1) scWm.nd rfl (.inl rfl) (pe_call GFa r4 (by rfl) DFa.g DFa.F.kp DFa.b .nil pass0 (pa_cons (pv 0) pa_nil)))
      (pss_one (ps_if (pt_cmpR op_notN (pv 1) pe_non (nomark _)) pss_never pss_nil))), ?_⟩
    refine ⟨.ref x, rfl, x, many, ms, rfl, hC, G, fun v H1 s1 hv => ?_⟩
    rw [hf] at hv
    have ev : v = .non := hv
    subst ev
    refine ⟨.non, rfl, rfl, false, by simp, iteF ?_⟩
    exact q H1 s1
end
/-! ### dict(zip(tuples, values)): a rule of our own -/
section
def tDictZip (K : PySem.W.Frag) (ta : TA) : TE := fun σ H Q => ta σ H fun us H1 => ∃ (a b : Addr) (qs : List Addr) (ks : List (List Key)) (vs : List V), us = [.ref a, .ref b] ∧ SqL K H1 a (qs.map V.ref) ∧ SqL K H1 b vs ∧ Paired (fun q k => H1 q = some (.tup (k.map kV))) qs ks ∧ ks.Nodup ∧ vs.length = ks.length ∧ ks.length ≤ 1000 ∧
  ∀ D, H1 D = none → Q (.ref D) (upd H1 D (.dT (ks.zip vs)))
theorem storedAll_nd {K : Type} [DecidableEq K] : ∀ (ps acc : List (K × Addr × Value)), ((acc ++ ps).map (·.1)).Nodup → storedAllH acc ps = acc ++ ps
  | [], acc, _ => (List.append_nil acc).symm
  | p :: ps, acc, nd => by
    have nk : atKey acc p.1 = none := by
      unfold atKey
      rw [List.find?_eq_none.mpr fun x hx => ?_]
      · rfl
      · intro e
        have e' : x.1 = p.1 := of_decide_eq_true e
        rw [List.map_append, List.map_cons] at nd
        exact (List.nodup_append.mp nd).2.2 x.1 (List.mem_map.mpr ⟨x, hx, rfl⟩) p.1 List.mem_cons_self e'
    show storedAllH (storedH acc p.1 p.2.1 p.2.2) ps = _
    rw [storedH_new nk, storedAll_nd ps _ (by simpa using nd)]
    simp
/-- the entries as they stand -/
def zipE : List (List Key) → List Addr → List Value → List (List Key × Addr × Value)
  | k :: ks, q :: qs, u :: us => (k, q, u) :: zipE ks qs us
  | _, _, _ => []
theorem zipE_len : ∀ {ks : List (List Key)} {qs : List Addr} {us : List Value}, qs.length = ks.length → us.length = ks.length → (zipE ks qs us).length = ks.length
  | [], _, _, _, _ => rfl
  | k :: ks, q :: qs, u :: us, h1, h2 => by
    show (zipE ks qs us).length + 1 = ks.length + 1
    rw [zipE_len (by simpa using h1) (by simpa using h2)]
  | _ :: _, [], _, h, _ => nomatch h
  | _ :: _, _ :: _, [], _, h => nomatch h
theorem zipE_keys : ∀ {ks : List (List Key)} {qs : List Addr} {us : List Value}, qs.length = ks.length → us.length = ks.length → (zipE ks qs us).map (·.1) = ks
  | [], _, _, _, _ => rfl
  | k :: ks, q :: qs, u :: us, h1, h2 => by
    show k :: (zipE ks qs us).map (·.1) = _
    rw [zipE_keys (by simpa using h1) (by simpa using h2)]
  | _ :: _, [], _, h, _ => nomatch h
  | _ :: _, _ :: _, [], _, h => nomatch h
theorem zipE_at : ∀ {ks : List (List Key)} {qs : List Addr} {us : List Value} {i : Nat} {q : Addr} {u : Value}, qs.length = ks.length → us.length = ks.length → qs[i]? = some q → us[i]? = some u → ∃ k, (zipE ks qs us)[i]? = some (k, q, u)
  | k :: ks, q' :: qs, u' :: us, 0, q, u, _, _, e1, e2 => by
    cases e1; cases e2
    exact ⟨k, rfl⟩
  | k :: ks, q' :: qs, u' :: us, i + 1, q, u, h1, h2, e1, e2 => by
    obtain ⟨k', e⟩ := zipE_at (ks := ks) (i := i) (by simpa using h1) (by simpa using h2) (by simpa using e1) (by simpa using e2)
    exact ⟨k', by show (zipE ks qs us)[i]? = _; exact e⟩
  | [], [], _, _, _, _, _, _, e, _ => by simp at e
  | _ :: _, [], _, _, _, _, h, _, _, _ => nomatch h
  | [], _ :: _, _, _, _, _, h, _, _, _ => nomatch h
  | _ :: _, _ :: _, [], _, _, _, _, h, _, _ => nomatch h
theorem zipE_mem {F : Addr → List Key → Prop} : ∀ {qs : List Addr} {ks : List (List Key)} {us : List Value}, Paired F qs ks → ∀ x ∈ zipE ks qs us, F x.2.1 x.1
  | _, _, _, .nil, x, h => nomatch h
  | _ :: _, _ :: _, [], .cons _ _, x, h => nomatch h
  | q :: qs, k :: ks, u :: us, .cons h t, x, hx => by
    rcases List.mem_cons.mp hx with e | hx
    · rw [e]; exact h
    · exact zipE_mem t x hx
theorem zipE_rel {H : Hp} : ∀ {qs : List Addr} {ks : List (List Key)} {vs : List V} {us : List Value}, Paired (fun q k => H q = some (.tup (k.map kV))) qs ks → Vals vs us → vs.length = ks.length → KT H (ks.zip vs) (zipE ks qs us)
  | _, _, [], _, .nil, .nil, _ => .nil
  | _, _, _ :: _, _, .nil, _, h => nomatch h
  | _, _, [], _, .cons _ _, _, h => nomatch h
  | q :: qs, k :: ks, v :: vs, u :: us, .cons h t, .cons r rr, hl => .cons ⟨rfl, h, r⟩ (zipE_rel t rr (by simpa using hl))
open RZ in
theorem pe_dictZip {X : Cx} {e e2 : Expr} {ta : TA} {p p2 q pos : Pos} (hu : X.A.units + 64 < cLine) (hg : Gl X "dict") (hm : X.mg "dict" = none) (hg2 : Gl X "zip") (hm2 : X.mg "zip" = none) (ha : PA X [e, e2] ta) (hc : X.calm = true := by rfl)
    (hs : starEach [e, e2] X.env = (false, eval e X.env) :: starEach [e2] X.env := by rfl) (hpl : (backTo q (starEach [e2] X.env)).any (·.1) = false := by rfl) :
    PE X (.Call (.Name "dict" p) [.Call (.Name "zip" p2) [e, e2] [] q] [] pos) (tDictZip X.K ta) := by
  refine ⟨fun pins s σ H Q I h => Call_ (ld_blt I hg hm PyProof.Rows.boot_dict (PyProof.Rows.callWith_type1 (PyProof.Rows.args_cons (Call_ (ld_blt I hg2 hm2 PyProof.Rows.boot_zip
    (PyProof.Rows.callWith_type1 (thn (ha.run q pins s σ H _ I h) fun us s1 ⟨vs0, H1, I1, r1, q1⟩ => ?_) hs hpl))) rfl) rfl rfl))⟩
  obtain ⟨a, b, qs, ks, vs, ex, hqa, hqb, hp, nd, lv, few, q2⟩ := q1
  subst ex
  cases r1 with
  | cons r rr =>
    cases rr with
    | cons r' rr =>
      cases rr
      cases r
      cases r'
      obtain ⟨its, rv, p1, _⟩ := I1.list hqa
      obtain ⟨its2, rv2, pl2, _⟩ := I1.list hqb
      have lq : qs.length = ks.length := hp.length
      have li : its.length = qs.length := by rw [← rv.length, List.length_map]
      have li2 : its2.length = ks.length := by rw [← rv2.length, lv]
      refine call_zip_2 p1.isList pl2.isList fun h' hz hTI hTO h1 h2 hsz hk => PyProof.Rows.args_nil ?_
      have I2 : Inv X pins σ H1 { s1 with heap := h' } := I1.kept (t' := s1.toks) hk
      have D := PySem.W.ktu_apart s1.heap.objs.size a b p1.lt pl2.lt
      have lst1 : h'.IsList a its.toArray := p1.isList.at fun o e => hk _ o e
      have lst2 : h'.IsList b its2.toArray := pl2.isList.at fun o e => hk _ o e
      have fresh : ∀ c ∈ [s1.heap.objs.size + 4, s1.heap.objs.size + 3, s1.heap.objs.size, s1.heap.objs.size + 1], s1.heap.objs.size ≤ c := fun c hc => by
        simp only [List.mem_cons, List.not_mem_nil, or_false] at hc
        omega
      have old : ∀ {c o}, s1.heap.get? c = some o → c ∉ [s1.heap.objs.size + 4, s1.heap.objs.size + 3, s1.heap.objs.size, s1.heap.objs.size + 1] := fun e hm => by
        exact absurd (Heap.lt_size e) (Nat.not_lt.mpr (fresh _ hm))
      have keyAt : ∀ x ∈ zipE ks qs its2, (tupleKind (mixKind X.prog X.w)).is s1.heap x.1 x.2.1 := fun x hx => key_of I1.hok (zipE_mem hp x hx)
      have szle : s1.heap.objs.size ≤ h'.objs.size := by rw [hsz]; omega
      refine call_dict_pairsH (knd := tupleKind (mixKind X.prog X.w)) (s := { s1 with heap := h' }) (ps := zipE ks qs its2) (PairArg.zip (prog := X.prog) (w := X.w) _ _ _ _ _ a b D its.toArray its2.toArray) (I1.ok.hd hc) (by show (X.A.in1.in1).units < cLine; simp; omega) ⟨hz, hTI, ⟨_, _, hTO⟩, h1, h2, lst1, lst2⟩ ⟨?_, fun i key v hrel => ?_⟩ (fun h3 k3 x hx => ?_) ?_ fun h4 tk dd k4 => ?_
      · rw [zipE_len lq li2, List.size_toArray, List.size_toArray, li, lq, li2, Nat.min_self]
      · obtain ⟨r1, r2⟩ := hrel
        rw [List.getElem?_toArray] at r1 r2
        have hi : i < qs.length := by
          have := (List.getElem?_eq_some_iff.mp r1).1
          omega
        obtain ⟨u, eu, ru⟩ := rv.get (show (qs.map V.ref)[i]? = some (.ref qs[i]) by rw [List.getElem?_map, List.getElem?_eq_getElem hi]; rfl)
        rw [r1] at eu
        cases eu
        obtain ⟨k, ek⟩ := zipE_at (ks := ks) lq li2 (List.getElem?_eq_getElem hi) r2
        exact ⟨k, qs[i], ek, ru⟩
      · obtain ⟨o, its', n, ho, hc', hd', hi'⟩ := keyAt x hx
        refine ⟨o, its', n, k3 _ _ (fun z => ?_) (old ho) (hk _ _ ho), hc', hd', hi'⟩
        have z' : x.2.1 = h'.objs.size := z
        exact absurd (Heap.lt_size ho) (by rw [z']; exact Nat.not_lt.mpr szle)
      · rw [List.size_toArray, List.size_toArray, li, lq, li2, Nat.min_self]
        exact Nat.le_trans few (by decide)
      · rw [storedAll_nd _ _ (by rw [List.nil_append, zipE_keys lq li2]; exact nd), List.nil_append] at dd
        have hn : H1 h'.objs.size = none := I1.hok.fresh szle
        obtain ⟨o, es, ep, ho, g2, g3, g4, _, g5⟩ := dd
        have hp' : Paired (fun q k => (upd H1 h'.objs.size (.dT (ks.zip vs))) q = some (.tup (k.map kV))) qs ks := L2.Paired.mapP hp fun q k e => by
          rw [upd_ne (ne_of_none e hn)]
          exact e
        have big := I1.big
        refine ⟨.ref h'.objs.size, _, I1.laid (a := h'.objs.size) (o := .dT (ks.zip vs)) (h' := h4) (t' := tk) (fun c u e => k4 c u (old e) (hk _ _ e)) szle ⟨?_, ?_, zipE ks qs its2, zipE_rel hp' rv2 lv, o, es, ep, ho, g2, g3, g4, g5⟩, rfl, q2 _ hn⟩
        · rw [List.length_zip, lv, Nat.min_self]
          exact Nat.le_trans few (by decide)
        · exact beq_eq_false_iff_ne.mpr fun z => Nat.lt_irrefl _ (Nat.lt_of_lt_of_le big (by rw [← z]; exact szle))
end
section
theorem whole_posS {many : Nat} {ms : List Mv} (G : Good many ms) : 1 ≤ whole ms := by
  have l1 := G.l1
  obtain ⟨m, r, rfl⟩ := List.exists_cons_of_length_pos (Nat.lt_of_lt_of_le (by decide) l1)
  unfold whole
  rw [sumL_cons]
  have h1 := (G.mv m List.mem_cons_self).1
  have h2 := sumL_nn (l := r) (f := fun m => m.1) fun a ha => by have := (G.mv a (List.mem_cons_of_mem _ ha)).1; omega
  omega
theorem sumL_mostS {α : Type} {l : List α} {f : α → Int} {b : Int} (h : ∀ a ∈ l, f a ≤ b) : sumL l f ≤ l.length * b := by
  induction l with
  | nil => rw [sumL_nil, List.length_nil]; omega
  | cons a l ih =>
    rw [sumL_cons, List.length_cons]
    have := h a List.mem_cons_self
    have := ih fun x hx => h x (List.mem_cons_of_mem _ hx)
    rw [Int.natCast_add, Int.add_mul]
    omega
theorem whole_leS {many : Nat} {ms : List Mv} (G : Good many ms) : whole ms ≤ 792 := by
  have l8 := G.l8
  have := sumL_mostS (l := ms) (f := fun m => m.1) (b := 99) fun m hm => (G.mv m hm).2.1
  unfold whole
  omega
end
section
/-! ### how often one is at a group: the mathematics -/
structure GsOk (many : Nat) (ms : List Mv) (gs : List (List Int)) : Prop where
  nd : gs.Nodup
  good : ∀ g ∈ gs, goodG many g
  ne : ∀ g ∈ gs, g ≠ []
  h0 : gs[0]? = some (ids many)
  cl : ∀ g ∈ gs, ∀ mv ∈ ms, ledG many mv.2 g ∈ gs
  len : gs.length ≤ 63
def cG (many : Nat) (ms : List Mv) (g e : List Int) : Int := sumL ms fun mv => if ledG many mv.2 g = e then mv.1 else 0
def gAt (gs : List (List Int)) (m : Nat) : List Int := gs.getD m []
def pG (many : Nat) (ms : List Mv) (gs : List (List Int)) (m r : Nat) : Int := if 1 < (gAt gs m).length then cG many ms (gAt gs m) (gAt gs r) else 0
variable {many : Nat} {ms : List Mv} {gs : List (List Int)}
theorem gAt_mem {m : Nat} (h : m < gs.length) : gAt gs m ∈ gs := by
  unfold gAt
  rw [List.getD_eq_getElem?_getD, List.getElem?_eq_getElem h]
  exact List.getElem_mem h
theorem gAt_eq {m : Nat} {g : List Int} (h : gs[m]? = some g) : gAt gs m = g := by
  unfold gAt
  rw [List.getD_eq_getElem?_getD, h]
  rfl
theorem gAt_inj (nd : gs.Nodup) {m r : Nat} (hm : m < gs.length) (hr : r < gs.length) (e : gAt gs m = gAt gs r) : m = r := by
  unfold gAt at e
  rw [List.getD_eq_getElem?_getD, List.getElem?_eq_getElem hm, List.getD_eq_getElem?_getD, List.getElem?_eq_getElem hr] at e
  exact (List.getElem_inj nd).mp e
theorem cG_nn (G : Good many ms) (g e : List Int) : 0 ≤ cG many ms g e := sumL_nn fun mv hm => by
  have := (G.mv mv hm).1
  show 0 ≤ (if ledG many mv.2 g = e then mv.1 else 0)
  split <;> omega
theorem pG_nn (G : Good many ms) (m r : Nat) : 0 ≤ pG many ms gs m r := by
  unfold pG
  split
  · exact cG_nn G _ _
  · exact Int.le_refl 0
theorem sumL_sumNs {α : Type} (l : List α) (f : α → Nat → Int) : ∀ k : Nat, sumL l (fun a => sumN k (f a)) = sumN k fun q => sumL l fun a => f a q
  | 0 => sumL_zero l
  | k + 1 => by
    show sumL l (fun a => sumN k (f a) + f a k) = sumN k (fun q => sumL l fun a => f a q) + sumL l fun a => f a k
    rw [sumL_add, sumL_sumNs l f k]
theorem cG_all (O : GsOk many ms gs) {g : List Int} (hg : g ∈ gs) : sumN gs.length (fun r => cG many ms g (gAt gs r)) = whole ms := by
  unfold cG
  rw [← sumL_sumNs ms (fun mv r => if ledG many mv.2 g = gAt gs r then mv.1 else 0)]
  unfold whole
  refine sumL_congr fun mv hm => ?_
  obtain ⟨i, hi, e⟩ := List.getElem_of_mem (O.cl g hg mv hm)
  have ei : gAt gs i = ledG many mv.2 g := gAt_eq (by rw [List.getElem?_eq_getElem hi, e])
  rw [sumN_one (i := i) hi (fun m hm ne => if_neg fun h => ne (gAt_inj O.nd hm hi (by rw [ei, h]))), if_pos ei.symm]
theorem pG_all (O : GsOk many ms gs) {m : Nat} (hm : m < gs.length) : sumN gs.length (pG many ms gs m) = if 1 < (gAt gs m).length then whole ms else 0 := by
  by_cases c : 1 < (gAt gs m).length
  · rw [if_pos c, ← cG_all O (gAt_mem hm)]
    exact sumN_congr fun r _ => by unfold pG; rw [if_pos c]
  · rw [if_neg c]
    exact sumN_none fun r _ => by unfold pG; rw [if_neg c]
theorem cG_pos (G : Good many ms) {n : Nat} (hn : n < ms.length) {g : List Int} : 0 < cG many ms g (ledG many (rowM ms n) g) := by
  have key : ∀ l : List Mv, (∀ mv ∈ l, GoodMv many mv) → ms[n] ∈ l → 0 < sumL l fun mv => if ledG many mv.2 g = ledG many (rowM ms n) g then mv.1 else 0 := fun l => by
    induction l with
    | nil => intro _ h; cases h
    | cons a l ih =>
      intro ha hm
      rw [sumL_cons]
      have h1 := (ha a List.mem_cons_self).1
      have h2 : 0 ≤ sumL l fun mv => if ledG many mv.2 g = ledG many (rowM ms n) g then mv.1 else 0 := sumL_nn fun mv hmv => by
        have := (ha mv (List.mem_cons_of_mem _ hmv)).1
        show 0 ≤ (if ledG many mv.2 g = ledG many (rowM ms n) g then mv.1 else 0)
        split <;> omega
      rcases List.mem_cons.mp hm with e | hm
      · have : rowM ms n = a.2 := by
          rw [← e]
          unfold rowM
          rw [List.getD_eq_getElem?_getD, List.getElem?_eq_getElem hn]
          rfl
        rw [this, if_pos rfl]
        rw [this] at h2
        omega
      · have := ih (fun mv h => ha mv (List.mem_cons_of_mem _ h)) hm
        split <;> omega
  exact key ms G.mv (List.getElem_mem hn)
/-- what is no more than comes to it is nought -/
theorem sub_zero (G : Good many ms) (O : GsOk many ms gs) (meet : ∀ g ∈ gs, Meets many ms g) {u : Nat → Int} (nn : ∀ m, m < gs.length → 0 ≤ u m) (sub : ∀ r, r < gs.length → whole ms * u r ≤ sumN gs.length fun m => pG many ms gs m r * u m) : ∀ m, m < gs.length → u m = 0 := by
  have W0 : 0 < whole ms := by have := whole_posS G; omega
  have tot : sumN gs.length (fun r => (sumN gs.length fun m => pG many ms gs m r * u m) - whole ms * u r) = -(sumN gs.length fun m => if 1 < (gAt gs m).length then 0 else whole ms * u m) := by
    rw [sumN_sub, sumN_swap (fun r m => pG many ms gs m r * u m)]
    have e : (sumN gs.length fun m => sumN gs.length fun r => pG many ms gs m r * u m) = sumN gs.length fun m => (if 1 < (gAt gs m).length then whole ms else 0) * u m := sumN_congr fun m hm => by
      have : (fun r => pG many ms gs m r * u m) = fun r => u m * pG many ms gs m r := funext fun r => Int.mul_comm _ _
      rw [this, sumN_mul, pG_all O hm, Int.mul_comm]
    have e2 : sumN gs.length (fun m => (if 1 < (gAt gs m).length then whole ms else 0) * u m) - sumN gs.length (fun r => whole ms * u r) = -(sumN gs.length fun m => if 1 < (gAt gs m).length then 0 else whole ms * u m) := by
      rw [← sumN_sub]
      have : (fun m => (if 1 < (gAt gs m).length then whole ms else 0) * u m - whole ms * u m) = fun m => (-1) * (if 1 < (gAt gs m).length then 0 else whole ms * u m) := funext fun m => by
        by_cases c : 1 < (gAt gs m).length
        · rw [if_pos c, if_pos c]; omega
        · rw [if_neg c, if_neg c]; omega
      rw [this, sumN_mul]
      omega
    rw [e]
    exact e2
  have t1 : ∀ r, r < gs.length → 0 ≤ (sumN gs.length fun m => pG many ms gs m r * u m) - whole ms * u r := fun r hr => by have := sub r hr; omega
  have t2 : ∀ m, m < gs.length → 0 ≤ (if 1 < (gAt gs m).length then 0 else whole ms * u m) := fun m hm => by
    split
    · exact Int.le_refl 0
    · exact Int.mul_nonneg (by omega) (nn m hm)
  have p1 := sumN_nn t1
  have p2 := sumN_nn t2
  have z1 := sumN_z t1 (by omega)
  have z2 := sumN_z t2 (by omega)
  have single : ∀ m, m < gs.length → ¬ 1 < (gAt gs m).length → u m = 0 := fun m hm c => by
    have := z2 m hm
    rw [if_neg c] at this
    rcases Int.mul_eq_zero.mp this with h | h
    · omega
    · exact h
  have key : ∀ (k : Nat) (r : List Int) (m : Nat), r.length ≤ k → m < gs.length → Valid ms r → (runG many ms (gAt gs m) r).length = 1 → u m = 0 := by
    intro k
    induction k with
    | zero =>
      intro r m hr hm _ h
      have e : r = [] := List.length_eq_zero_iff.mp (by omega)
      subst e
      exact single m hm (by have h' : (gAt gs m).length = 1 := h; omega)
    | succ k ih =>
      intro r m hr hm hv h
      by_cases c : 1 < (gAt gs m).length
      · match r, hr, hv, h with
        | [], _, _, h =>
          have h' : (gAt gs m).length = 1 := h
          omega
        | a :: r, hr, hv, h =>
          obtain ⟨a0, a1⟩ := hv a List.mem_cons_self
          have hn : a.toNat < ms.length := by omega
          rw [runG_cons] at h
          have hmem : ledG many (rowM ms a.toNat) (gAt gs m) ∈ gs := by
            have := O.cl (gAt gs m) (gAt_mem hm) ms[a.toNat] (List.getElem_mem hn)
            have e : rowM ms a.toNat = ms[a.toNat].2 := by
              unfold rowM
              rw [List.getD_eq_getElem?_getD, List.getElem?_eq_getElem hn]
              rfl
            rw [e]
            exact this
          obtain ⟨j, hj, ej⟩ := List.getElem_of_mem hmem
          have ej' : gAt gs j = ledG many (rowM ms a.toNat) (gAt gs m) := gAt_eq (by rw [List.getElem?_eq_getElem hj, ej])
          have uj : u j = 0 := ih r j (by rw [List.length_cons] at hr; omega) hj (fun b hb => hv b (List.mem_cons_of_mem _ hb)) (by rw [ej']; exact h)
          have eq := z1 j hj
          rw [uj, Int.mul_zero, Int.sub_zero] at eq
          have := sumN_z (fun q hq => Int.mul_nonneg (pG_nn G q j) (nn q hq)) eq m hm
          have pp : 0 < pG many ms gs m j := by
            unfold pG
            rw [if_pos c, ej']
            exact cG_pos G hn
          rcases Int.mul_eq_zero.mp this with h | h
          · omega
          · exact h
      · exact single m hm c
  intro m hm
  obtain ⟨r, hv, hl⟩ := meet (gAt gs m) (gAt_mem hm)
  exact key r.length r m (Nat.le_refl _) hm hv hl
def flowA (many : Nat) (ms : List Mv) (gs : List (List Int)) (r m : Nat) : Int := if m = gs.length then (if r = 0 then whole ms else 0) else (if r = m then whole ms else 0) - pG many ms gs m r
theorem flow_row (z : Nat → Int) {r : Nat} (hr : r < gs.length) : sumN gs.length (fun m => flowA many ms gs r m * z m) = whole ms * z r - sumN gs.length fun m => pG many ms gs m r * z m := by
  have e : sumN gs.length (fun m => flowA many ms gs r m * z m) = sumN gs.length fun m => (if m = r then whole ms * z r else 0) - pG many ms gs m r * z m := sumN_congr fun m hm => by
    unfold flowA
    rw [if_neg (by omega)]
    by_cases c : r = m
    · rw [if_pos c, if_pos c.symm, c]; grind
    · rw [if_neg c, if_neg (Ne.symm c)]; grind
  rw [e, sumN_sub, sumN_one (i := r) hr (fun m _ ne => if_neg ne), if_pos rfl]
theorem sumN_abs (f : Nat → Int) : ∀ n : Nat, ((sumN n f).natAbs : Int) ≤ sumN n fun m => ((f m).natAbs : Int)
  | 0 => Int.le_refl 0
  | n + 1 => by
    have := sumN_abs f n
    show ((sumN n f + f n).natAbs : Int) ≤ sumN n (fun m => ((f m).natAbs : Int)) + ((f n).natAbs : Int)
    omega
theorem flow_inj (G : Good many ms) (O : GsOk many ms gs) (meet : ∀ g ∈ gs, Meets many ms g) (z : Nat → Int) (h : ∀ r, r < gs.length → sumN gs.length (fun m => flowA many ms gs r m * z m) = 0) : ∀ m, m < gs.length → z m = 0 := by
  have W1 := whole_posS G
  have := sub_zero G O meet (u := fun m => ((z m).natAbs : Int)) (fun m _ => by omega) fun r hr => by
    have e := h r hr
    rw [flow_row z hr] at e
    have e2 : whole ms * z r = sumN gs.length fun m => pG many ms gs m r * z m := by omega
    have e3 : whole ms * ((z r).natAbs : Int) = ((whole ms * z r).natAbs : Int) := by
      rw [Int.natAbs_mul, Int.natCast_mul]
      congr 1
      omega
    show whole ms * ((z r).natAbs : Int) ≤ _
    rw [e3, e2]
    refine Int.le_trans (sumN_abs _ _) (Int.le_of_eq (sumN_congr fun m _ => ?_))
    have := pG_nn (gs := gs) G m r
    rw [Int.natAbs_mul, Int.natCast_mul]
    congr 1
    omega
  intro m hm
  have := this m hm
  have h' : ((z m).natAbs : Int) = 0 := this
  omega
theorem flow_l1 (G : Good many ms) (O : GsOk many ms gs) : ∀ j, j ≤ gs.length → l1 (List.range gs.length) (colA (flowA many ms gs) j) ≤ 2000 := by
  intro j hj
  have W1 := whole_posS G
  have W2 := whole_leS G
  have h : ((l1 (List.range gs.length) (colA (flowA many ms gs) j) : Nat) : Int) ≤ 2 * whole ms := by
    rw [l1_sum]
    by_cases e : j = gs.length
    · have n0 : 0 < gs.length := (List.getElem?_eq_some_iff.mp O.h0).1
      have : (sumN gs.length fun r => ((colA (flowA many ms gs) j r).natAbs : Int)) = sumN gs.length fun r => if r = 0 then whole ms else 0 := sumN_congr fun r _ => by
        show ((flowA many ms gs r j).natAbs : Int) = _
        unfold flowA
        rw [if_pos e]
        split <;> omega
      rw [this, sumN_one (i := 0) n0 (fun m _ ne => if_neg ne), if_pos rfl]
      omega
    · have hj' : j < gs.length := by omega
      have h1 : (sumN gs.length fun r => ((colA (flowA many ms gs) j r).natAbs : Int)) ≤ sumN gs.length fun r => (if r = j then whole ms else 0) + pG many ms gs j r := sumN_mono fun r _ => by
        show ((flowA many ms gs r j).natAbs : Int) ≤ _
        have p := pG_nn (gs := gs) G j r
        unfold flowA
        rw [if_neg e]
        split <;> omega
      rw [sumN_add, sumN_one (i := j) hj' (fun m _ ne => if_neg ne), if_pos rfl, pG_all O hj'] at h1
      split at h1 <;> omega
  omega
/-- how often one is at each, over one bottom -/
structure StayOk (many : Nat) (ms : List Mv) (gs : List (List Int)) (z : Nat → Int) (t : Int) : Prop where
  pos : 0 < t
  big : t.natAbs ≤ 2000 ^ 63
  bigz : ∀ m, m < gs.length → (z m).natAbs ≤ 2000 ^ 63
  eq : ∀ r, r < gs.length → whole ms * z r = (sumN gs.length fun m => pG many ms gs m r * z m) + if r = 0 then whole ms * t else 0
  nn : ∀ m, m < gs.length → 0 ≤ z m
  sum : (sumN gs.length fun m => if 1 < (gAt gs m).length then 0 else z m) = t
theorem stay_sol (G : Good many ms) (O : GsOk many ms gs) (meet : ∀ g ∈ gs, Meets many ms g) {X : Nat → Int} {d : Int} (d0 : d ≠ 0) (db : d.natAbs ≤ 2000 ^ gs.length) (xb : ∀ m, m < gs.length → (X m).natAbs ≤ 2000 ^ gs.length) (h : ∀ r, r < gs.length → sumN gs.length (fun m => flowA many ms gs r m * X m) = d * flowA many ms gs r gs.length) :
    ∃ (z : Nat → Int) (t : Int), ((t = d ∧ z = X) ∨ (t = -d ∧ z = fun m => -X m)) ∧ StayOk many ms gs z t := by
  have W1 := whole_posS G
  have W0 : 0 < whole ms := by omega
  have pw : (2000 : Nat) ^ gs.length ≤ 2000 ^ 63 := Nat.pow_le_pow_right (by decide) O.len
  have key : ∀ (z : Nat → Int) (t : Int), 0 < t → t.natAbs ≤ 2000 ^ 63 → (∀ m, m < gs.length → (z m).natAbs ≤ 2000 ^ 63) → (∀ r, r < gs.length → sumN gs.length (fun m => flowA many ms gs r m * z m) = t * flowA many ms gs r gs.length) → StayOk many ms gs z t := fun z t t0 tb zb hz => by
    have eq : ∀ r, r < gs.length → whole ms * z r = (sumN gs.length fun m => pG many ms gs m r * z m) + if r = 0 then whole ms * t else 0 := fun r hr => by
      have e := hz r hr
      rw [flow_row z hr] at e
      unfold flowA at e
      rw [if_pos rfl] at e
      by_cases c : r = 0
      · rw [if_pos c] at e ⊢
        rw [Int.mul_comm t] at e
        omega
      · rw [if_neg c] at e ⊢
        rw [Int.mul_zero] at e
        omega
    have nn : ∀ m, m < gs.length → 0 ≤ z m := fun m hm => by
      have := sub_zero G O meet (u := posP fun b => -z b) (fun m _ => posP_nn _ m) (fun r hr => by
        by_cases p : 0 < -z r
        · have e1 : posP (fun b => -z b) r = -z r := if_pos p
          rw [e1]
          have e2 : sumN gs.length (fun m => pG many ms gs m r * (-z m)) ≤ sumN gs.length fun m => pG many ms gs m r * posP (fun b => -z b) m := sumN_mono fun m _ => Int.mul_le_mul_of_nonneg_left (posP_ge (fun b => -z b) m) (pG_nn G m r)
          have e3 : sumN gs.length (fun m => pG many ms gs m r * (-z m)) = -(sumN gs.length fun m => pG many ms gs m r * z m) := by
            have : (fun m => pG many ms gs m r * (-z m)) = fun m => (-1) * (pG many ms gs m r * z m) := funext fun m => by grind
            rw [this, sumN_mul]
            omega
          have e4 := eq r hr
          have e5 : 0 ≤ (if r = 0 then whole ms * t else 0) := by
            split
            · exact Int.mul_nonneg (by omega) (by omega)
            · exact Int.le_refl 0
          rw [Int.mul_neg]
          omega
        · have e1 : posP (fun b => -z b) r = 0 := if_neg p
          rw [e1, Int.mul_zero]
          exact sumN_nn fun m _ => Int.mul_nonneg (pG_nn G m r) (posP_nn _ m)) m hm
      have h2 := posP_ge (fun b => -z b) m
      rw [this] at h2
      have h3 : -z m ≤ 0 := h2
      omega
    refine ⟨t0, tb, zb, eq, nn, ?_⟩
    have s1 : sumN gs.length (fun r => whole ms * z r) = sumN gs.length (fun r => (sumN gs.length fun m => pG many ms gs m r * z m) + if r = 0 then whole ms * t else 0) := sumN_congr eq
    have n0 : 0 < gs.length := (List.getElem?_eq_some_iff.mp O.h0).1
    rw [sumN_add, sumN_swap (fun r m => pG many ms gs m r * z m), sumN_one (f := fun r => if r = 0 then whole ms * t else 0) (i := 0) n0 (fun m _ ne => if_neg ne), if_pos rfl] at s1
    have e : (sumN gs.length fun m => sumN gs.length fun r => pG many ms gs m r * z m) = sumN gs.length fun m => (if 1 < (gAt gs m).length then whole ms else 0) * z m := sumN_congr fun m hm => by
      have : (fun r => pG many ms gs m r * z m) = fun r => z m * pG many ms gs m r := funext fun r => Int.mul_comm _ _
      rw [this, sumN_mul, pG_all O hm, Int.mul_comm]
    rw [e] at s1
    have e2 : sumN gs.length (fun r => whole ms * z r) - sumN gs.length (fun m => (if 1 < (gAt gs m).length then whole ms else 0) * z m) = whole ms * sumN gs.length fun m => if 1 < (gAt gs m).length then 0 else z m := by
      rw [← sumN_sub, ← sumN_mul]
      exact sumN_congr fun m _ => by
        by_cases c : 1 < (gAt gs m).length
        · rw [if_pos c, if_pos c]; omega
        · rw [if_neg c, if_neg c]; omega
    refine Int.eq_of_mul_eq_mul_left (show whole ms ≠ 0 by omega) ?_
    omega
  by_cases dp : 0 < d
  · exact ⟨X, d, .inl ⟨rfl, rfl⟩, key X d dp (by omega) (fun m hm => by have := xb m hm; omega) h⟩
  · refine ⟨fun m => -X m, -d, .inr ⟨rfl, rfl⟩, key _ (-d) (by omega) (by omega) (fun m hm => by have := xb m hm; show (-X m).natAbs ≤ _; omega) fun r hr => ?_⟩
    have : (fun m => flowA many ms gs r m * -X m) = fun m => (-1) * (flowA many ms gs r m * X m) := funext fun m => by grind
    show sumN gs.length (fun m => flowA many ms gs r m * -X m) = _
    rw [this, sumN_mul, h r hr]
    grind
end
section
variable {P : Program} {w : World} {K : PySem.W.Frag} {mg : Str → Option Value} {base : Heap} {C : Addr}
/-! ### _flow -/
/-- rows of numbers: the lists at as, told by f; all new since H0 -/
structure MatW (H0 H : Hp) (R : Addr) (as : List Addr) (n wd : Nat) (f : Nat → Nat → Int) : Prop where
  at_ : H R = some (.lst (as.map V.ref))
  len : as.length = n
  row : ∀ b a, as[b]? = some a → H a = some (.lst (rowV wd (f b)))
  nd : as.Nodup
  new : ∀ a ∈ as, H0 a = none
  newR : H0 R = none
  neR : R ∉ as
theorem MatW.same {H0 H H' : Hp} {R : Addr} {as : List Addr} {n wd : Nat} {f : Nat → Nat → Int} (h : MatW H0 H R as n wd f) (s : Same H H') : MatW H0 H' R as n wd f :=
  ⟨s _ _ h.at_, h.len, fun b a e => s _ _ (h.row b a e), h.nd, h.new, h.newR, h.neR⟩
theorem MatW.congr {H0 H : Hp} {R : Addr} {as : List Addr} {n wd : Nat} {f g : Nat → Nat → Int} (h : MatW H0 H R as n wd f) (e : ∀ b m, b < n → m < wd → f b m = g b m) : MatW H0 H R as n wd g :=
  ⟨h.at_, h.len, fun b a ea => by
    have hb : b < n := by
      have := (List.getElem?_eq_some_iff.mp ea).1
      rw [h.len] at this
      exact this
    rw [h.row b a ea, rowV_congr fun m hm => e b m hb hm], h.nd, h.new, h.newR, h.neR⟩
theorem MatW.put {H0 H : Hp} {R : Addr} {as : List Addr} {n wd : Nat} {f : Nat → Nat → Int} {b e : Nat} {a : Addr} {z : Int} (h : MatW H0 H R as n wd f) (hb : as[b]? = some a) (he : e < wd) :
    MatW H0 (upd H a (.lst ((rowV wd (f b)).set e (.int z)))) R as n wd (fun x y => if x = b ∧ y = e then z else f x y) := by
  have ma := List.mem_of_getElem? hb
  have nRa : R ≠ a := fun q => h.neR (q ▸ ma)
  refine ⟨by rw [upd_ne nRa]; exact h.at_, h.len, fun x c hx => ?_, h.nd, h.new, h.newR, h.neR⟩
  by_cases hx2 : x = b
  · subst hx2
    rw [hb] at hx
    cases hx
    rw [upd_same, rowV_set he]
    congr 3
    funext y
    by_cases hy : y = e
    · rw [if_pos hy, if_pos ⟨rfl, hy⟩]
    · rw [if_neg hy, if_neg (fun q => hy q.2)]
  · have nc : c ≠ a := fun q => hx2 (nd_ix h.nd hx (q ▸ hb))
    rw [upd_ne nc, h.row x c hx]
    congr 3
    funext y
    rw [if_neg (fun q => hx2 q.1)]
theorem MatW.keep {H0 H : Hp} {R : Addr} {as : List Addr} {n wd : Nat} {f : Nat → Nat → Int} {a : Addr} {o : HO} (h : MatW H0 H R as n wd f) (s : Same H0 H) (ma : a ∈ as) : Same H0 (upd H a o) := fun b u e => by
  rw [upd_ne (ne_of_none e (h.new a ma))]
  exact s b u e
theorem MatW.mat {H0 H : Hp} {R : Addr} {as : List Addr} {n : Nat} {f : Nat → Nat → Int} (h : MatW H0 H R as n (n + 1) f) : MatAt H R as n f := ⟨h.at_, h.len, fun i a e => ⟨h.row i a e, fun z => h.neR (z ▸ List.mem_of_getElem? e)⟩⟩
theorem flat_repF {α : Type} : ∀ (n : Nat) (x : α), (List.replicate n [x]).flatten = List.replicate n x
  | 0, _ => rfl
  | n + 1, x => by rw [List.replicate_succ, List.flatten_cons, flat_repF n x, List.replicate_succ]; rfl
theorem rep_rowV (n : Nat) : List.replicate n (V.int 0) = rowV n fun _ => 0 := by
  apply List.ext_getElem?
  intro i
  rw [List.getElem?_replicate]
  by_cases hi : i < n
  · rw [if_pos hi, rowV_get hi]
  · rw [if_neg hi, List.getElem?_eq_none (by rw [rowV_len]; omega)]
/-- groups in a list -/
def GrpsL (H : Hp) (L : Addr) (qs : List Addr) (gs : List (List Int)) : Prop := H L = some (.lst (qs.map V.ref)) ∧ Paired (fun q g => H q = some (.tup (g.map V.int))) qs gs
theorem GrpsL.same {H H' : Hp} {L : Addr} {qs : List Addr} {gs : List (List Int)} (s : Same H H') (h : GrpsL H L qs gs) : GrpsL H' L qs gs := ⟨s _ _ h.1, L2.Paired.mapP h.2 fun _ _ e => s _ _ e⟩
theorem scFl : FnScope ["chain", "groups", "moves", "weight", "total", "rows", "at", "group", "whither", "led", "_"] ["chain", "groups"] (defScope sFlow) := ⟨rfl, rfl, rfl, by decide +kernel, rfl, by decide +kernel, by decide +kernel⟩
def spFl (C : Addr) : Sp := fun vs H Q _ => ∃ (x L : Addr) (many : Nat) (ms : List Mv) (qs : List Addr) (gs : List (List Int)), vs = [.ref x, .ref L] ∧ ChainAt C H x many ms ∧ Good many ms ∧ GrpsL H L qs gs ∧ GsOk many ms gs ∧
  ∀ R as H', Same H H' → MatAt H' R as gs.length (flowA many ms gs) → Q (.ref R) H'
/-- while the column i is written, j moves of it -/
def cT (many : Nat) (ms : List Mv) (j : Nat) (g e : List Int) : Int := sumL (ms.take j) fun mv => if ledG many mv.2 g = e then mv.1 else 0
def flF (many : Nat) (ms : List Mv) (gs : List (List Int)) (i r m : Nat) : Int := if m = gs.length then (if r = 0 then whole ms else 0) else if m < i then flowA many ms gs r m else 0
def flI (many : Nat) (ms : List Mv) (gs : List (List Int)) (i : Nat) (g : List Int) (j r m : Nat) : Int := if m = gs.length then (if r = 0 then whole ms else 0) else if m < i then flowA many ms gs r m else if m = i then (if r = i then whole ms else 0) - cT many ms j g (gAt gs r) else 0
theorem ok_flow {f fL fP fT : Addr} {fd fdL fdP fdT : FuncData} (F : Fun K "_flow" "_flow" sFlow f fd) (DL : Df K mg "led_to" sLedTo ["whither", "group"] fL fdL) (T : ChM K C fP fT fdP fdT) (ml : mg "len" = none) (mSu : mg "sum" = none) (mE : mg "enumerate" = none) (mt : mg "tuple" = none) (ms' : mg "sorted" = none) (mL : mg "list" = none) : FnOk P w K mg base CX0 2 f fd ["chain", "groups"] (spFl C) := by
  have GL : FnOk P w K mg base CX0 1 fL fdL ["whither", "group"] spLed := ok_led DL.F mt ms'
  have GT : FnOk P w K mg base CX0 1 fT fdT ["self"] (spTold C) := ok_told T.FT T.cl T.nV mL
  refine F.ok scFl (fun vs H Q E h => ?_) (fun cdv A outer s H vs Q E hr h => ?_)
  · obtain ⟨x, L, many, ms, qs, gs, rfl, _⟩ := h
    rfl
  · obtain ⟨x, L, many, ms, qs, gs, rfl, hC, G, hG, O, q⟩ := h
    have r1 : Room 1 _ := hr
    have hu5 : (A.deeper (envOfC "_flow" (defScope sFlow) s.heap.objs.size f cdv)).units + 65 < cLine := by
      have := hr.un
      omega
    refine ⟨_, (pss_cons (ps_set (i := 2) scFl.nd rfl (.inl rfl) (pe_meth0 (pv 0) T.cl T.hT GT r1 T.bT .nil pass0))
      (pss_cons (ps_set (i := 4) scFl.nd rfl (.inl rfl) (pe_callB (cr_sum rfl) (by rfl) mSu (by decide +kernel) (pa_cons (pe_lc (own := [("weight", 3), ("_", 10)]) (g := gTup K 2 (gCons (gName 3) (gCons (gName 10) gNil))) (tt := tYes) (te := (tVar 3)) rfl scFl.nd (pi_list (pv 2)) (blkOk_by (N := ["chain", "groups", "moves", "weight", "total", "rows", "at", "group", "whither", "led", "_"]) (sc := defScope sFlow) (by decide +kernel)) (fun _ _ _ _ _ => by exact ((pg_tup rfl (pgs_cons (pg_name (i := 3) scFl.nd rfl (.inl rfl)) (pgs_cons (pg_name (i := 10) scFl.nd rfl (.inl rfl)) pgs_nil))))) (fun _ _ _ _ _ => pts_nil) (fun _ _ _ _ _ => by exact (pv 3))) pa_nil)))
      (pss_cons (ps_setLc (i := 5) (own := [("_", 10)]) (g := gName 10) (tt := tYes) (te := (tOp rRep (tLst (tCons (tC (.int 0)) tNil)) (tOp (rI0 fun i j => .int (i + j)) (tCB (rLenSq K) (tCons (tVar 1) tNil)) (tC (.int 1))))) rfl scFl.nd rfl rfl (sw_true rfl rfl rfl (by decide +kernel)) (pi_list (pv 1)) (blkOk_by (N := ["chain", "groups", "moves", "weight", "total", "rows", "at", "group", "whither", "led", "_"]) (sc := defScope sFlow) (by decide +kernel)) (fun _ _ _ _ _ => by exact (pg_name (i := 10) scFl.nd rfl (.inl rfl))) (fun _ _ _ _ _ => pts_nil) (fun _ _ _ _ _ => by exact (pe_op op_rep (pe_lst (pa_cons pe_int pa_nil)) (pe_op op_add (pe_callB call_len_seq (by rfl) ml PySem.boot_len (pa_cons (pv 1) pa_nil)) pe_int))))
      (pss_cons (ps_asg (pv 4) (pg_sub (pe_ix ix_list (pv 5) pe_int (fun _ _ => rfl)) (pe_un un_neg pe_int) set_list))
      (pss_cons (ps_for PassesOwn.never rfl (pi_enum (by rfl) mE (pa_cons (pv 1) pa_nil)) (pg_tup rfl (pgs_cons (pg_name (i := 6) scFl.nd rfl (.inl rfl)) (pgs_cons (pg_name (i := 7) scFl.nd rfl (.inl rfl)) pgs_nil))) (pss_cons (ps_augS (pe_ix ix_list (pv 5) (pv 6) (fun _ _ => rfl)) (pv 6) pget_list (pv 4) ip_add set_list)
      (pss_one (ps_if (pt_cmpR op_gt (pe_callB call_len_seq (by rfl) ml PySem.boot_len (pa_cons (pv 7) pa_nil)) pe_int (nomark _)) (pss_one (ps_for PassesOwn.never rfl (pi_list (pv 2)) (pg_tup rfl (pgs_cons (pg_name (i := 3) scFl.nd rfl (.inl rfl)) (pgs_cons (pg_name (i := 8) scFl.nd rfl (.inl rfl)) pgs_nil))) (pss_cons (ps_set (i := 9) scFl.nd rfl (.inl rfl) (pe_bm PySem.F.plainAttrs_list PySem.F.slot_list_index PySem.F.type_list_index (mt_indexD hu5) (pv 1) (pa_cons (pe_call GL r1 (by rfl) DL.g DL.F.kp DL.b .nil pass0 (pa_cons (pv 8) (pa_cons (pv 7) pa_nil))) pa_nil)))
      (pss_one (ps_augS (pe_ix ix_list (pv 5) (pv 9) (fun _ _ => rfl)) (pv 6) pget_list (pv 3) ip_sub set_list))))) pss_nil))))
      (pss_one (ps_ret (pv 5)))))))), ?_⟩
    have m6 := G.m6
    have l8 := G.l8
    have lq : qs.length = gs.length := hG.2.length
    have n63 := O.len
    have n0 : 0 < gs.length := (List.getElem?_eq_some_iff.mp O.h0).1
    have lqm : (qs.map V.ref).length = gs.length := by rw [List.length_map, lq]
    obtain ⟨dx, a1, ws1, g1, g2, g3⟩ := id hC
    -- moves
    refine ⟨.ref x, rfl, x, dx, _, rfl, g1, ch_noT, x, many, ms, rfl, hC, fun l wl nl hM => ?_⟩
    have s1 := same_new (o := .lst wl) nl
    have hl1 : (upd H l (.lst wl)) l = some (.lst wl) := upd_same
    have hG1 := hG.same s1
    have lenW := hM.length
    generalize upd H l (.lst wl) = H1 at s1 hl1 hG1 hM ⊢
    -- total
    refine ⟨.ref l, rfl, l, rfl, ⟨_, SqL.of hl1⟩, fun D nD => ?_⟩
    refine lc_list (K := K) (a := l) (xs := wl) (fun i H' => Same H1 H' ∧ H' D = some (.lst (((ms.take i).map (·.1)).map V.int))) ⟨same_new nD, by rw [List.take_zero]; exact upd_same⟩ (fun i H' _ h => SqL.of (h.1 _ _ hl1)) ?_ ?_
    · rintro i v H2 hv ⟨s2, hD⟩
      obtain ⟨mv, em, ta, tb, rfl, hta, htb⟩ := hM.get' hv
      refine ⟨ta, _, rfl, SqT.of (s2 _ _ hta), rfl, .int mv.1, [.ref tb], rfl, .ref tb, [], rfl, rfl, rfl, ?_⟩
      refine ⟨.int mv.1, rfl, _, hD, ?_, fun b o e => by rw [upd_ne (ne_of_none e nD)]; exact s2 _ _ e, ?_⟩
      · rw [List.length_map, List.length_map, List.length_take]
        exact small8 (by omega)
      · rw [upd_same, take_snoc em, List.map_append, List.map_append]
        rfl
    rintro H2 ⟨s2, hD2⟩
    rw [lenW, List.take_length] at hD2
    refine ⟨D, _, rfl, SqL.of hD2, ?_⟩
    have eW : (ms.map (·.1)).sum = whole ms := rfl
    rw [eW]
    have s02 := s1.trans s2
    have hG2 := hG1.same s2
    have hl2 := s2 _ _ hl1
    have hM2 := hM.same (Same.tups s2)
    -- rows
    refine ⟨.ref L, rfl, L, rfl, ⟨_, SqL.of hG2.1⟩, fun R nR => ?_⟩
    refine lc_list (K := K) (a := L) (xs := qs.map V.ref) (fun j H' => Same H2 H' ∧ ∃ as : List Addr, as.length = j ∧ H' R = some (.lst (as.map V.ref)) ∧ (∀ a ∈ as, H' a = some (.lst (rowV (gs.length + 1) fun _ => 0))) ∧ as.Nodup ∧ (∀ a ∈ as, H2 a = none) ∧ R ∉ as)
      ⟨same_new nR, [], rfl, upd_same, (fun _ z => nomatch z), List.nodup_nil, (fun _ z => nomatch z), (fun z => nomatch z)⟩ (fun i H' _ h => SqL.of (h.1 _ _ hG2.1)) ?_ ?_
    · rintro j v H3 hv ⟨s3, as, el, hR, hrow, nd, new, nRa⟩
      have hj : j < gs.length := by
        have := (List.getElem?_eq_some_iff.mp hv).1
        omega
      refine ⟨rfl, (by show 1 ≤ sizeLine; decide), fun z nz => ?_⟩
      have s4 : Same H3 (upd H3 z (.lst [.int 0])) := same_new nz
      refine ⟨.ref L, rfl, L, _, rfl, .inl (SqL.of (s4 _ _ (s3 _ _ hG2.1))), _, _, rfl, rfl, ?_⟩
      refine ⟨z, _, [.int 0], rfl, rfl, upd_same, by omega, by omega, ?_, fun y ny => ?_⟩
      · rw [lqm]
        exact Nat.le_of_lt (Nat.lt_of_le_of_lt (show 1 * (((gs.length : Nat) : Int) + 1).toNat ≤ 1000 by omega) (by decide))
      rw [lqm, show (((gs.length : Nat) : Int) + 1).toNat = gs.length + 1 by omega, flat_repF, rep_rowV]
      have s5 := s4.trans (same_new (o := .lst (rowV (gs.length + 1) fun _ => 0)) ny)
      have hy : (upd (upd H3 z (.lst [.int 0])) y (.lst (rowV (gs.length + 1) fun _ => 0))) y = some (.lst (rowV (gs.length + 1) fun _ => 0)) := upd_same
      have nyR : y ≠ R := fun e => by rw [e, s4 _ _ hR] at ny; cases ny
      have ny3 : H3 y = none := s4.free ny
      generalize upd (upd H3 z (.lst [.int 0])) y (.lst (rowV (gs.length + 1) fun _ => 0)) = H5 at s5 hy ⊢
      refine ⟨_, s5 _ _ hR, by rw [List.length_map, el]; exact Nat.lt_of_le_of_lt (show j ≤ 63 by omega) (by decide), fun b o e => by rw [upd_ne (ne_of_none e nR)]; exact s5 _ _ (s3 _ _ e), as ++ [y], by rw [List.length_append, el]; rfl, by rw [upd_same, List.map_append]; rfl, fun a ha => ?_, ?_, fun a ha => ?_, fun hm => ?_⟩
      · rcases List.mem_append.mp ha with ha | ha
        · rw [upd_ne (fun e => nRa (by rw [← e]; exact ha))]
          exact s5 _ _ (hrow a ha)
        · rw [List.mem_singleton.mp ha, upd_ne nyR]
          exact hy
      · refine List.nodup_append.mpr ⟨nd, by simp, fun a ha b hb e => ?_⟩
        rw [List.mem_singleton.mp hb] at e
        rw [← e, hrow a ha] at ny3
        cases ny3
      · rcases List.mem_append.mp ha with ha | ha
        · exact new a ha
        · rw [List.mem_singleton.mp ha]
          exact s3.free ny3
      · rcases List.mem_append.mp hm with hm | hm
        · exact nRa hm
        · exact nyR (List.mem_singleton.mp hm).symm
    rintro H3 ⟨s3, as, el, hR, hrow, nd, new, nRa⟩
    rw [lqm] at el
    have MW0 : MatW H H3 R as gs.length (gs.length + 1) (fun _ _ => 0) := ⟨hR, el, fun b a e => hrow a (List.mem_of_getElem? e), nd, fun a ha => s02.free (new a ha), s02.free nR, nRa⟩
    have s03 := s02.trans s3
    -- rows[0][-1] = total
    obtain ⟨r0, er0⟩ : ∃ a, as[0]? = some a := ⟨_, List.getElem?_eq_getElem (by omega)⟩
    have gr0 : (as.map V.ref)[0]? = some (.ref r0) := by rw [List.getElem?_map, er0]; rfl
    have hr0 := MW0.row 0 r0 er0
    refine ⟨.int (whole ms), rfl, .ref R, rfl, R, _, 0, _, rfl, rfl, SqL.of hR, atI_nat (j := 0) gr0, 1, rfl, r0, _, -1, gs.length, rfl, rfl, hr0, ?_, ?_⟩
    · rw [rowV_len]
      unfold ixN
      rw [if_neg (by omega), if_pos (by omega)]
      congr 1
      omega
    have MW1 := (MW0.put (z := whole ms) er0 (show gs.length < gs.length + 1 by omega)).congr (g := flF many ms gs 0) fun b m hb hm => by
      unfold flF
      by_cases c : m = gs.length
      · rw [if_pos c]
        by_cases c2 : b = 0
        · rw [if_pos ⟨c2, c⟩, if_pos c2]
        · rw [if_neg (fun z => c2 z.1), if_neg c2]
      · rw [if_neg (fun z => c z.2), if_neg c, if_neg (by omega)]
    have s04 := MW0.keep (o := .lst ((rowV (gs.length + 1) fun _ => 0).set gs.length (.int (whole ms)))) s03 (List.mem_of_getElem? er0)
    have nl0 : ∀ {b o}, H2 b = some o → b ≠ r0 := fun e z => by
      have := new r0 (List.mem_of_getElem? er0)
      rw [← z, e] at this
      cases this
    have hl4 : (upd H3 r0 (.lst ((rowV (gs.length + 1) fun _ => 0).set gs.length (.int (whole ms))))) l = some (.lst wl) := by
      rw [upd_ne (nl0 hl2)]
      exact s3 _ _ hl2
    have hM4 : MovesAt (upd H3 r0 (.lst ((rowV (gs.length + 1) fun _ => 0).set gs.length (.int (whole ms))))) wl ms := hM2.same fun b xs e => by
      rw [upd_ne (nl0 e)]
      exact s3 _ _ e
    have nlas : l ∉ as := fun z => by
      have := new l z
      rw [hl2] at this
      cases this
    generalize upd H3 r0 (.lst ((rowV (gs.length + 1) fun _ => 0).set gs.length (.int (whole ms)))) = H4 at MW1 s04 hl4 hM4 ⊢
    have hG4 := hG.same s04
    -- the groups
    refine ⟨.ref L, rfl, L, _, rfl, SqL.of hG4.1, ?_⟩
    refine for_it (walk_enum (K := K) (a := L) (xs := qs.map V.ref)) (fun i σ H' => ∃ y3 y6 y7 y8 y9, σ = [some (.ref x), some (.ref L), some (.ref l), y3, some (.int (whole ms)), some (.ref R), y6, y7, y8, y9, none] ∧ Same H H' ∧ H' l = some (.lst wl) ∧ MovesAt H' wl ms ∧ MatW H H' R as gs.length (gs.length + 1) (flF many ms gs i))
      ⟨none, none, none, none, none, rfl, s04, hl4, hM4, MW1⟩ (fun i σ H' _ ⟨_, _, _, _, _, _, s, _⟩ => SqL.of (s _ _ hG.1)) ?_ ?_
    · rintro i z σ H5 H6 hi ⟨y3, y6, y7, y8, y9, rfl, s5, hl5, hM5, MW5⟩ ⟨Tp, u, v, rfl, nT, rfl, eu, ev⟩
      have hi' : i < gs.length := by omega
      obtain ⟨g, eg⟩ : ∃ g, gs[i]? = some g := ⟨_, List.getElem?_eq_getElem hi'⟩
      have ega : gAt gs i = g := gAt_eq eg
      have hgm := List.mem_of_getElem? eg
      have eu' : some (V.int (i : Int)) = some u := eu
      have ev' : (qs.map V.ref)[i]? = some v := ev
      cases eu'
      rw [List.getElem?_map] at ev'
      obtain ⟨qa, eqa, rfl⟩ := Option.map_eq_some_iff.mp ev'
      obtain ⟨g', eg', hqa⟩ := paired_getL hG.2 eqa
      rw [eg] at eg'
      cases eg'
      have sT := same_new (o := .tup [.int (i : Int), .ref qa]) nT
      refine ⟨Tp, [.int (i : Int), .ref qa], rfl, SqT.of upd_same, rfl, .int (i : Int), [.ref qa], rfl, .ref qa, [], rfl, rfl, ?_⟩
      have s6 := s5.trans sT
      have MW6 := MW5.same sT
      have hl6 := sT _ _ hl5
      have hM6 := hM5.same (Same.tups sT)
      generalize upd H5 Tp (.tup [.int (i : Int), .ref qa]) = H6 at s6 MW6 hl6 hM6 ⊢
      obtain ⟨ri, eri⟩ : ∃ a, as[i]? = some a := ⟨as[i]'(by omega), List.getElem?_eq_getElem (by omega)⟩
      have gri : (as.map V.ref)[i]? = some (.ref ri) := by rw [List.getElem?_map, eri]; rfl
      have mri := List.mem_of_getElem? eri
      have hri := MW6.row i ri eri
      have gz : (rowV (gs.length + 1) (flF many ms gs i i))[i]? = some (.int 0) := by
        rw [rowV_get (by omega)]
        unfold flF
        rw [if_neg (by omega), if_neg (by omega)]
      -- rows[at][at] += total
      refine ⟨.ref R, rfl, .int (i : Int), rfl, R, _, (i : Int), _, rfl, rfl, SqL.of MW6.at_, atI_nat gri, .int (i : Int), rfl, ?_⟩
      refine ⟨ri, _, (i : Int), _, rfl, rfl, SqL.of hri, atI_nat gz, .int (whole ms), rfl, _, _, rfl, rfl, ri, _, (i : Int), i, rfl, rfl, hri, ?_, ?_⟩
      · rw [rowV_len]
        unfold ixN
        rw [if_pos (by omega), if_pos (by omega)]
        rfl
      have MW7 := (MW6.put (z := 0 + whole ms) eri (show i < gs.length + 1 by omega)).congr (g := flI many ms gs i g 0) fun b m hb hm => by
        unfold flI flF cT
        rw [List.take_zero, sumL_nil]
        by_cases c : m = gs.length
        · rw [if_pos c, if_neg (by omega), if_pos c]
        · rw [if_neg c]
          by_cases c2 : m < i
          · rw [if_pos c2, if_neg (by omega), if_neg c, if_pos c2]
          · rw [if_neg c2]
            by_cases c3 : m = i
            · rw [if_pos c3]
              by_cases c4 : b = i
              · rw [if_pos ⟨c4, c3⟩, if_pos c4]; omega
              · rw [if_neg (fun z => c4 z.1), if_neg c, if_neg c2, if_neg c4]; rfl
            · rw [if_neg c3, if_neg (fun z => c3 z.2), if_neg c, if_neg c2]
      have s7 := MW6.keep (o := .lst ((rowV (gs.length + 1) (flF many ms gs i i)).set i (.int (0 + whole ms)))) s6 mri
      have nlr : l ≠ ri := fun z => nlas (z ▸ mri)
      have hl7 : (upd H6 ri (.lst ((rowV (gs.length + 1) (flF many ms gs i i)).set i (.int (0 + whole ms))))) l = some (.lst wl) := by
        rw [upd_ne nlr]
        exact hl6
      have hM7 : MovesAt (upd H6 ri (.lst ((rowV (gs.length + 1) (flF many ms gs i i)).set i (.int (0 + whole ms))))) wl ms := hM6.same fun b xs e => by
        rw [upd_ne (fun z => by rw [z, hri] at e; cases e)]
        exact e
      generalize upd H6 ri (.lst ((rowV (gs.length + 1) (flF many ms gs i i)).set i (.int (0 + whole ms)))) = H7 at MW7 s7 hl7 hM7 ⊢
      have hqa7 := s7 _ _ hqa
      -- len(group) > 1
      refine ⟨.ref qa, rfl, qa, _, rfl, .inr (SqT.of hqa7), _, _, rfl, rfl, _, rfl, ite2 (fun c => ?_) (fun c => ?_)⟩
      · have c1 : 1 < g.length := by
          have : (1 : Int) < (((g.map V.int).length : Nat) : Int) := of_decide_eq_true c
          rw [List.length_map] at this
          omega
        refine ⟨.ref l, rfl, l, rfl, ⟨_, SqL.of hl7⟩, ?_⟩
        refine for_list (K := K) (a := l) (xs := wl) (fun j σ H' => ∃ y3 y8 y9, σ = [some (.ref x), some (.ref L), some (.ref l), y3, some (.int (whole ms)), some (.ref R), some (.int (i : Int)), some (.ref qa), y8, y9, none] ∧ Same H H' ∧ H' l = some (.lst wl) ∧ MovesAt H' wl ms ∧ MatW H H' R as gs.length (gs.length + 1) (flI many ms gs i g j))
          ⟨y3, y8, y9, rfl, s7, hl7, hM7, MW7⟩ (fun j σ H' _ ⟨_, _, _, _, _, h, _⟩ => SqL.of h) ?_ ?_
        · rintro j v σ H8 hv ⟨y3, y8, y9, rfl, s8, hl8, hM8, MW8⟩
          obtain ⟨mv, emv, ta, tb, rfl, hta, htb⟩ := hM8.get' hv
          have gm := G.mv mv (List.mem_of_getElem? emv)
          have hqa8 := s8 _ _ hqa
          refine ⟨ta, _, rfl, SqT.of hta, rfl, .int mv.1, [.ref tb], rfl, .ref tb, [], rfl, rfl, ?_⟩
          -- led
          refine ⟨.ref L, rfl, .inl ⟨rfl, _, SqL.of (s8 _ _ hG.1)⟩, .ref tb, rfl, .ref qa, rfl, ?_⟩
          refine ⟨tb, qa, many, mv.2, g, rfl, htb, hqa8, m6, gm.2.2, O.good g hgm, fun L2 H9 s9 nL2 hL2 => ?_⟩
          obtain ⟨e', he', ee'⟩ := List.getElem_of_mem (O.cl g hgm mv (List.mem_of_getElem? emv))
          have ge' : gs[e']? = some (ledG many mv.2 g) := by rw [List.getElem?_eq_getElem he', ee']
          have gae' : gAt gs e' = ledG many mv.2 g := gAt_eq ge'
          have hG9 := (hG.same s8).same s9
          have tg9 : Paired (TupG H9) (qs.map V.ref) gs := by
            have : ∀ {qs : List Addr} {gs : List (List Int)}, Paired (fun q g => H9 q = some (.tup (g.map V.int))) qs gs → Paired (TupG H9) (qs.map V.ref) gs := by
              intro qs gs h
              induction h with
              | nil => exact .nil
              | cons h _ ih => exact .cons ⟨_, rfl, h⟩ ih
            exact this hG9.2
          refine ⟨L, .ref L2, _, _, e', .tuple ((ledG many mv.2 g).map PyData.int), rfl, rfl, .lst (SqL.of hG9.1) (dp_tups tg9), dp_tup hL2, (Sh.tups gs).shaped (by decide), (Sh.tuple (n := 0) (Sh.ints _)).shaped (by decide), by rw [List.getElem?_map, ge']; rfl, by rw [eqv_tupI, decide_eq_true rfl], fun m z' hm hz' => ?_, ?_⟩
          · rw [List.getElem?_map] at hz'
            obtain ⟨g2, eg2, rfl⟩ := Option.map_eq_some_iff.mp hz'
            rw [eqv_tupI]
            refine decide_eq_false fun e => ?_
            have hml := (List.getElem?_eq_some_iff.mp eg2).1
            have := gAt_inj O.nd hml he' (by rw [gAt_eq eg2, gae', e])
            omega
          -- rows[led][at] -= weight
          have MW9 := MW8.same s9
          have s09 := s8.trans s9
          obtain ⟨re, ere⟩ : ∃ a, as[e']? = some a := ⟨as[e']'(by omega), List.getElem?_eq_getElem (by omega)⟩
          have gre : (as.map V.ref)[e']? = some (.ref re) := by rw [List.getElem?_map, ere]; rfl
          have mre := List.mem_of_getElem? ere
          have hre := MW9.row e' re ere
          have gz2 : (rowV (gs.length + 1) (flI many ms gs i g j e'))[i]? = some (.int ((if e' = i then whole ms else 0) - cT many ms j g (gAt gs e'))) := by
            rw [rowV_get (by omega)]
            unfold flI
            rw [if_neg (by omega), if_neg (by omega), if_pos rfl]
          refine ⟨.ref R, rfl, .int (e' : Int), rfl, R, _, (e' : Int), _, rfl, rfl, SqL.of MW9.at_, atI_nat gre, .int (i : Int), rfl, ?_⟩
          refine ⟨re, _, (i : Int), _, rfl, rfl, SqL.of hre, atI_nat gz2, .int mv.1, rfl, _, _, rfl, rfl, re, _, (i : Int), i, rfl, rfl, hre, ?_, ?_⟩
          · rw [rowV_len]
            unfold ixN
            rw [if_pos (by omega), if_pos (by omega)]
            rfl
          have ct : ∀ e, cT many ms (j + 1) g e = cT many ms j g e + if ledG many mv.2 g = e then mv.1 else 0 := fun e => by
            unfold cT
            rw [take_snoc emv, sumL_app, sumL_cons, sumL_nil]
            omega
          have MW10 := (MW9.put (z := (if e' = i then whole ms else 0) - cT many ms j g (gAt gs e') - mv.1) ere (show i < gs.length + 1 by omega)).congr (g := flI many ms gs i g (j + 1)) fun b m hb hm => by
            unfold flI
            by_cases c : m = gs.length
            · rw [if_neg (by omega), if_pos c, if_pos c]
            · rw [if_neg c]
              by_cases c2 : m < i
              · rw [if_neg (by omega), if_neg c, if_pos c2, if_pos c2]
              · rw [if_neg c2]
                by_cases c3 : m = i
                · rw [if_pos c3, ct]
                  by_cases c4 : b = e'
                  · rw [if_pos ⟨c4, c3⟩, c4, if_pos gae'.symm]; omega
                  · rw [if_neg (fun z => c4 z.1), if_neg c, if_neg c2, if_pos c3, if_neg (show ¬ ledG many mv.2 g = gAt gs b from fun z => c4 (gAt_inj O.nd hb he' (by rw [gae', z]))), Int.add_zero]
                · rw [if_neg c3, if_neg (fun z => c3 z.2), if_neg c, if_neg c2, if_neg c3]
          have nlr2 : l ≠ re := fun z => nlas (z ▸ mre)
          refine ⟨_, _, _, rfl, MW9.keep s09 mre, ?_, ?_, MW10⟩
          · rw [upd_ne nlr2]
            exact s9 _ _ hl8
          · refine (hM8.same (Same.tups s9)).same fun b xs e => ?_
            rw [upd_ne (fun z => by rw [z, hre] at e; cases e)]
            exact e
        · rintro σ H8 ⟨y3, y8, y9, rfl, s8, hl8, hM8, MW8⟩
          rw [lenW] at MW8
          refine ⟨_, _, _, _, _, rfl, s8, hl8, hM8, MW8.congr fun b m hb hm => ?_⟩
          unfold flI flF
          by_cases c : m = gs.length
          · rw [if_pos c, if_pos c]
          · rw [if_neg c, if_neg c]
            by_cases c2 : m < i
            · rw [if_pos c2, if_pos (show m < i + 1 by omega)]
            · rw [if_neg c2]
              by_cases c3 : m = i
              · rw [if_pos c3, if_pos (show m < i + 1 by omega)]
                unfold flowA pG cT cG
                rw [if_neg c, c3, ega, if_pos c1, List.take_length]
              · rw [if_neg c3, if_neg (show ¬ m < i + 1 by omega)]
      · have c1 : ¬ 1 < g.length := fun z => c (decide_eq_true (by rw [List.length_map]; omega))
        refine ⟨_, _, _, _, _, rfl, s7, hl7, hM7, MW7.congr fun b m hb hm => ?_⟩
        unfold flI flF
        by_cases c0 : m = gs.length
        · rw [if_pos c0, if_pos c0]
        · rw [if_neg c0, if_neg c0]
          by_cases c2 : m < i
          · rw [if_pos c2, if_pos (show m < i + 1 by omega)]
          · rw [if_neg c2]
            by_cases c3 : m = i
            · rw [if_pos c3, if_pos (show m < i + 1 by omega)]
              unfold flowA pG cT
              rw [if_neg c0, c3, ega, if_neg c1, List.take_zero, sumL_nil]
            · rw [if_neg c3, if_neg (show ¬ m < i + 1 by omega)]
    · rintro σ H5 ⟨y3, y6, y7, y8, y9, rfl, s5, hl5, hM5, MW5⟩
      rw [lqm] at MW5
      have MW6 := MW5.congr (g := flowA many ms gs) fun b m hb hm => by
        unfold flF
        by_cases c : m = gs.length
        · rw [if_pos c]
          unfold flowA
          rw [if_pos c]
        · rw [if_neg c, if_pos (by omega)]
      exact ⟨.ref R, rfl, q R as H5 s5 MW6.mat⟩
end
section
/-! ### the groups that walks from all places come to -/
def gsOf (many : Nat) (ms : List Mv) : List (List Int) := keysG (gf many ms (ids many))
theorem ids_ne {many : Nat} (m1 : 1 ≤ many) : ids many ≠ [] := fun z => by
  have := congrArg List.length z
  unfold ids at this
  rw [List.length_map, List.length_range] at this
  simp at this
  omega
theorem gs_ne {many : Nat} {ms : List Mv} (G : Good many ms) : ∀ g ∈ gsOf many ms, g ≠ [] := fun g hg => by
  obtain ⟨p, hp, rfl⟩ := List.mem_map.mp hg
  obtain ⟨e, hv⟩ := gf_row p hp
  rw [← e]
  exact runG_ne G.mv (ids_good many) (fun z hz => hv z hz) (ids_ne G.m1)
theorem gs_ok {many : Nat} {ms : List Mv} (G : Good many ms) : GsOk many ms (gsOf many ms) := by
  have m6 := G.m6
  have nd : (gsOf many ms).Nodup := bfsN_nodup many ms (ids many) 64
  have good : ∀ g ∈ gsOf many ms, goodG many g := fun g hg => by
    obtain ⟨p, hp, rfl⟩ := List.mem_map.mp hg
    exact bfsN_good (ids_good many) 64 p hp
  refine ⟨nd, good, gs_ne G, ?_, fun g hg mv hm => ?_, ?_⟩
  · unfold gsOf keysG
    rw [List.getElem?_map, gf_begin]
    rfl
  · obtain ⟨n, hn, e⟩ := List.getElem_of_mem hm
    have := gf_closed (ids_good many) m6 hg (n := n) hn
    have e2 : rowM ms n = mv.2 := by
      unfold rowM
      rw [List.getD_eq_getElem?_getD, List.getElem?_eq_getElem hn, e]
      rfl
    rw [e2] at this
    exact this
  · have h := pigeon (l := [] :: gsOf many ms) (m := subs (ids many)) (List.nodup_cons.mpr ⟨fun h => gs_ne G _ h rfl, nd⟩) fun g hg => by
      rcases List.mem_cons.mp hg with rfl | hg
      · exact mem_subs (ids_pair many) List.Pairwise.nil (fun _ z => nomatch z)
      · obtain ⟨g1, g2⟩ := good g hg
        exact mem_subs (ids_pair many) g1 fun k hk => mem_ids.mpr (g2 k hk)
    have e : (ids many).length = many := by
      unfold ids
      rw [List.length_map, List.length_range]
    rw [subs_len, List.length_cons, e] at h
    have : 2 ^ many ≤ 2 ^ 6 := Nat.pow_le_pow_right (by decide) m6
    omega
theorem gs_meet {many : Nat} {ms : List Mv} (G : Good many ms) (h : firstApart many ms = none) : ∀ g ∈ gsOf many ms, Meets many ms g := fun g hg => by
  have O := gs_ok G
  have all := (rowTo_meets (ids_good many) G.m6).mp (apart_none G.mv G.m6 G.m1 h)
  exact Meets.sub G.mv (ids_good many) (O.good g hg) (O.ne g hg) (fun x hx => mem_ids.mpr ((O.good g hg).2 x hx)) all
def keysK (gs : List (List Int)) : List (List Key) := gs.map fun g => g.map (Sum.inl (β := Str))
theorem keyI_injK {g h : List Int} (e : g.map (Sum.inl (β := Str)) = h.map Sum.inl) : g = h := List.map_inj_right (fun _ _ e => Sum.inl.inj e) |>.mp e
theorem keysK_nd {gs : List (List Int)} (nd : gs.Nodup) : (keysK gs).Nodup := List.pairwise_map.mpr (List.Pairwise.imp (fun {a b} n e => n (keyI_injK e)) nd)
theorem kv_keys {H : Hp} : ∀ {kvs : List (List Key × V)} {l : List GR}, Paired (KvAt H) kvs l → kvs.map (·.1) = keysK (keysG l)
  | _, _, .nil => rfl
  | kv :: kvs, p :: l, .cons h r => by
    have ih := kv_keys r
    show kv.1 :: kvs.map (·.1) = p.1.map (Sum.inl (β := Str)) :: keysK (keysG l)
    rw [ih, h.1]
theorem tups_of {H : Hp} : ∀ {L : List (Addr × List Int)}, (∀ q ∈ L, H q.1 = some (.tup (q.2.map V.int))) → Paired (fun q g => H q = some (.tup (g.map V.int))) (L.map (·.1)) (L.map (·.2))
  | [], _ => .nil
  | q :: L, h => .cons (h q List.mem_cons_self) (tups_of fun z hz => h z (List.mem_cons_of_mem _ hz))
theorem tups_keys {H : Hp} : ∀ {qs : List Addr} {gs : List (List Int)}, Paired (fun q g => H q = some (.tup (g.map V.int))) qs gs → Paired (fun q k => H q = some (.tup (k.map kV))) qs (keysK gs)
  | _, _, .nil => .nil
  | _, _, .cons h r => .cons (by rw [List.map_map]; exact h) (tups_keys r)
end
section
variable {P : Program} {w : World} {K : PySem.W.Frag} {mg : Str → Option Value} {base : Heap} {C : Addr}
/-! ### _stays -/
theorem scSs : FnScope ["chain", "groups"] ["chain"] (defScope sStays) := ⟨rfl, rfl, rfl, by decide +kernel, rfl, by decide +kernel, by decide +kernel⟩
def spSs (C : Addr) : Sp := fun vs H Q _ => ∃ (x : Addr) (many : Nat) (ms : List Mv), vs = [.ref x] ∧ ChainAt C H x many ms ∧ Good many ms ∧ firstApart many ms = none ∧
  ∀ D us z t H', Same H H' → H D = none → H' D = some (.dT ((keysK (gsOf many ms)).zip us)) → FracsAt H' us (gsOf many ms).length (fun m => frac (z m) t) → StayOk many ms (gsOf many ms) z t → Q (.ref D) H'
theorem ok_stays {f fW fG fE fS fF fP fT : Addr} {fd fdW fdG fdE fdS fdF fdP fdT : FuncData} (F : Fun K "_stays" "_stays" sStays f fd) (DWm : Df K mg "want_meeting" sWantMeeting ["chain"] fW fdW) (GWm : FnOk P w K mg base CX0 5 fW fdW ["chain"] (spWm C))
    (DG : Df K mg "groups_from" sGroupsFrom ["moves", "begin"] fG fdG) (GG : FnOk P w K mg base CX0 2 fG fdG ["moves", "begin"] spGf) (DEv : Df K mg "everywhere" sEverywhere ["chain"] fE fdE) (GEv : FnOk P w K mg base CX0 2 fE fdE ["chain"] (spEv C))
    (DSv : Df K mg "solved" sSolved ["equations"] fS fdS) (GSv : FnOk P w K mg base CX0 2 fS fdS ["equations"] spSv) (DFl : Df K mg "_flow" sFlow ["chain", "groups"] fF fdF) (GFl : FnOk P w K mg base CX0 2 fF fdF ["chain", "groups"] (spFl C)) (T : ChM K C fP fT fdP fdT)
    (mL : mg "list" = none) (mD : mg "dict" = none) (mZ : mg "zip" = none) : FnOk P w K mg base CX0 6 f fd ["chain"] (spSs C) := by
  have GT : FnOk P w K mg base CX0 1 fT fdT ["self"] (spTold C) := ok_told T.FT T.cl T.nV mL
  refine F.ok scSs (fun vs H Q E h => ?_) (fun cdv A outer s H vs Q E hr h => ?_)
  · obtain ⟨x, many, ms, rfl, _⟩ := h
    rfl
  · obtain ⟨x, many, ms, rfl, hC, G, hf, q⟩ := h
    have hu := hu64 hr
    have r1 : Room 1 _ := hr.mono (by decide)
    have r2 : Room 2 _ := hr.mono (by decide)
    have r5 : Room 5 _ := hr
    refine ⟨_, (pss_cons (ps_expr (pe_call GWm r5 (by rfl) DWm.g DWm.F.kp DWm.b .nil pass0 (pa_cons (pv 0) pa_nil)))
      (pss_cons (ps_set (i := 1) scSs.nd rfl (.inl rfl) (pe_callTy (cr_listD rfl) (by rfl) mL (by decide +kernel) (pa_cons (pe_call GG r2 (by rfl) DG.g DG.F.kp DG.b .nil pass0 (pa_cons (pe_meth0 (pv 0) T.cl T.hT GT r1 T.bT .nil pass0) (pa_cons (pe_call GEv r2 (by rfl) DEv.g DEv.F.kp DEv.b .nil pass0 (pa_cons (pv 0) pa_nil)) pa_nil))) pa_nil)))
      (pss_one (ps_ret (pe_dictZip hu (by rfl) mD (by rfl) mZ (pa_cons (pv 1) (pa_cons (pe_call GSv r2 (by rfl) DSv.g DSv.F.kp DSv.b .nil pass0 (pa_cons (pe_call GFl r2 (by rfl) DFl.g DFl.F.kp DFl.b .nil pass0 (pa_cons (pv 0) (pa_cons (pv 1) pa_nil))) pa_nil)) pa_nil))))))), ?_⟩
    have m6 := G.m6
    have l8 := G.l8
    have O := gs_ok G
    have meet := gs_meet G hf
    refine ⟨.ref x, rfl, x, many, ms, rfl, hC, G, hf, fun H1 s1 => ?_⟩
    have hC1 := hC.same s1
    obtain ⟨dx, a1, ws0, h1, h2, h3⟩ := id hC1
    refine ⟨.ref x, rfl, x, dx, _, rfl, h1, ch_noT, x, many, ms, rfl, hC1, fun m wl nm hM => ?_⟩
    have s2 := same_new (o := .lst wl) nm
    have hm2 : (upd H1 m (.lst wl)) m = some (.lst wl) := upd_same
    have hC2 := hC1.same s2
    generalize upd H1 m (.lst wl) = H2 at s2 hm2 hM hC2 ⊢
    refine ⟨.ref x, rfl, x, many, ms, rfl, hC2, G, fun e H3 s3 he => ?_⟩
    refine ⟨m, e, many, wl, ms, ids many, rfl, s3 _ _ hm2, hM.same (Same.tups s3), G.mv, l8, m6, he, ids_good many, fun D H4 s4 nD ⟨kvs, hD, pk⟩ => ?_⟩
    have s14 := ((s1.trans s2).trans s3).trans s4
    have hk : kvs.map (·.1) = keysK (gsOf many ms) := kv_keys pk
    have n63 := O.len
    clear pk
    refine ⟨D, kvs, gsOf many ms, rfl, hD, hk, by omega, fun L p hL eL np => ?_⟩
    have s5 := same_new (o := .lst (L.map fun q => V.ref q.1)) np
    have pT : Paired (fun q g => H4 q = some (.tup (g.map V.int))) (L.map (·.1)) (gsOf many ms) := by
      rw [← eL]
      exact tups_of hL
    have hp : (upd H4 p (.lst (L.map fun q => V.ref q.1))) p = some (.lst ((L.map (·.1)).map V.ref)) := by
      rw [upd_same, List.map_map]
      rfl
    have hG : GrpsL (upd H4 p (.lst (L.map fun q => V.ref q.1))) p (L.map (·.1)) (gsOf many ms) := ⟨hp, L2.Paired.mapP pT fun _ _ e => s5 _ _ e⟩
    have hC5 := hC.same (s14.trans s5)
    clear hp pT hk hD eL hL
    generalize gsOf many ms = gs at O meet hG n63 q ⊢
    generalize upd H4 p (.lst (L.map fun q => V.ref q.1)) = H5 at s5 hG hC5 ⊢
    generalize L.map (·.1) = qs at hG ⊢
    refine ⟨.ref p, rfl, .ref x, rfl, .ref p, rfl, x, p, many, ms, qs, gs, rfl, hC5, G, hG, O, fun R as H6 s6 hM6 => ?_⟩
    refine ⟨R, as, gs.length, _, rfl, hM6, by omega, fun z h => flow_inj G O meet z h, flow_l1 G O, fun S us d X H7 s7 hS d0 db xb sol lu hus => ?_⟩
    obtain ⟨z, t, hzt, ok⟩ := stay_sol G O meet d0 db xb sol
    have hG7 := hG.same (s6.trans s7)
    refine ⟨p, S, qs, keysK gs, us, rfl, SqL.of hG7.1, SqL.of hS, tups_keys hG7.2, keysK_nd O.nd, by rw [lu]; unfold keysK; rw [List.length_map], by unfold keysK; rw [List.length_map]; omega, fun D2 nD2 => ?_⟩
    have s8 := same_new (o := .dT ((keysK gs).zip us)) nD2
    refine q D2 us z t _ ((s14.trans s5).trans ((s6.trans s7).trans s8)) ((s14.trans s5).free ((s6.trans s7).free nD2)) upd_same ?_ ok
    refine FracsAt.mono (H := H7) ⟨lu, fun m u e => ?_⟩ fun b xs e => s8 _ _ e
    have h := hus m u e
    have t0 := ok.pos
    rcases hzt with ⟨e1, e2⟩ | ⟨e1, e2⟩
    · rw [e1, e2]
      rw [e1] at t0
      rw [fracZ_pos t0] at h
      exact h
    · rw [e1, e2]
      have e3 : fracZ (X m) d = frac (-X m) (-d) := if_pos (by omega)
      rw [e3] at h
      exact h
end
section
/-! ### values of a dict that is made of two lists -/
theorem valV_at : ∀ {gs : List (List Int)} {us : List V} {m : Nat} {g : List Int}, gs.Nodup → us.length = gs.length → gs[m]? = some g → valV ((keysK gs).zip us) (g.map (Sum.inl (β := Str))) = us[m]?
  | g' :: gs, u :: us, 0, g, nd, hl, e => by
    cases e
    show ((List.find? _ ((g'.map Sum.inl, u) :: (keysK gs).zip us)).map (·.2)) = _
    rw [List.find?_cons, decide_eq_true rfl]
    rfl
  | g' :: gs, u :: us, m + 1, g, nd, hl, e => by
    obtain ⟨n1, n2⟩ := List.nodup_cons.mp nd
    have e' : gs[m]? = some g := e
    have ne : ¬ g'.map (Sum.inl (β := Str)) = g.map Sum.inl := fun z => n1 (by rw [keyI_injK z]; exact List.mem_of_getElem? e')
    have ih := valV_at n2 (us := us) (by simpa using hl) e'
    show ((List.find? _ ((g'.map Sum.inl, u) :: (keysK gs).zip us)).map (·.2)) = us[m]?
    rw [List.find?_cons, decide_eq_false ne]
    exact ih
  | [], _, _, _, _, _, e => by simp at e
  | _ :: _, [], _, _, _, h, _ => nomatch h
theorem valV_no : ∀ {gs : List (List Int)} {us : List V} {g : List Int}, g ∉ gs → valV ((keysK gs).zip us) (g.map (Sum.inl (β := Str))) = none
  | [], _, _, _ => rfl
  | _ :: _, [], _, _ => rfl
  | g' :: gs, u :: us, g, h => by
    have ne : ¬ g'.map (Sum.inl (β := Str)) = g.map Sum.inl := fun z => h (by rw [keyI_injK z]; exact List.mem_cons_self)
    have ih := valV_no (us := us) (fun z => h (List.mem_cons_of_mem g' z))
    show ((List.find? _ ((g'.map Sum.inl, u) :: (keysK gs).zip us)).map (·.2)) = none
    rw [List.find?_cons, decide_eq_false ne]
    exact ih
/-- how often one is at p alone -/
def zP (gs : List (List Int)) (z : Nat → Int) (p : Nat) : Int := sumN gs.length fun m => if gAt gs m = [(p : Int)] then z m else 0
theorem zP_at {gs : List (List Int)} {z : Nat → Int} {p m : Nat} (nd : gs.Nodup) (e : gs[m]? = some [(p : Int)]) : zP gs z p = z m := by
  have hm := (List.getElem?_eq_some_iff.mp e).1
  unfold zP
  rw [sumN_one (i := m) hm (fun j hj ne => if_neg fun h => ne (gAt_inj nd hj hm (by rw [h, gAt_eq e]))), if_pos (gAt_eq e)]
theorem zP_no {gs : List (List Int)} {z : Nat → Int} {p : Nat} (h : [(p : Int)] ∉ gs) : zP gs z p = 0 := sumN_none fun m hm => if_neg fun e => h (by rw [← e]; exact gAt_mem hm)
end
section
variable {P : Program} {w : World} {K : PySem.W.Frag} {mg : Str → Option Value} {base : Heap} {C : Addr}
/-! ### first_met -/
theorem scFm : FnScope ["chain", "stays", "place"] ["chain"] (defScope sFirstMet) := ⟨rfl, rfl, rfl, by decide +kernel, rfl, by decide +kernel, by decide +kernel⟩
def spFm (C : Addr) : Sp := fun vs H Q _ => ∃ (x : Addr) (many : Nat) (ms : List Mv), vs = [.ref x] ∧ ChainAt C H x many ms ∧ Good many ms ∧ firstApart many ms = none ∧
  ∀ S us z t H', Same H H' → H' S = some (.lst us) → FracsAt H' us many (fun p => frac (zP (gsOf many ms) z p) t) → StayOk many ms (gsOf many ms) z t → Q (.ref S) H'
theorem ok_firstmet {f fS fP fT : Addr} {fd fdS fdP fdT : FuncData} (F : Fun K "first_met" "first_met" sFirstMet f fd) (DSs : Df K mg "_stays" sStays ["chain"] fS fdS) (GSs : FnOk P w K mg base CX0 6 fS fdS ["chain"] (spSs C)) (T : ChM K C fP fT fdP fdT) (mr : mg "range" = none) : FnOk P w K mg base CX0 7 f fd ["chain"] (spFm C) := by
  have GP : FnOk P w K mg base CX0 1 fP fdP ["self"] (spPlaces C) := ok_places T.FP T.cl T.nM
  refine F.ok scFm (fun vs H Q E h => ?_) (fun cdv A outer s H vs Q E hr h => ?_)
  · obtain ⟨x, many, ms, rfl, _⟩ := h
    rfl
  · obtain ⟨x, many, ms, rfl, hC, G, hf, q⟩ := h
    have hu1 := hu_of hr
    have r1 : Room 1 _ := hr.mono (by decide)
    have r6 : Room 6 _ := hr
    refine ⟨_, (pss_cons (ps_set (i := 1) scFm.nd rfl (.inr rfl) (pe_call GSs r6 (by rfl) DSs.g DSs.F.kp DSs.b .nil pass0 (pa_cons (pv 0) pa_nil)))
      (pss_one (ps_ret (pe_lc (own := [("place", 2)]) (g := gName 2) (tt := tYes) (te := (tDGet2 (tVar 1) (tTup (tCons (tVar 2) tNil)) (tTup (tCons (tC (.int 0)) (tCons (tC (.int 1)) tNil))))) rfl scFm.nd (pi_range1 (by rfl) mr (pa_cons (pe_meth0 (pv 0) T.cl T.hP GP r1 T.bP .nil pass0) pa_nil)) (blkOk_by (N := ["chain", "stays", "place"]) (sc := defScope sFirstMet) (by decide +kernel)) (fun _ _ _ _ _ => by exact (pg_name (i := 2) scFm.nd rfl (.inl rfl))) (fun _ _ _ _ _ => pts_nil) (fun _ _ _ _ _ => by exact (pe_dget2 hu1 (pv 1) (pe_tup (pa_cons (pv 2) pa_nil)) (pe_tup (pa_cons pe_int (pa_cons pe_int pa_nil))) ⟨by rfl, by rfl, by rfl, by rfl⟩)))))), ?_⟩
    have m6 := G.m6
    have O := gs_ok G
    refine ⟨.ref x, rfl, x, many, ms, rfl, hC, G, hf, fun D us z t H1 s1 _ hD hus ok => ?_⟩
    generalize gsOf many ms = gs at O hD hus ok q ⊢
    have hC1 := hC.same s1
    obtain ⟨dx, a1, ws0, h1, h2, h3⟩ := id hC1
    refine ⟨.ref x, rfl, x, dx, _, rfl, h1, ch_no, x, many, ms, rfl, hC1, _, rfl, by omega, by omega, fun S nS => ?_⟩
    refine lc_range (lo := 0) (n := ((many : Int)).toNat) (fun i H' => Same H1 H' ∧ ∃ zs, H' S = some (.lst zs) ∧ FracsAt H' zs i (fun p => frac (zP gs z p) t)) ⟨same_new nS, [], upd_same, rfl, fun m u e => by simp at e⟩ ?_ ?_
    · rintro i H2 hi ⟨s2, zs, hS, lz, hz⟩
      have hi' : i < many := by omega
      have hD2 := s2 _ _ hD
      refine ⟨rfl, .ref D, rfl, D, rfl, .inr ⟨_, .inl hD2⟩, .int (0 + (i : Int)), rfl, (by show 1 ≤ sizeLine; decide), fun tp ntp => ?_⟩
      have s3 := same_new (o := .tup [.int (0 + (i : Int))]) ntp
      have htp : (upd H2 tp (.tup [.int (0 + (i : Int))])) tp = some (.tup ((([(i : Int)] : List Int).map (Sum.inl (β := Str))).map kV)) := by rw [upd_same, Int.zero_add]; rfl
      refine ⟨(by show 2 ≤ sizeLine; decide), fun tq ntq => ?_⟩
      have s4 := same_new (o := .tup [.int 0, .int 1]) ntq
      have htq : (upd (upd H2 tp (.tup [.int (0 + (i : Int))])) tq (.tup [.int 0, .int 1])) tq = some (.tup [.int 0, .int 1]) := upd_same
      have htp' := s4 _ _ htp
      have s34 := s3.trans s4
      generalize upd (upd H2 tp (.tup [.int (0 + (i : Int))])) tq (.tup [.int 0, .int 1]) = H3 at s4 s34 htq htp' ⊢
      have hS3 := s34 _ _ hS
      refine ⟨_, DGet.t (s34 _ _ hD2) htp', ?_⟩
      have tqS : tq ≠ S := fun e => by rw [e, hS3] at htq; cases htq
      obtain ⟨tv, ev, hv, nv⟩ : ∃ tv, (valV ((keysK gs).zip us) (([(i : Int)] : List Int).map Sum.inl)).getD (.ref tq) = V.ref tv ∧ H3 tv = some (.tup [.int (frac (zP gs z i) t).1, .int (frac (zP gs z i) t).2]) ∧ tv ≠ S := by
        by_cases c : [(i : Int)] ∈ gs
        · obtain ⟨m, hm, e⟩ := List.getElem_of_mem c
          have em : gs[m]? = some [(i : Int)] := by rw [List.getElem?_eq_getElem hm, e]
          have hmu : m < us.length := by rw [hus.1]; exact hm
          rw [valV_at O.nd hus.1 em, zP_at O.nd em, List.getElem?_eq_getElem hmu]
          obtain ⟨t2, e3, h3⟩ := hus.2 m us[m] (List.getElem?_eq_getElem hmu)
          exact ⟨t2, e3, s34 _ _ (s2 _ _ h3), ne_of_none h3 nS⟩
        · rw [valV_no c, zP_no c, frac_zero ok.pos]
          exact ⟨tq, rfl, htq, tqS⟩
      rw [ev]
      refine ⟨zs, hS3, by rw [lz]; exact small8 (by omega), fun b o e => ?_, zs ++ [.ref tv], upd_same, by rw [List.length_append, lz]; rfl, fun m u e => ?_⟩
      · rw [upd_ne (ne_of_none e nS)]
        exact s34 _ _ (s2 _ _ e)
      · rcases nth_snoc e with e | ⟨e1, e2⟩
        · obtain ⟨t2, e3, h3⟩ := hz m u e
          refine ⟨t2, e3, ?_⟩
          rw [upd_ne (fun e => by rw [e, hS] at h3; cases h3)]
          exact s34 _ _ h3
        · subst e2
          refine ⟨tv, rfl, ?_⟩
          rw [upd_ne nv, hv, e1, lz]
    · rintro H2 ⟨s2, zs, hS, hz⟩
      rw [show ((many : Int)).toNat = many by omega] at hz
      exact q S zs z t H2 (s1.trans s2) hS hz ok
end
theorem sumL_ge {α : Type} {f : α → Int} : ∀ {l : List α} {a : α}, (∀ x ∈ l, 0 ≤ f x) → a ∈ l → f a ≤ sumL l f
  | b :: l, a, nn, ha => by
    rw [sumL_cons]
    have h1 := nn b List.mem_cons_self
    have h2 := sumL_nn (l := l) fun x hx => nn x (List.mem_cons_of_mem _ hx)
    rcases List.mem_cons.mp ha with e | ha
    · rw [e]
      omega
    · have := sumL_ge (fun x hx => nn x (List.mem_cons_of_mem _ hx)) ha
      omega
theorem frac_abs {a b : Int} (hb : 0 < b) : (frac a b).1.natAbs ≤ a.natAbs := by
  have h1 := frac_l a b
  have h2 := gcdI_pos (x := a) hb
  have h3 : a.natAbs = (gcdI a b).natAbs * (frac a b).1.natAbs := by rw [← Int.natAbs_mul, h1]
  rw [h3]
  exact Nat.le_mul_of_pos_left _ (by omega)
theorem scFn : FnScope ["chain", "mean", "group", "count"] ["chain"] (defScope sFarMean) := ⟨rfl, rfl, rfl, by decide +kernel, rfl, by decide +kernel, by decide +kernel⟩
section
variable {P : Program} {w : World} {K : PySem.W.Frag} {mg : Str → Option Value} {base : Heap} {C : Addr}
/-! ### added, far_mean -/
theorem scAd2 : FnScope ["one", "other"] ["one", "other"] (defScope sAdded) := ⟨rfl, rfl, rfl, by decide +kernel, rfl, by decide +kernel, by decide +kernel⟩
def spAd2 : Sp := fun vs H Q _ => ∃ (v u : V) (p r : Int × Int), vs = [v, u] ∧ FracAt H v p ∧ FracAt H u r ∧ 0 < p.2 ∧ 0 < r.2 ∧ Big p.1 ∧ Big p.2 ∧ Big r.1 ∧ Big r.2 ∧
  ∀ t, H t = none → Q (.ref t) (upd H t (.tup [.int (frac (p.1 * r.2 + r.1 * p.2) (p.2 * r.2)).1, .int (frac (p.1 * r.2 + r.1 * p.2) (p.2 * r.2)).2]))
theorem ok_added {f fF : Addr} {fd fdF : FuncData} (F : Fun K "added" "added" sAdded f fd) (DFr : Df K mg "fraction" sFraction ["top", "bottom"] fF fdF) (mgcd : mg "gcd" = some (.builtin "math.gcd")) : FnOk P w K mg base CX0 2 f fd ["one", "other"] spAd2 := by
  have GFr : FnOk P w K mg base CX0 1 fF fdF ["top", "bottom"] spFrZ := ok_fractionZ DFr.F mgcd
  refine F.ok scAd2 (fun vs H Q E h => ?_) (fun cdv A outer s H vs Q E hr h => ?_)
  · obtain ⟨v, u, p, r, rfl, _⟩ := h
    rfl
  · obtain ⟨v, u, p, r, rfl, ⟨a, rfl, ha⟩, ⟨b, rfl, hb⟩, p2, r2, b1, b2, b3, b4, q⟩ := h
    have sa : SqT K H a [.int p.1, .int p.2] := SqT.of ha
    have sb : SqT K H b [.int r.1, .int r.2] := SqT.of hb
    refine ⟨_, (pss_one (ps_ret (pe_call GFr hr (by rfl) DFr.g DFr.F.kp DFr.b .nil pass0 (pa_cons (pe_op op_add (pe_op op_mulW (pe_ix ix_tup (pv 0) pe_int (fun _ _ => rfl)) (pe_ix ix_tup (pv 1) pe_int (fun _ _ => rfl))) (pe_op op_mulW (pe_ix ix_tup (pv 1) pe_int (fun _ _ => rfl)) (pe_ix ix_tup (pv 0) pe_int (fun _ _ => rfl)))) (pa_cons (pe_op op_mulW (pe_ix ix_tup (pv 0) pe_int (fun _ _ => rfl)) (pe_ix ix_tup (pv 1) pe_int (fun _ _ => rfl))) pa_nil))))), ?_⟩
    refine ⟨.ref a, rfl, a, _, 0, _, rfl, rfl, sa, atI_nat (j := 0) rfl, .ref b, rfl, b, _, 1, _, rfl, rfl, sb, atI_nat (j := 1) rfl, p.1, r.2, rfl, rfl, b1.ok b4, ?_⟩
    refine ⟨.ref b, rfl, b, _, 0, _, rfl, rfl, sb, atI_nat (j := 0) rfl, .ref a, rfl, a, _, 1, _, rfl, rfl, sa, atI_nat (j := 1) rfl, r.1, p.2, rfl, rfl, b3.ok b2, _, _, rfl, rfl, ?_⟩
    refine ⟨.ref a, rfl, a, _, 1, _, rfl, rfl, sa, atI_nat (j := 1) rfl, .ref b, rfl, b, _, 1, _, rfl, rfl, sb, atI_nat (j := 1) rfl, p.2, r.2, rfl, rfl, b2.ok b4, ?_⟩
    refine ⟨_, _, rfl, by have := Int.mul_pos p2 r2; omega, b2.mul b4, fun t nt => ?_⟩
    rw [fracZ_pos (Int.mul_pos p2 r2)]
    exact q t nt
/-- the larger sets among the first i -/
def bigS (gs : List (List Int)) (z : Nat → Int) (i : Nat) : Int := sumN i fun m => if 1 < (gAt gs m).length then z m else 0
theorem bigS_abs {many : Nat} {ms : List Mv} {gs : List (List Int)} {z : Nat → Int} {t : Int} (S : StayOk many ms gs z t) : ∀ i, i ≤ gs.length → (bigS gs z i).natAbs ≤ i * 2000 ^ 63
  | 0, _ => Nat.zero_le _
  | i + 1, hi => by
    have ih := bigS_abs S i (by omega)
    have hz := S.bigz i (by omega)
    show (bigS gs z i + if 1 < (gAt gs i).length then z i else 0).natAbs ≤ _
    rw [Nat.add_mul, Nat.one_mul]
    generalize 2000 ^ 63 = B at *
    split <;> omega
def spFn (C : Addr) : Sp := fun vs H Q _ => ∃ (x : Addr) (many : Nat) (ms : List Mv), vs = [.ref x] ∧ ChainAt C H x many ms ∧ Good many ms ∧ firstApart many ms = none ∧
  ∀ tv z t H', Same H H' → H' tv = some (.tup [.int (frac (bigS (gsOf many ms) z (gsOf many ms).length) t).1, .int (frac (bigS (gsOf many ms) z (gsOf many ms).length) t).2]) → StayOk many ms (gsOf many ms) z t → Q (.ref tv) H'
theorem zipK_at : ∀ {gs : List (List Int)} {us : List V} {i : Nat} {k : List Key} {v : V}, ((keysK gs).zip us)[i]? = some (k, v) → ∃ g, gs[i]? = some g ∧ k = g.map Sum.inl ∧ us[i]? = some v
  | g :: gs, u :: us, 0, _, _, e => by
    cases e
    exact ⟨g, rfl, rfl, rfl⟩
  | g :: gs, u :: us, i + 1, _, _, e => zipK_at (gs := gs) (us := us) (i := i) e
  | [], _, _, _, _, e => by simp [keysK] at e
  | _ :: _, [], _, _, _, e => by simp [keysK] at e
theorem ok_far {f fS fA fF : Addr} {fd fdS fdA fdF : FuncData} (F : Fun K "far_mean" "far_mean" sFarMean f fd) (DSs : Df K mg "_stays" sStays ["chain"] fS fdS) (GSs : FnOk P w K mg base CX0 6 fS fdS ["chain"] (spSs C)) (DAdd : Df K mg "added" sAdded ["one", "other"] fA fdA) (DFr : Df K mg "fraction" sFraction ["top", "bottom"] fF fdF) (mgcd : mg "gcd" = some (.builtin "math.gcd")) (ml : mg "len" = none) : FnOk P w K mg base CX0 7 f fd ["chain"] (spFn C) := by
  have GAdd : FnOk P w K mg base CX0 2 fA fdA ["one", "other"] spAd2 := ok_added DAdd.F DFr mgcd
  refine F.ok scFn (fun vs H Q E h => ?_) (fun cdv A outer s H vs Q E hr h => ?_)
  · obtain ⟨x, many, ms, rfl, _⟩ := h
    rfl
  · obtain ⟨x, many, ms, rfl, hC, G, hf, q⟩ := h
    have r2 : Room 2 _ := hr.mono (by decide)
    have r6 : Room 6 _ := hr
    refine ⟨_, (pss_cons (ps_set (i := 1) scFn.nd rfl (.inl rfl) (pe_tup (pa_cons pe_int (pa_cons pe_int pa_nil))))
      (pss_cons (ps_for PassesOwn.never rfl (pi_itemsT (pe_frz (pe_call GSs r6 (by rfl) DSs.g DSs.F.kp DSs.b .nil pass0 (pa_cons (pv 0) pa_nil)))) (pg_tup rfl (pgs_cons (pg_name (i := 2) scFn.nd rfl (.inl rfl)) (pgs_cons (pg_name (i := 3) scFn.nd rfl (.inl rfl)) pgs_nil))) (pss_one (ps_if (pt_cmpR op_gt (pe_callB call_len_seq (by rfl) ml PySem.boot_len (pa_cons (pv 2) pa_nil)) pe_int (nomark _)) (pss_one (ps_set (i := 1) scFn.nd rfl (.inl rfl) (pe_call GAdd r2 (by rfl) DAdd.g DAdd.F.kp DAdd.b .nil pass0 (pa_cons (pv 1) (pa_cons (pv 3) pa_nil))))) pss_nil)))
      (pss_one (ps_ret (pv 1))))), ?_⟩
    have O := gs_ok G
    refine ⟨(by show 2 ≤ sizeLine; decide), fun t0 nt0 => ?_⟩
    have s0 := same_new (o := .tup [.int 0, .int 1]) nt0
    have ht0 : (upd H t0 (.tup [.int 0, .int 1])) t0 = some (.tup [.int 0, .int 1]) := upd_same
    generalize upd H t0 (.tup [.int 0, .int 1]) = H0 at s0 ht0 ⊢
    refine ⟨.ref x, rfl, x, many, ms, rfl, hC.same s0, G, hf, fun D us z t H1 s1 nD hD hus ok => ?_⟩
    generalize gsOf many ms = gs at O hD hus ok q ⊢
    have bb := bigS_abs ok
    refine ⟨D, _, rfl, hD, True.intro, fun od => ⟨D, od, _, rfl, upd_same, ?_⟩⟩
    have tupF : ∀ b xs, H1 b = some (.tup xs) → (upd H1 D (.frz od (.dT ((keysK gs).zip us)))) b = some (.tup xs) := fun b xs e => by
      rw [upd_ne (fun z => by rw [z, hD] at e; cases e)]
      exact e
    have sF : Same H0 (upd H1 D (.frz od (.dT ((keysK gs).zip us)))) := Same.put s1 nD
    have husF : FracsAt (upd H1 D (.frz od (.dT ((keysK gs).zip us)))) us gs.length (fun m => frac (z m) t) := hus.mono tupF
    have ht1 := sF _ _ ht0
    have hDF : (upd H1 D (.frz od (.dT ((keysK gs).zip us)))) D = some (.frz od (.dT ((keysK gs).zip us))) := upd_same
    have lenZ : ((keysK gs).zip us).length = gs.length := by
      unfold keysK
      rw [List.length_zip, List.length_map, hus.1, Nat.min_self]
    clear tupF hus hD ht0
    generalize upd H1 D (.frz od (.dT ((keysK gs).zip us))) = H2 at sF husF ht1 hDF ⊢
    have tp := ok.pos
    have n63 := O.len
    have big : ∀ {y : Int}, y.natAbs ≤ 63 * 2000 ^ 63 → Big (frac y t).1 ∧ Big (frac y t).2 ∧ 0 < (frac y t).2 := fun {y} hy => by
      have h1 := frac_abs (a := y) tp
      have h2 := frac_le (x := y) tp
      have h3 := frac_pos (x := y) tp
      have h4 := ok.big
      refine ⟨Nat.lt_of_le_of_lt (Nat.le_trans h1 hy) (by decide +kernel), Nat.lt_of_le_of_lt (show (frac y t).2.natAbs ≤ 2000 ^ 63 by omega) (by decide +kernel), h3⟩
    refine for_it walk_itemsT (fun i σ H' => ∃ y2 y3 tm, σ = [some (.ref x), some (.ref tm), y2, y3] ∧ Same H2 H' ∧ H' tm = some (.tup [.int (frac (bigS gs z i) t).1, .int (frac (bigS gs z i) t).2]))
      ⟨none, none, t0, rfl, Same.refl _, ?_⟩ (fun i σ H' _ ⟨_, _, _, _, s3, _⟩ => s3 _ _ hDF) ?_ ?_
    · rw [show bigS gs z 0 = 0 from rfl, frac_zero tp]
      exact ht1
    · rintro i v0 σ H3 H3' hi ⟨y2, y3, tm, rfl, s3, htm⟩ ⟨T, qa, k, v, ekv, rfl, nT, hqa, rfl⟩
      obtain ⟨g, eg, ek, ev⟩ := zipK_at ekv
      have hig : i < gs.length := (List.getElem?_eq_some_iff.mp eg).1
      obtain ⟨tv, rfl, htv⟩ := husF.2 i v ev
      have hq : H3 qa = some (.tup (g.map V.int)) := by rw [hqa, ek, key_ints]
      have sT := same_new (o := .tup [.ref qa, .ref tv]) nT
      refine ⟨T, [.ref qa, .ref tv], rfl, SqT.of upd_same, rfl, .ref qa, [.ref tv], rfl, .ref tv, [], rfl, rfl, ?_⟩
      have ega : gAt gs i = g := gAt_eq eg
      have es : bigS gs z (i + 1) = bigS gs z i + if 1 < g.length then z i else 0 := by
        show bigS gs z i + (if 1 < (gAt gs i).length then z i else 0) = _
        rw [ega]
      refine ⟨.ref qa, rfl, qa, _, rfl, .inr (SqT.of (sT _ _ hq)), _, _, rfl, rfl, _, rfl, ite2 (fun c => ?_) (fun c => ?_)⟩
      · have c1 : 1 < g.length := by
          have h1 : ((g.map V.int).length : Int) > 1 := of_decide_eq_true c
          rw [List.length_map] at h1
          omega
        rw [if_pos c1] at es
        obtain ⟨b1, b2, b3⟩ := big (y := bigS gs z i) (Nat.le_trans (bb i (by omega)) (Nat.mul_le_mul_right _ (by omega)))
        obtain ⟨b4, b5, b6⟩ := big (y := z i) (Nat.le_trans (ok.bigz i hig) (Nat.le_mul_of_pos_left _ (by decide)))
        refine ⟨.ref tm, rfl, .ref tv, rfl, _, _, frac (bigS gs z i) t, frac (z i) t, rfl, ⟨tm, rfl, sT _ _ htm⟩, ⟨tv, rfl, sT _ _ (s3 _ _ htv)⟩, b3, b6, b1, b2, b4, b5, fun t2 nt2 => ?_⟩
        rw [frac_add tp]
        refine ⟨_, _, t2, rfl, (s3.trans sT).trans (same_new nt2), ?_⟩
        rw [es]
        exact upd_same
      · have c1 : ¬ 1 < g.length := fun h => c (decide_eq_true (by
          show ((g.map V.int).length : Int) > 1
          rw [List.length_map]
          omega))
        rw [if_neg c1, Int.add_zero] at es
        refine ⟨_, _, tm, rfl, s3.trans sT, ?_⟩
        rw [es]
        exact sT _ _ htm
    · rintro σ H3 ⟨y2, y3, tm, rfl, s3, htm⟩
      rw [lenZ] at htm
      exact ⟨.ref tm, rfl, q tm z t H3 ((s0.trans sF).trans s3) htm ok⟩
end
section
/-! ### places named otherwise -/
structure Nm (many : Nat) (nm : List Int) : Prop where
  row : GoodRow many nm
  nd : nm.Nodup
theorem goK_get {many : Nat} {r : List Int} (h : GoodRow many r) {p : Int} (p0 : 0 ≤ p) (p1 : p < (many : Int)) : r[p.toNat]? = some (goK r p) := by
  have hl : p.toNat < r.length := by rw [h.1]; omega
  unfold goK
  rw [List.getD_eq_getElem?_getD, List.getElem?_eq_getElem hl]
  rfl
theorem row_ext {many : Nat} {a b : List Int} (ha : GoodRow many a) (hb : GoodRow many b) (h : ∀ p : Int, 0 ≤ p → p < (many : Int) → goK a p = goK b p) : a = b := by
  refine List.ext_getElem? fun i => ?_
  by_cases c : i < many
  · have h1 := goK_get ha (p := (i : Int)) (by omega) (by omega)
    have h2 := goK_get hb (p := (i : Int)) (by omega) (by omega)
    rw [Int.toNat_natCast] at h1 h2
    rw [h1, h2, h _ (by omega) (by omega)]
  · rw [List.getElem?_eq_none (by rw [ha.1]; omega), List.getElem?_eq_none (by rw [hb.1]; omega)]
theorem ids_len (many : Nat) : (ids many).length = many := by
  unfold ids
  rw [List.length_map, List.length_range]
theorem at_ids {many : Nat} (f : Int → Int) {p : Int} (p0 : 0 ≤ p) (p1 : p < (many : Int)) : goK ((ids many).map f) p = f p := by
  unfold goK ids
  rw [List.getD_eq_getElem?_getD, List.getElem?_map, List.getElem?_map, List.getElem?_range (show p.toNat < many by omega)]
  show f ((p.toNat : Nat) : Int) = f p
  rw [show ((p.toNat : Nat) : Int) = p by omega]
theorem map_good {many : Nat} {f : Int → Int} (h : ∀ p : Int, 0 ≤ p → p < (many : Int) → 0 ≤ f p ∧ f p < (many : Int)) : GoodRow many ((ids many).map f) := ⟨by rw [List.length_map, ids_len], fun x hx => by
  obtain ⟨p, hp, rfl⟩ := List.mem_map.mp hx
  exact h p (mem_ids.mp hp).1 (mem_ids.mp hp).2⟩
variable {many : Nat} {nm : List Int}
theorem Nm.in (h : Nm many nm) {p : Int} (p0 : 0 ≤ p) (p1 : p < (many : Int)) : 0 ≤ goK nm p ∧ goK nm p < (many : Int) := goK_in' h.row p0 p1
theorem Nm.inj (h : Nm many nm) {p q : Int} (p0 : 0 ≤ p) (p1 : p < (many : Int)) (q0 : 0 ≤ q) (q1 : q < (many : Int)) (e : goK nm p = goK nm q) : p = q := by
  have h1 := goK_get h.row p0 p1
  have h2 := goK_get h.row q0 q1
  have := (List.getElem?_inj (i := p.toNat) (j := q.toNat) (by rw [h.row.1]; omega) h.nd).mp (by rw [h1, h2, e])
  omega
theorem Nm.sur (h : Nm many nm) {q : Int} (q0 : 0 ≤ q) (q1 : q < (many : Int)) : q ∈ nm := Classical.byContradiction fun n => by
  have := pigeon (l := q :: nm) (List.nodup_cons.mpr ⟨n, h.nd⟩) (m := ids many) fun x hx => by
    rcases List.mem_cons.mp hx with e | e
    · rw [e]; exact mem_ids.mpr ⟨q0, q1⟩
    · exact mem_ids.mpr (h.row.2 x e)
  rw [List.length_cons, h.row.1, ids_len] at this
  omega
/-- the places' old numbers -/
def unN (many : Nat) (nm : List Int) : List Int := (ids many).map fun q => ((nm.idxOf q : Nat) : Int)
theorem unN_at (h : Nm many nm) {q : Int} (q0 : 0 ≤ q) (q1 : q < (many : Int)) : 0 ≤ goK (unN many nm) q ∧ goK (unN many nm) q < (many : Int) ∧ goK nm (goK (unN many nm) q) = q := by
  have hm := h.sur q0 q1
  have hl := List.idxOf_lt_length_of_mem hm
  have e : goK (unN many nm) q = ((nm.idxOf q : Nat) : Int) := at_ids _ q0 q1
  have l := h.row.1
  rw [e]
  refine ⟨by omega, by omega, ?_⟩
  unfold goK
  rw [Int.toNat_natCast, List.getD_eq_getElem?_getD, List.getElem?_eq_getElem hl, List.getElem_idxOf]
  rfl
theorem go_unN (h : Nm many nm) {p : Int} (p0 : 0 ≤ p) (p1 : p < (many : Int)) : goK (unN many nm) (goK nm p) = p := by
  have i := h.in p0 p1
  have u := unN_at h i.1 i.2
  exact h.inj u.1 u.2.1 p0 p1 u.2.2
theorem Nm.un (h : Nm many nm) : Nm many (unN many nm) := by
  have g : GoodRow many (unN many nm) := map_good fun q q0 q1 => by
    have u := unN_at h q0 q1
    have e : goK (unN many nm) q = ((nm.idxOf q : Nat) : Int) := at_ids _ q0 q1
    rw [e] at u
    exact ⟨u.1, u.2.1⟩
  refine ⟨g, List.pairwise_iff_getElem.mpr fun i j hi hj ij e => ?_⟩
  have hj' : j < many := by rw [← g.1]; exact hj
  have h1 := goK_get g (p := (i : Int)) (by omega) (by omega)
  have h2 := goK_get g (p := (j : Int)) (by omega) (by omega)
  rw [Int.toNat_natCast, List.getElem?_eq_getElem hi] at h1
  rw [Int.toNat_natCast, List.getElem?_eq_getElem hj] at h2
  injection h1 with h1
  injection h2 with h2
  rw [h1, h2] at e
  have u1 := unN_at h (q := (i : Int)) (by omega) (by omega)
  have u2 := unN_at h (q := (j : Int)) (by omega) (by omega)
  have := u1.2.2.symm.trans ((congrArg (goK nm) e).trans u2.2.2)
  omega
theorem un_un (h : Nm many nm) : unN many (unN many nm) = nm := row_ext h.un.un.row h.row fun p p0 p1 => by
  have i := h.in p0 p1
  have e := go_unN h.un i.1 i.2
  rw [go_unN h p0 p1] at e
  exact e
/-- a move's row by the new numbers -/
def cj (many : Nat) (nm row : List Int) : List Int := (ids many).map fun q => goK nm (goK row (goK (unN many nm) q))
theorem cj_good (h : Nm many nm) {row : List Int} (hr : GoodRow many row) : GoodRow many (cj many nm row) := map_good fun q q0 q1 => by
  have u := unN_at h q0 q1
  have v := goK_in' hr u.1 u.2.1
  exact h.in v.1 v.2
theorem cj_at (h : Nm many nm) {row : List Int} {p : Int} (p0 : 0 ≤ p) (p1 : p < (many : Int)) : goK (cj many nm row) (goK nm p) = goK nm (goK row p) := by
  have i := h.in p0 p1
  have e : goK (cj many nm row) (goK nm p) = _ := at_ids _ i.1 i.2
  rw [e, go_unN h p0 p1]
theorem cj_of (h : Nm many nm) {row row' : List Int} (hr : GoodRow many row) (hr' : GoodRow many row') (e : ∀ p : Int, 0 ≤ p → p < (many : Int) → goK row' (goK nm p) = goK nm (goK row p)) : row' = cj many nm row :=
  row_ext hr' (cj_good h hr) fun q q0 q1 => by
    have u := unN_at h q0 q1
    rw [← u.2.2, e _ u.1 u.2.1, cj_at h u.1 u.2.1]
theorem cj_un (h : Nm many nm) {row : List Int} (hr : GoodRow many row) : cj many (unN many nm) (cj many nm row) = row := by
  refine (cj_of h.un (cj_good h hr) hr fun q q0 q1 => ?_).symm
  have u := unN_at h q0 q1
  have v := goK_in' hr u.1 u.2.1
  have e : goK (cj many nm row) q = goK nm (goK row (goK (unN many nm) q)) := at_ids _ q0 q1
  rw [e, go_unN h v.1 v.2]
theorem cj_un2 (h : Nm many nm) {row : List Int} (hr : GoodRow many row) : cj many nm (cj many (unN many nm) row) = row := by
  have e := cj_un h.un hr
  rw [un_un h] at e
  exact e
structure Ren (many : Nat) (nm : List Int) (ms ms' : List Mv) : Prop where
  ok : Nm many nm
  sum : ∀ φ : List Int → Int, (sumL ms' fun m => m.1 * φ m.2) = sumL ms fun m => m.1 * φ (cj many nm m.2)
variable {ms ms' : List Mv}
theorem Ren.symm (R : Ren many nm ms ms') (G : Good many ms) : Ren many (unN many nm) ms' ms := ⟨R.ok.un, fun φ => by
  rw [R.sum fun r => φ (cj many (unN many nm) r)]
  exact sumL_congr fun m hm => by rw [cj_un R.ok (G.mv m hm).2.2]⟩
theorem Ren.mem (R : Ren many nm ms ms') (G' : Good many ms') {m' : Mv} (h : m' ∈ ms') : ∃ m ∈ ms, cj many nm m.2 = m'.2 := Classical.byContradiction fun n => by
  have e := R.sum fun r => if r = m'.2 then 1 else 0
  have z : (sumL ms fun m => m.1 * if cj many nm m.2 = m'.2 then 1 else 0) = 0 := sumL_none fun m hm => by
    rw [if_neg fun c => n ⟨m, hm, c⟩, Int.mul_zero]
  rw [z] at e
  have h0 := sumL_ge (l := ms') (f := fun m => m.1 * if m.2 = m'.2 then 1 else 0) (fun x hx => by
    have := (G'.mv x hx).1
    show 0 ≤ x.1 * (if x.2 = m'.2 then 1 else 0)
    split <;> omega) h
  have h1 := (G'.mv m' h).1
  rw [e, if_pos rfl] at h0
  omega
theorem Ren.mem' (R : Ren many nm ms ms') (G : Good many ms) (G' : Good many ms') {m : Mv} (h : m ∈ ms) : ∃ m' ∈ ms', m'.2 = cj many nm m.2 := by
  obtain ⟨m', h1, e⟩ := (R.symm G).mem G h
  refine ⟨m', h1, ?_⟩
  rw [← e, cj_un2 R.ok (G'.mv m' h1).2.2]
theorem Ren.wh (R : Ren many nm ms ms') : whole ms' = whole ms := by
  have e := R.sum fun _ => 1
  have f : ∀ l : List Mv, (sumL l fun m => m.1 * 1) = whole l := fun l => by
    unfold whole sumL
    congr 1
    exact List.map_congr_left fun m _ => Int.mul_one _
  rw [f, f] at e
  exact e
/-- groups by the new numbers -/
theorem led_cj (h : Nm many nm) {row g : List Int} (hr : GoodRow many row) (hg : ∀ x ∈ g, 0 ≤ x ∧ x < (many : Int)) : ledG many (cj many nm row) (ledG many nm g) = ledG many nm (ledG many row g) := by
  have g1 := (ledG_good many nm g).2
  have g2 := (ledG_good many row g).2
  refine rise_same (ledG_good many _ _).1 (ledG_good many _ _).1 fun k => ?_
  rw [mem_ledG (cj_good h hr) g1, mem_ledG h.row g2]
  constructor
  · rintro ⟨x, hx, rfl⟩
    obtain ⟨y, hy, rfl⟩ := (mem_ledG h.row hg).mp hx
    exact ⟨goK row y, (mem_ledG hr hg).mpr ⟨y, hy, rfl⟩, (cj_at h (hg y hy).1 (hg y hy).2).symm⟩
  · rintro ⟨x, hx, rfl⟩
    obtain ⟨y, hy, rfl⟩ := (mem_ledG hr hg).mp hx
    exact ⟨goK nm y, (mem_ledG h.row hg).mpr ⟨y, hy, rfl⟩, cj_at h (hg y hy).1 (hg y hy).2⟩
end
section
variable {many : Nat} {nm : List Int} {ms ms' : List Mv}
/-! ### places that are come to -/
theorem rch_one {m : Mv} (hm : m ∈ ms) (p : Int) : Rch ms p (goK m.2 p) := by
  obtain ⟨i, hi, e⟩ := List.getElem_of_mem hm
  refine ⟨[(i : Int)], fun n hn => by rw [List.mem_singleton.mp hn]; omega, ?_⟩
  show goK (rowM ms ((i : Int)).toNat) p = goK m.2 p
  unfold rowM
  rw [Int.toNat_natCast, List.getD_eq_getElem?_getD, List.getElem?_eq_getElem hi, ← e]
  rfl
theorem Ren.rch (R : Ren many nm ms ms') (G : Good many ms) (G' : Good many ms') : ∀ (r : List Int) {p : Int}, 0 ≤ p → p < (many : Int) → Valid ms r → Rch ms' (goK nm p) (goK nm (walkP ms p r))
  | [], p, _, _, _ => Rch.refl _ _
  | n :: r, p, p0, p1, hv => by
    obtain ⟨n0, n1⟩ := hv n List.mem_cons_self
    have hn : n.toNat < ms.length := by omega
    have e : rowM ms n.toNat = (ms[n.toNat]).2 := by
      unfold rowM
      rw [List.getD_eq_getElem?_getD, List.getElem?_eq_getElem hn]
      rfl
    obtain ⟨m', h1, h2⟩ := R.mem' G G' (List.getElem_mem hn)
    have g := goK_in' (rowM_good G.mv hn) p0 p1
    have s := rch_one h1 (goK nm p)
    rw [h2, cj_at R.ok p0 p1, ← e] at s
    exact s.trans (R.rch G G' r g.1 g.2 fun x hx => hv x (List.mem_cons_of_mem _ hx))
theorem Ren.rch_iff (R : Ren many nm ms ms') (G : Good many ms) (G' : Good many ms') {p q : Int} (p0 : 0 ≤ p) (p1 : p < (many : Int)) (q0 : 0 ≤ q) (q1 : q < (many : Int)) : Rch ms' (goK nm p) (goK nm q) ↔ Rch ms p q := by
  constructor
  · intro h
    obtain ⟨r, h1, h2⟩ := h
    have i := R.ok.in p0 p1
    have := (R.symm G).rch G' G r i.1 i.2 h1
    rw [h2, go_unN R.ok p0 p1, go_unN R.ok q0 q1] at this
    exact this
  · rintro ⟨r, h1, rfl⟩
    exact R.rch G G' r p0 p1 h1
theorem Ren.reach (R : Ren many nm ms ms') (G : Good many ms) (G' : Good many ms') {p : Int} (p0 : 0 ≤ p) (p1 : p < (many : Int)) : ledG many nm (reachL many ms p) = reachL many ms' (goK nm p) := by
  have i := R.ok.in p0 p1
  refine rise_same (ledG_good many _ _).1 (reachL_rise many ms' _) fun k => ?_
  rw [mem_ledG R.ok.row fun x hx => reachL_in hx, mem_reachL G'.mv G'.m6 i.1 i.2]
  constructor
  · rintro ⟨x, hx, rfl⟩
    have j := reachL_in hx
    exact (R.rch_iff G G' p0 p1 j.1 j.2).mpr ((mem_reachL G.mv G.m6 p0 p1).mp hx)
  · intro h
    have j := h.in G'.mv i.1 i.2
    have u := unN_at R.ok j.1 j.2
    rw [← u.2.2] at h
    exact ⟨_, (mem_reachL G.mv G.m6 p0 p1).mpr ((R.rch_iff G G' p0 p1 u.1 u.2.1).mp h), u.2.2⟩
/-! ### closed groups -/
theorem cl_of (G : Good many ms) {p : Int} (p0 : 0 ≤ p) (p1 : p < (many : Int)) (h : ∀ x, Rch ms p x → Rch ms x p) : reachL many ms p ∈ closedL many ms := by
  have hp := reachL_self G.mv G.m6 p0 p1
  have same : ∀ x, x ∈ reachL many ms p → reachL many ms x = reachL many ms p := fun x hx => by
    have i := reachL_in hx
    have a := (mem_reachL G.mv G.m6 p0 p1).mp hx
    refine rise_same (reachL_rise _ _ _) (reachL_rise _ _ _) fun k => ?_
    rw [mem_reachL G.mv G.m6 p0 p1, mem_reachL G.mv G.m6 i.1 i.2]
    exact ⟨fun b => a.trans b, fun b => (h x a).trans b⟩
  have hq : (reachL many ms p).getD 0 0 ∈ reachL many ms p := by
    match reachL many ms p, hp with
    | y :: ys, _ => exact List.mem_cons_self
  have e := same _ hq
  have i := reachL_in hq
  unfold closedL
  refine List.mem_map.mpr ⟨_, List.mem_filter.mpr ⟨mem_ids.mpr i, ?_⟩, e⟩
  unfold clK
  rw [e, Bool.and_eq_true]
  exact ⟨decide_eq_true rfl, List.all_eq_true.mpr fun x hx => decide_eq_true (same x hx)⟩
theorem of_cl (G : Good many ms) {g : List Int} (h : g ∈ closedL many ms) : ∃ p : Int, 0 ≤ p ∧ p < (many : Int) ∧ g = reachL many ms p ∧ ∀ x, Rch ms p x → Rch ms x p := by
  unfold closedL at h
  obtain ⟨p, hp, rfl⟩ := List.mem_map.mp h
  obtain ⟨h1, h2⟩ := List.mem_filter.mp hp
  obtain ⟨p0, p1⟩ := mem_ids.mp h1
  refine ⟨p, p0, p1, rfl, fun x hx => ?_⟩
  unfold clK at h2
  rw [Bool.and_eq_true] at h2
  have := List.all_eq_true.mp h2.2 x ((mem_reachL G.mv G.m6 p0 p1).mpr hx)
  have i := hx.in G.mv p0 p1
  refine (mem_reachL G.mv G.m6 i.1 i.2).mp ?_
  rw [of_decide_eq_true this]
  exact reachL_self G.mv G.m6 p0 p1
theorem closedL_nd (many : Nat) (ms : List Mv) : (closedL many ms).Nodup := by
  unfold closedL
  have h : ((ids many).filter (clK many ms)).Pairwise (· ≠ ·) := List.Pairwise.filter _ ((ids_pair many).imp fun h => by omega)
  refine List.pairwise_map.mpr (List.Pairwise.imp_of_mem (R := (· ≠ ·)) (fun {a b} ha hb n e => n ?_) h)
  have h1 := (List.mem_filter.mp ha).2
  have h2 := (List.mem_filter.mp hb).2
  unfold clK at h1 h2
  rw [Bool.and_eq_true] at h1 h2
  have e1 := of_decide_eq_true h1.1
  have e2 := of_decide_eq_true h2.1
  rw [e] at e1
  exact e1.symm.trans e2
theorem Ren.cl (R : Ren many nm ms ms') (G : Good many ms) (G' : Good many ms') {g : List Int} (h : g ∈ closedL many ms) : ledG many nm g ∈ closedL many ms' := by
  obtain ⟨p, p0, p1, rfl, rc⟩ := of_cl G h
  have i := R.ok.in p0 p1
  rw [R.reach G G' p0 p1]
  refine cl_of G' i.1 i.2 fun x hx => ?_
  have j := hx.in G'.mv i.1 i.2
  have u := unN_at R.ok j.1 j.2
  rw [← u.2.2] at hx ⊢
  exact (R.rch_iff G G' u.1 u.2.1 p0 p1).mpr (rc _ ((R.rch_iff G G' p0 p1 u.1 u.2.1).mp hx))
theorem led_mem (h : Nm many nm) {g : List Int} (hg : ∀ x ∈ g, 0 ≤ x ∧ x < (many : Int)) {p : Int} (p0 : 0 ≤ p) (p1 : p < (many : Int)) : goK nm p ∈ ledG many nm g ↔ p ∈ g := by
  rw [mem_ledG h.row hg]
  constructor
  · rintro ⟨x, hx, e⟩
    rw [← h.inj (hg x hx).1 (hg x hx).2 p0 p1 e]
    exact hx
  · exact fun hp => ⟨p, hp, rfl⟩
theorem led_inj (h : Nm many nm) {g g' : List Int} (hg : goodG many g) (hg' : goodG many g') (e : ledG many nm g = ledG many nm g') : g = g' := by
  refine rise_same hg.1 hg'.1 fun k => ⟨fun hk => ?_, fun hk => ?_⟩
  · have i := hg.2 k hk
    have := (led_mem h hg.2 i.1 i.2).mpr hk
    rw [e] at this
    exact (led_mem h hg'.2 i.1 i.2).mp this
  · have i := hg'.2 k hk
    have := (led_mem h hg'.2 i.1 i.2).mpr hk
    rw [← e] at this
    exact (led_mem h hg.2 i.1 i.2).mp this
theorem cl_good (G : Good many ms) {g : List Int} (h : g ∈ closedL many ms) : goodG many g := by
  obtain ⟨p, _, _, rfl, _⟩ := of_cl G h
  exact ⟨reachL_rise _ _ _, fun x hx => reachL_in hx⟩
theorem Ren.cl_le (R : Ren many nm ms ms') (G : Good many ms) (G' : Good many ms') : (closedL many ms).length ≤ (closedL many ms').length := by
  have nd : ((closedL many ms).map (ledG many nm)).Nodup := List.pairwise_map.mpr (List.Pairwise.imp_of_mem (R := (· ≠ ·)) (fun {a b} ha hb n e => n (led_inj R.ok (cl_good G ha) (cl_good G hb) e)) (closedL_nd many ms))
  have := pigeon nd (m := closedL many ms') fun x hx => by
    obtain ⟨g, hg, rfl⟩ := List.mem_map.mp hx
    exact R.cl G G' hg
  rw [List.length_map] at this
  exact this
theorem Ren.cl_len (R : Ren many nm ms ms') (G : Good many ms) (G' : Good many ms') : (closedL many ms').length = (closedL many ms).length := Nat.le_antisymm ((R.symm G).cl_le G' G) (R.cl_le G G')
/-! ### sums by the new numbers -/
theorem sumN_bij {n : Nat} {β γ : Nat → Nat} (b1 : ∀ i, i < n → β i < n) (g1 : ∀ i, i < n → γ i < n) (bg : ∀ i, i < n → β (γ i) = i) (gb : ∀ i, i < n → γ (β i) = i) (f : Nat → Int) : sumN n (fun i => f (β i)) = sumN n f := by
  have e1 : sumN n (fun i => f (β i)) = sumN n fun i => sumN n fun e => if β i = e then f e else 0 := sumN_congr fun i hi => by
    rw [sumN_one (i := β i) (b1 i hi) (fun e _ ne => if_neg (Ne.symm ne)), if_pos rfl]
  rw [e1, sumN_swap (fun i e => if β i = e then f e else 0)]
  refine sumN_congr fun e he => ?_
  rw [sumN_one (i := γ e) (g1 e he) (fun i hi ne => if_neg fun c => ne (by rw [← c, gb i hi])), if_pos (bg e he)]
def nmN (nm : List Int) (i : Nat) : Nat := (goK nm (i : Int)).toNat
theorem Nm.nat (h : Nm many nm) {i : Nat} (hi : i < many) : ((nmN nm i : Nat) : Int) = goK nm (i : Int) ∧ nmN nm i < many := by
  have := h.in (p := (i : Int)) (by omega) (by omega)
  unfold nmN
  omega
theorem Nm.sumN (h : Nm many nm) (f : Nat → Int) : sumN many (fun i => f (nmN nm i)) = sumN many f := by
  refine sumN_bij (γ := nmN (unN many nm)) (fun i hi => (h.nat hi).2) (fun i hi => (h.un.nat hi).2) (fun i hi => ?_) (fun i hi => ?_) f
  · have a := h.un.nat hi
    have u := unN_at h (q := (i : Int)) (by omega) (by omega)
    unfold nmN at a ⊢
    rw [a.1, u.2.2, Int.toNat_natCast]
  · have a := h.nat hi
    have u := go_unN h (p := (i : Int)) (by omega) (by omega)
    unfold nmN at a ⊢
    rw [a.1, u, Int.toNat_natCast]
/-! ### rows by the new numbers -/
theorem Ren.rows (R : Ren many nm ms ms') (G : Good many ms) : ∀ (n : Nat) (g : List Int) (φ : List Int → Int), goodG many g → (rowsS ms' n fun r => φ (imgR ms' (ledM many) (ledG many nm g) r)) = rowsS ms n fun r => φ (ledG many nm (imgR ms (ledM many) g r))
  | 0, g, φ, _ => rfl
  | n + 1, g, φ, hg => by
    rw [rowsS_front, rowsS_front]
    have f : ∀ (l : List Mv) (h : List Int) (ψ : List Int → Int), (sumL (nums l) fun a => wtN l a * rowsS l n fun r => ψ (imgR l (ledM many) h (a :: r))) = sumL l fun m => m.1 * (fun row => rowsS l n fun r => ψ (imgR l (ledM many) (ledG many row h) r)) m.2 := fun l h ψ => sum_nums (ms := l) fun m => m.1 * rowsS l n fun r => ψ (imgR l (ledM many) (ledG many m.2 h) r)
    rw [f ms' (ledG many nm g) φ, f ms g fun h => φ (ledG many nm h)]
    refine (R.sum fun row => rowsS ms' n fun r => φ (imgR ms' (ledM many) (ledG many row (ledG many nm g)) r)).trans ?_
    refine sumL_congr fun m hm => ?_
    show m.1 * (rowsS ms' n fun r => φ (imgR ms' (ledM many) (ledG many (cj many nm m.2) (ledG many nm g)) r)) = m.1 * rowsS ms n fun r => φ (ledG many nm (imgR ms (ledM many) (ledG many m.2 g) r))
    rw [led_cj R.ok (G.mv m hm).2.2 hg.2, R.rows G n _ φ (ledG_good many m.2 g)]
theorem led_all (h : Nm many nm) : ledG many nm (ids many) = ids many := by
  refine rise_same (ledG_good many _ _).1 (ids_pair many) fun k => ?_
  rw [mem_ledG h.row fun x hx => mem_ids.mp hx, mem_ids]
  constructor
  · rintro ⟨x, hx, rfl⟩
    exact h.in (mem_ids.mp hx).1 (mem_ids.mp hx).2
  · intro hk
    have u := unN_at h hk.1 hk.2
    exact ⟨_, mem_ids.mpr ⟨u.1, u.2.1⟩, u.2.2⟩
theorem Ren.shr (R : Ren many nm ms ms') (G : Good many ms) (n : Nat) {p : Int} (p0 : 0 ≤ p) (p1 : p < (many : Int)) : shrN many ms' n (goK nm p) = shrN many ms n p := by
  unfold shrN
  rw [cntN_val, cntN_val]
  have h := R.rows G n (ids many) (fun g => if g = [goK nm p] then 1 else 0) (ids_good many)
  rw [led_all R.ok] at h
  rw [h]
  refine rowsS_congr fun r _ _ => ?_
  have gg := foldL_good (ms := ms) r (ids_good many)
  have e := ledG_one R.ok.row p0 p1
  by_cases c : imgR ms (ledM many) (ids many) r = [p]
  · rw [if_pos c, if_pos (by rw [c, e])]
  · rw [if_neg c, if_neg fun z => c (led_inj R.ok gg ⟨List.pairwise_singleton _ _, fun x hx => by rw [List.mem_singleton.mp hx]; exact ⟨p0, p1⟩⟩ (by rw [z, e]))]
theorem sumL_idsR (f : Int → Int) : sumL (ids many) f = sumN many fun i => f (i : Int) := by
  unfold ids
  rw [sumL_map]
  have : ∀ n : Nat, sumL (List.range n) (fun i => f (i : Int)) = sumN n fun i => f (i : Int) := fun n => by
    induction n with
    | zero => rfl
    | succ n ih =>
      rw [List.range_succ, sumL_app, ih, sumL_cons, sumL_nil, Int.add_zero]
      rfl
  exact this many
theorem Ren.rest (R : Ren many nm ms ms') (G : Good many ms) (n : Nat) : restN many ms' n = restN many ms n := by
  unfold restN
  rw [R.wh, sumL_idsR, sumL_idsR, ← R.ok.sumN fun i => shrN many ms' n (i : Int)]
  congr 1
  refine sumN_congr fun i hi => ?_
  rw [(R.ok.nat hi).1]
  exact R.shr G n (by omega) (by omega)
end
section
variable {many : Nat} {nm : List Int} {ms ms' : List Mv}
theorem Ren.cn (R : Ren many nm ms ms') (G : Good many ms) {b e : Nat} (hb : b < many) (he : e < many) : cnt ms' (nmN nm b) (nmN nm e) = cnt ms b e := by
  have f : ∀ (l : List Mv) (b e : Nat), cnt l b e = sumL l fun m => m.1 * (fun row : List Int => if row[b]? = some ((e : Nat) : Int) then (1 : Int) else 0) m.2 := fun l b e => by
    show (sumL l fun m => if m.2[b]? = some ((e : Nat) : Int) then m.1 else 0) = _
    refine sumL_congr fun m _ => ?_
    show (if _ then _ else _) = m.1 * if _ then _ else _
    split
    · rw [Int.mul_one]
    · rw [Int.mul_zero]
  rw [f, f]
  refine (R.sum fun row : List Int => if row[nmN nm b]? = some ((nmN nm e : Nat) : Int) then (1 : Int) else 0).trans (sumL_congr fun m hm => ?_)
  have gr := (G.mv m hm).2.2
  have nb := R.ok.nat hb
  have ne := R.ok.nat he
  have h1 := goK_get (cj_good R.ok gr) (p := ((nmN nm b : Nat) : Int)) (by omega) (by omega)
  rw [Int.toNat_natCast, nb.1, cj_at R.ok (by omega) (by omega)] at h1
  have h2 := goK_get gr (p := (b : Int)) (by omega) (by omega)
  rw [Int.toNat_natCast] at h2
  show m.1 * (if (cj many nm m.2)[nmN nm b]? = some ((nmN nm e : Nat) : Int) then (1 : Int) else 0) = m.1 * (if m.2[b]? = some ((e : Nat) : Int) then (1 : Int) else 0)
  rw [h1, h2, ne.1]
  have i := goK_in' gr (p := (b : Int)) (by omega) (by omega)
  by_cases c : goK m.2 (b : Int) = (e : Int)
  · rw [c, if_pos rfl, if_pos rfl]
  · rw [if_neg fun h => c (R.ok.inj i.1 i.2 (by omega) (by omega) (Option.some.inj h)), if_neg fun h => c (Option.some.inj h)]
theorem Ren.stat (R : Ren many nm ms ms') (G : Good many ms) {z : Nat → Int} (h : Stat many (cnt ms') (tot ms') z) : Stat many (cnt ms) (tot ms) fun b => z (nmN nm b) := fun e he => by
  have h1 := h (nmN nm e) (R.ok.nat he).2
  have e1 : sumN many (fun b => cnt ms b e * z (nmN nm b)) = sumN many fun b => (fun b' => cnt ms' b' (nmN nm e) * z b') (nmN nm b) := sumN_congr fun b hb => by
    rw [← R.cn G hb he]
  rw [e1, R.ok.sumN fun b' => cnt ms' b' (nmN nm e) * z b', h1]
  have : tot ms' = tot ms := R.wh
  rw [this]
end
section
variable {many : Nat} {nm : List Int} {ms ms' : List Mv}
/-! ### the stays by the new numbers -/
def vG (gs : List (List Int)) (z : Nat → Int) (g : List Int) : Int := z (gs.idxOf g)
theorem vG_at {gs : List (List Int)} (nd : gs.Nodup) (z : Nat → Int) {m : Nat} (hm : m < gs.length) : vG gs z (gAt gs m) = z m := by
  have h := gAt_mem hm
  have hl := List.idxOf_lt_length_of_mem h
  unfold vG
  congr 1
  refine gAt_inj nd hl hm ?_
  generalize gAt gs m = g at hl
  unfold gAt
  rw [List.getD_eq_getElem?_getD, List.getElem?_eq_getElem hl, List.getElem_idxOf]
  rfl
theorem gAt_range (gs : List (List Int)) : (List.range gs.length).map (gAt gs) = gs := by
  refine List.ext_getElem? fun i => ?_
  rw [List.getElem?_map]
  by_cases c : i < gs.length
  · rw [List.getElem?_range c, List.getElem?_eq_getElem c]
    unfold gAt
    rw [Option.map_some, List.getD_eq_getElem?_getD, List.getElem?_eq_getElem c]
    rfl
  · rw [List.getElem?_eq_none (by rw [List.length_range]; omega), List.getElem?_eq_none (by omega)]
    rfl
theorem sumN_list (gs : List (List Int)) (f : List Int → Int) : sumN gs.length (fun m => f (gAt gs m)) = sumL gs f := by
  have h : ∀ n : Nat, sumL (List.range n) (fun m => f (gAt gs m)) = sumN n fun m => f (gAt gs m) := fun n => by
    induction n with
    | zero => rfl
    | succ n ih =>
      rw [List.range_succ, sumL_app, ih, sumL_cons, sumL_nil, Int.add_zero]
      rfl
  rw [← h, ← sumL_map (gAt gs) f, gAt_range]
def StG (many : Nat) (ms : List Mv) (gs : List (List Int)) (Z : List Int → Int) (t : Int) : Prop := ∀ g ∈ gs, whole ms * Z g = (sumL gs fun h => (if 1 < h.length then cG many ms h g else 0) * Z h) + if g = ids many then whole ms * t else 0
theorem mem_at {gs : List (List Int)} {g : List Int} (h : g ∈ gs) : ∃ m, m < gs.length ∧ gAt gs m = g := by
  obtain ⟨i, hi, e⟩ := List.getElem_of_mem h
  refine ⟨i, hi, ?_⟩
  unfold gAt
  rw [List.getD_eq_getElem?_getD, List.getElem?_eq_getElem hi, ← e]
  rfl
theorem stG_of {gs : List (List Int)} {z : Nat → Int} {t : Int} (O : GsOk many ms gs) (S : StayOk many ms gs z t) : StG many ms gs (vG gs z) t := fun g hg => by
  obtain ⟨r, hr, rfl⟩ := mem_at hg
  rw [vG_at O.nd z hr, S.eq r hr, ← sumN_list gs fun h => (if 1 < h.length then cG many ms h (gAt gs r) else 0) * vG gs z h]
  have n0 : 0 < gs.length := (List.getElem?_eq_some_iff.mp O.h0).1
  have e0 := gAt_eq O.h0
  congr 1
  · refine sumN_congr fun m hm => ?_
    rw [vG_at O.nd z hm]
    rfl
  · by_cases c : r = 0
    · rw [if_pos c, if_pos (by rw [c, e0])]
    · rw [if_neg c, if_neg fun h => c (gAt_inj O.nd hr n0 (by rw [h, e0]))]
theorem stG_uniq {gs : List (List Int)} {Z Y : List Int → Int} {t u : Int} (G : Good many ms) (O : GsOk many ms gs) (meet : ∀ g ∈ gs, Meets many ms g) (A : StG many ms gs Z t) (B : StG many ms gs Y u) : ∀ g ∈ gs, Z g * u = Y g * t := fun g hg => by
  have h := flow_inj G O meet (fun m => u * Z (gAt gs m) - t * Y (gAt gs m)) fun r hr => by
    rw [flow_row _ hr]
    have a := A _ (gAt_mem hr)
    have b := B _ (gAt_mem hr)
    rw [← sumN_list gs fun h => (if 1 < h.length then cG many ms h (gAt gs r) else 0) * Z h] at a
    rw [← sumN_list gs fun h => (if 1 < h.length then cG many ms h (gAt gs r) else 0) * Y h] at b
    have e : (sumN gs.length fun m => pG many ms gs m r * (u * Z (gAt gs m) - t * Y (gAt gs m))) = u * (sumN gs.length fun m => (if 1 < (gAt gs m).length then cG many ms (gAt gs m) (gAt gs r) else 0) * Z (gAt gs m)) - t * (sumN gs.length fun m => (if 1 < (gAt gs m).length then cG many ms (gAt gs m) (gAt gs r) else 0) * Y (gAt gs m)) := by
      rw [← sumN_mul, ← sumN_mul, ← sumN_sub]
      refine sumN_congr fun m _ => ?_
      show (if 1 < (gAt gs m).length then cG many ms (gAt gs m) (gAt gs r) else 0) * (u * Z (gAt gs m) - t * Y (gAt gs m)) = _
      rw [Int.mul_sub, Int.mul_left_comm, Int.mul_left_comm _ t]
    rw [e]
    generalize (sumN gs.length fun m => (if 1 < (gAt gs m).length then cG many ms (gAt gs m) (gAt gs r) else 0) * Z (gAt gs m)) = SZ at a ⊢
    generalize (sumN gs.length fun m => (if 1 < (gAt gs m).length then cG many ms (gAt gs m) (gAt gs r) else 0) * Y (gAt gs m)) = SY at b ⊢
    generalize Z (gAt gs r) = zr at a ⊢
    generalize Y (gAt gs r) = yr at b ⊢
    by_cases c : gAt gs r = ids many
    · rw [if_pos c] at a b
      grind
    · rw [if_neg c] at a b
      grind
  obtain ⟨m, hm, rfl⟩ := mem_at hg
  have := h m hm
  grind
theorem led_len (h : Nm many nm) {g : List Int} (hg : goodG many g) : (ledG many nm g).length = g.length := by
  have gn : g.Nodup := hg.1.imp fun h => by omega
  have n1 : (ledG many nm g).Nodup := (ledG_good many nm g).1.imp fun h => by omega
  have n2 : (g.map (goK nm)).Nodup := List.pairwise_map.mpr (List.Pairwise.imp_of_mem (R := (· ≠ ·)) (fun {a b} ha hb n e => n (h.inj (hg.2 a ha).1 (hg.2 a ha).2 (hg.2 b hb).1 (hg.2 b hb).2 e)) gn)
  have a := pigeon n1 (m := g.map (goK nm)) fun x hx => by
    obtain ⟨y, hy, e⟩ := (mem_ledG h.row hg.2).mp hx
    exact List.mem_map.mpr ⟨y, hy, e⟩
  have b := pigeon n2 (m := ledG many nm g) fun x hx => by
    obtain ⟨y, hy, e⟩ := List.mem_map.mp hx
    exact (mem_ledG h.row hg.2).mpr ⟨y, hy, e⟩
  rw [List.length_map] at a b
  omega
theorem led_un (h : Nm many nm) {g : List Int} (hg : goodG many g) : ledG many nm (ledG many (unN many nm) g) = g := by
  refine rise_same (ledG_good many _ _).1 hg.1 fun k => ?_
  rw [mem_ledG h.row (ledG_good many _ _).2]
  constructor
  · rintro ⟨x, hx, rfl⟩
    obtain ⟨y, hy, rfl⟩ := (mem_ledG h.un.row hg.2).mp hx
    rw [(unN_at h (hg.2 y hy).1 (hg.2 y hy).2).2.2]
    exact hy
  · intro hk
    exact ⟨_, (mem_ledG h.un.row hg.2).mpr ⟨k, hk, rfl⟩, (unN_at h (hg.2 k hk).1 (hg.2 k hk).2).2.2⟩
theorem Ren.cG (R : Ren many nm ms ms') (G : Good many ms) {h g : List Int} (hh : goodG many h) (hg : goodG many g) : cG many ms' (ledG many nm h) (ledG many nm g) = cG many ms h g := by
  have f : ∀ (l : List Mv) (h g : List Int), Lg.cG many l h g = sumL l fun m => m.1 * (fun row : List Int => if ledG many row h = g then (1 : Int) else 0) m.2 := fun l h g => by
    refine sumL_congr fun m _ => ?_
    show (if _ then _ else _) = m.1 * if _ then _ else _
    split
    · rw [Int.mul_one]
    · rw [Int.mul_zero]
  rw [f ms', f ms]
  refine (R.sum fun row : List Int => if ledG many row (ledG many nm h) = ledG many nm g then (1 : Int) else 0).trans (sumL_congr fun m hm => ?_)
  show m.1 * (if ledG many (cj many nm m.2) (ledG many nm h) = ledG many nm g then (1 : Int) else 0) = m.1 * (if ledG many m.2 h = g then (1 : Int) else 0)
  rw [led_cj R.ok (G.mv m hm).2.2 hh.2]
  by_cases c : ledG many m.2 h = g
  · rw [if_pos c, if_pos (by rw [c])]
  · rw [if_neg c, if_neg fun z => c (led_inj R.ok (ledG_good many m.2 h) hg z)]
theorem sumL_perm {α : Type} {l k : List α} (p : l.Perm k) (f : α → Int) : sumL l f = sumL k f := by
  induction p with
  | nil => rfl
  | cons x _ ih => rw [sumL_cons, sumL_cons, ih]
  | swap x y l => rw [sumL_cons, sumL_cons, sumL_cons, sumL_cons]; omega
  | trans _ _ i1 i2 => exact i1.trans i2
theorem Ren.stG (R : Ren many nm ms ms') (G : Good many ms) {gs gs' : List (List Int)} {Z : List Int → Int} {t : Int} (p : (gs.map (ledG many nm)).Perm gs') (good : ∀ g ∈ gs, goodG many g) (A : StG many ms' gs' Z t) : StG many ms gs (fun g => Z (ledG many nm g)) t := fun g hg => by
  have a := A (ledG many nm g) (p.mem_iff.mp (List.mem_map.mpr ⟨g, hg, rfl⟩))
  rw [R.wh, ← sumL_perm p, sumL_map] at a
  have e : (sumL gs fun h => (if 1 < h.length then Lg.cG many ms h g else 0) * Z (ledG many nm h)) = sumL gs fun h => (if 1 < (ledG many nm h).length then Lg.cG many ms' (ledG many nm h) (ledG many nm g) else 0) * Z (ledG many nm h) := sumL_congr fun h hh => by
    rw [led_len R.ok (good h hh), R.cG G (good h hh) (good g hg)]
  rw [e]
  refine a.trans ?_
  congr 1
  by_cases c : g = ids many
  · rw [if_pos c, if_pos (by rw [c, led_all R.ok])]
  · rw [if_neg c, if_neg fun z => c (led_inj R.ok (good g hg) (ids_good many) (by rw [z, led_all R.ok]))]
theorem Ren.gs_in (R : Ren many nm ms ms') (G : Good many ms) (G' : Good many ms') {g : List Int} (h : g ∈ gsOf many ms) : ledG many nm g ∈ gsOf many ms' := by
  obtain ⟨p, hp, rfl⟩ := List.mem_map.mp h
  obtain ⟨e, hv⟩ := gf_row p hp
  rw [← e]
  have O := gs_ok G'
  generalize gsOf many ms' = gs' at O
  have key : ∀ r : List Int, (∀ n ∈ r, 0 ≤ n ∧ n < (ms.length : Int)) → ledG many nm (runG many ms (ids many) r) ∈ gs' ∧ goodG many (runG many ms (ids many) r) := fun r => by
    refine snocInd (F := fun r => (∀ n ∈ r, 0 ≤ n ∧ n < (ms.length : Int)) → ledG many nm (runG many ms (ids many) r) ∈ gs' ∧ goodG many (runG many ms (ids many) r)) (fun _ => ?_) (fun r n ih hv => ?_) r
    · refine ⟨?_, ids_good many⟩
      show ledG many nm (ids many) ∈ gs'
      rw [led_all R.ok]
      exact List.mem_of_getElem? O.h0
    · obtain ⟨i1, i2⟩ := ih fun x hx => hv x (List.mem_append_left _ hx)
      obtain ⟨n0, n1⟩ := hv n (List.mem_append_right _ List.mem_cons_self)
      have hn : n.toNat < ms.length := by omega
      have e : rowM ms n.toNat = (ms[n.toNat]).2 := by
        unfold rowM
        rw [List.getD_eq_getElem?_getD, List.getElem?_eq_getElem hn]
        rfl
      obtain ⟨m', h1, h2⟩ := R.mem' G G' (List.getElem_mem hn)
      rw [runG_snoc]
      have c := O.cl _ i1 m' h1
      rw [h2, led_cj R.ok (G.mv _ (List.getElem_mem hn)).2.2 i2.2, ← e] at c
      exact ⟨c, ledG_good many _ _⟩
  exact (key p.2 hv).1
theorem Ren.gs (R : Ren many nm ms ms') (G : Good many ms) (G' : Good many ms') : ((gsOf many ms).map (ledG many nm)).Perm (gsOf many ms') := by
  have O := gs_ok G
  have O' := gs_ok G'
  have nd : ((gsOf many ms).map (ledG many nm)).Nodup := List.pairwise_map.mpr (List.Pairwise.imp_of_mem (R := (· ≠ ·)) (fun {a b} ha hb n e => n (led_inj R.ok (O.good a ha) (O.good b hb) e)) O.nd)
  refine (List.perm_ext_iff_of_nodup nd O'.nd).mpr fun g => ⟨fun h => ?_, fun h => ?_⟩
  · obtain ⟨x, hx, rfl⟩ := List.mem_map.mp h
    exact R.gs_in G G' hx
  · exact List.mem_map.mpr ⟨_, (R.symm G).gs_in G' G h, led_un R.ok (O'.good g h)⟩
end
section
variable {many : Nat} {nm : List Int} {ms ms' : List Mv}
theorem frac_same {x y t u : Int} (t0 : 0 < t) (u0 : 0 < u) (h : x * u = y * t) : frac x t = frac y u := by
  rw [← frac_scale u0 x t, ← frac_scale t0 y u, Int.mul_comm u x, Int.mul_comm t y, h, Int.mul_comm u t]
theorem bigS_list {gs : List (List Int)} (nd : gs.Nodup) (z : Nat → Int) : bigS gs z gs.length = sumL gs fun g => if 1 < g.length then vG gs z g else 0 := by
  rw [← sumN_list]
  exact sumN_congr fun m hm => by rw [vG_at nd z hm]
theorem zP_list {gs : List (List Int)} (nd : gs.Nodup) (z : Nat → Int) (p : Nat) : zP gs z p = sumL gs fun g => if g = [(p : Int)] then vG gs z g else 0 := by
  rw [← sumN_list]
  exact sumN_congr fun m hm => by rw [vG_at nd z hm]
/-- the stays of both chains are alike -/
theorem Ren.stays (R : Ren many nm ms ms') (G : Good many ms) (G' : Good many ms') (hf : firstApart many ms = none) {z z' : Nat → Int} {t t' : Int} (S : StayOk many ms (gsOf many ms) z t) (S' : StayOk many ms' (gsOf many ms') z' t') : ∀ g ∈ gsOf many ms, vG (gsOf many ms') z' (ledG many nm g) * t = vG (gsOf many ms) z g * t' := by
  have O := gs_ok G
  have A := stG_of O S
  have B := R.stG G (R.gs G G') O.good (stG_of (gs_ok G') S')
  exact fun g hg => (stG_uniq G O (gs_meet G hf) A B g hg).symm
theorem Ren.far (R : Ren many nm ms ms') (G : Good many ms) (G' : Good many ms') (hf : firstApart many ms = none) {z z' : Nat → Int} {t t' : Int} (S : StayOk many ms (gsOf many ms) z t) (S' : StayOk many ms' (gsOf many ms') z' t') : frac (bigS (gsOf many ms') z' (gsOf many ms').length) t' = frac (bigS (gsOf many ms) z (gsOf many ms).length) t := by
  have h := R.stays G G' hf S S'
  have O := gs_ok G
  have O' := gs_ok G'
  have p := R.gs G G'
  refine frac_same S'.pos S.pos ?_
  clear S S'
  generalize gsOf many ms = gs at *
  generalize gsOf many ms' = gs' at *
  rw [bigS_list O.nd, bigS_list O'.nd, ← sumL_perm p, sumL_map, ← sumL_mulr, ← sumL_mulr]
  refine sumL_congr fun g hg => ?_
  rw [led_len R.ok (O.good g hg)]
  split
  · exact h g hg
  · rw [Int.zero_mul, Int.zero_mul]
theorem Ren.met (R : Ren many nm ms ms') (G : Good many ms) (G' : Good many ms') (hf : firstApart many ms = none) {z z' : Nat → Int} {t t' : Int} (S : StayOk many ms (gsOf many ms) z t) (S' : StayOk many ms' (gsOf many ms') z' t') {b : Nat} (hb : b < many) : frac (zP (gsOf many ms') z' (nmN nm b)) t' = frac (zP (gsOf many ms) z b) t := by
  have h := R.stays G G' hf S S'
  have O := gs_ok G
  have O' := gs_ok G'
  have p := R.gs G G'
  refine frac_same S'.pos S.pos ?_
  clear S S'
  generalize gsOf many ms = gs at *
  generalize gsOf many ms' = gs' at *
  rw [zP_list O.nd, zP_list O'.nd, ← sumL_perm p, sumL_map, ← sumL_mulr, ← sumL_mulr]
  refine sumL_congr fun g hg => ?_
  have e := ledG_one R.ok.row (x := (b : Int)) (by omega) (by omega)
  have n := (R.ok.nat hb).1
  have gb : goodG many [(b : Int)] := ⟨List.pairwise_singleton _ _, fun x hx => by rw [List.mem_singleton.mp hx]; omega⟩
  by_cases c : g = [(b : Int)]
  · rw [if_pos c, if_pos (by rw [c, e, n])]
    exact h g hg
  · rw [if_neg c, if_neg fun x => c (led_inj R.ok (O.good g hg) gb (by rw [x, e, n]))]
    rw [Int.zero_mul, Int.zero_mul]
end
section
variable {many : Nat} {nm : List Int} {ms ms' : List Mv}
/-! ### all meet, too many maps: by the new numbers -/
theorem apart_of {ms : List Mv} (G : Good many ms) (m : Meets many ms (ids many)) : firstApart many ms = none := by
  refine List.find?_eq_none.mpr fun g hg => ?_
  obtain ⟨x, y, x0, xy, ym, rfl⟩ := mem_pairsL.mp hg
  intro h
  refine (rowTo_none (pair_good x0 xy ym) G.m6).mp h (Meets.sub G.mv (ids_good many) (pair_good x0 xy ym) (by simp) (fun a ha => mem_ids.mpr ((pair_good x0 xy ym).2 a ha)) m)
theorem Ren.apart (R : Ren many nm ms ms') (G : Good many ms) (G' : Good many ms') (h : firstApart many ms = none) : firstApart many ms' = none := by
  obtain ⟨r, hv, hl⟩ := (rowTo_meets (ids_good many) G.m6).mp (apart_none G.mv G.m6 G.m1 h)
  have hg : runG many ms (ids many) r ∈ gsOf many ms := gf_run (ids_good many) G.m6 hv
  have h2 := R.gs_in G G' hg
  rw [← led_len R.ok ((gs_ok G).good _ hg)] at hl
  obtain ⟨p, hp, e⟩ := List.mem_map.mp h2
  obtain ⟨e2, hv2⟩ := gf_row p hp
  exact apart_of G' ⟨p.2, hv2, by rw [e2, e]; exact hl⟩
theorem goK_mapQ {f L : List Int} {x : Int} (hL : GoodRow many L) (x0 : 0 ≤ x) (x1 : x < (many : Int)) : goK (L.map (goK f)) x = goK f (goK L x) := by
  have h : x.toNat < L.length := by rw [hL.1]; omega
  have e := goK_get hL x0 x1
  unfold goK at e ⊢
  rw [List.getD_eq_getElem?_getD, List.getElem?_map, e]
  rfl
theorem map_goodQ {f L : List Int} (hf : GoodRow many f) (hL : GoodRow many L) : GoodRow many (L.map (goK f)) := ⟨by rw [List.length_map]; exact hL.1, fun x hx => by
  obtain ⟨y, hy, rfl⟩ := List.mem_map.mp hx
  exact goK_in' hf (hL.2 y hy).1 (hL.2 y hy).2⟩
theorem cj_map (h : Nm many nm) {f L : List Int} (hf : GoodRow many f) (hL : GoodRow many L) : (cj many nm L).map (goK (cj many nm f)) = cj many nm (L.map (goK f)) :=
  cj_of h (map_goodQ hf hL) (map_goodQ (cj_good h hf) (cj_good h hL)) fun p p0 p1 => by
    have i := h.in p0 p1
    have j := goK_in' hL p0 p1
    rw [goK_mapQ (cj_good h hL) i.1 i.2, cj_at h p0 p1, cj_at h j.1 j.2, goK_mapQ hL p0 p1]
theorem mem_row {L : List Int} (hL : GoodRow many L) {x : Int} (hx : x ∈ L) : ∃ p : Int, 0 ≤ p ∧ p < (many : Int) ∧ goK L p = x := by
  obtain ⟨i, hi, e⟩ := List.getElem_of_mem hx
  have l := hL.1
  refine ⟨(i : Int), by omega, by omega, ?_⟩
  unfold goK
  rw [Int.toNat_natCast, List.getD_eq_getElem?_getD, List.getElem?_eq_getElem hi, ← e]
  rfl
theorem two_cj (h : Nm many nm) {L : List Int} (hL : GoodRow many L) (t : Two L) : Two (cj many nm L) := by
  obtain ⟨x, hx, y, hy, ne⟩ := t
  have key : ∀ {x : Int}, x ∈ L → goK nm x ∈ cj many nm L := fun {x} hx => by
    obtain ⟨p, p0, p1, rfl⟩ := mem_row hL hx
    have i := h.in p0 p1
    rw [← cj_at h p0 p1]
    exact List.mem_of_getElem? (goK_get (cj_good h hL) i.1 i.2)
  exact ⟨_, key hx, _, key hy, fun e => ne (h.inj (hL.2 x hx).1 (hL.2 x hx).2 (hL.2 y hy).1 (hL.2 y hy).2 e)⟩
theorem cj_ids (h : Nm many nm) : cj many nm (ids many) = ids many := by
  have hi : GoodRow many (ids many) := ids_rowG many
  refine (cj_of h hi hi fun p p0 p1 => ?_).symm
  have i := h.in p0 p1
  have e : ∀ {q : Int}, 0 ≤ q → q < (many : Int) → goK (ids many) q = q := fun {q} q0 q1 => by
    have := at_ids (many := many) (fun x => x) q0 q1
    rw [List.map_id'] at this
    exact this
  rw [e i.1 i.2, e p0 p1]
theorem Ren.rmap (R : Ren many nm ms ms') (G : Good many ms) (G' : Good many ms') {L : List Int} (h : RMap many ms L) : RMap many ms' (cj many nm L) := by
  induction h with
  | here => rw [cj_ids R.ok]; exact .here
  | @step L n hL hn tw ih =>
    have gL := hL.good G.mv
    have e : rowM ms n = (ms[n]).2 := by
      unfold rowM
      rw [List.getD_eq_getElem?_getD, List.getElem?_eq_getElem hn]
      rfl
    have gr := rowM_good G.mv hn
    obtain ⟨m', h1, h2⟩ := R.mem' G G' (List.getElem_mem hn)
    obtain ⟨k, hk, e3⟩ := List.getElem_of_mem h1
    have e4 : rowM ms' k = cj many nm (rowM ms n) := by
      unfold rowM
      rw [List.getD_eq_getElem?_getD, List.getElem?_eq_getElem hk, List.getD_eq_getElem?_getD, List.getElem?_eq_getElem hn]
      show (ms'[k]).2 = cj many nm (ms[n]).2
      rw [e3, h2]
    have e5 : stepM ms' k (cj many nm L) = cj many nm (stepM ms n L) := by
      unfold stepM
      rw [e4, cj_map R.ok gr gL]
    rw [← e5]
    refine .step ih hk ?_
    rw [e5]
    exact two_cj R.ok (map_goodQ gr gL) tw
theorem Ren.many1 (R : Ren many nm ms ms') (G : Good many ms) (G' : Good many ms') (h : TooMany many ms) : TooMany many ms' := by
  obtain ⟨l, nd, hl, h30⟩ := h
  refine ⟨l.map (cj many nm), List.pairwise_map.mpr (List.Pairwise.imp_of_mem (R := (· ≠ ·)) (fun {a b} ha hb n e => n ?_) nd), fun L hL => ?_, by rw [List.length_map]; exact h30⟩
  · rw [← cj_un R.ok ((hl a ha).good G.mv), e, cj_un R.ok ((hl b hb).good G.mv)]
  · obtain ⟨x, hx, rfl⟩ := List.mem_map.mp hL
    exact R.rmap G G' (hl x hx)
theorem Ren.too_many (R : Ren many nm ms ms') (G : Good many ms) (G' : Good many ms') : TooMany many ms' ↔ TooMany many ms := ⟨(R.symm G).many1 G' G, R.many1 G G'⟩
end
section
theorem own_uniq {many : Nat} {ms : List Mv} (G : Good many ms) {g : List Int} (hg : closedL many ms = [g]) {z z' : Nat → Int} {t t' : Int} (O : OwnOk many ms g z t) (O' : OwnOk many ms g z' t') : ∀ m, m < many → frac (z m) t = frac (z' m) t' := by
  have fl := cnt_flow G
  have oc := one_cl G hg
  have st : Stat many (cnt ms) (tot ms) (fun m => t' * z m - t * z' m) := fun e he => by
    have h1 := O.st e he
    have h2 := O'.st e he
    have : (fun b => cnt ms b e * (t' * z b - t * z' b)) = fun b => t' * (cnt ms b e * z b) - t * (cnt ms b e * z' b) := funext fun b => by grind
    rw [this, sumN_sub, sumN_mul, sumN_mul, h1, h2]
    grind
  have s0 : sumN many (fun m => t' * z m - t * z' m) = 0 := by
    rw [sumN_sub, sumN_mul, sumN_mul, O.sum, O'.sum]
    grind
  intro m hm
  have := fl.inj oc st s0 m hm
  have e : t' * z m = t * z' m := by
    have h : t' * z m - t * z' m = 0 := this
    omega
  rw [← frac_scale O'.pos, e, Int.mul_comm t' t, frac_scale O.pos]
end
section
variable {many : Nat} {nm : List Int} {ms ms' : List Mv}
theorem Ren.own (R : Ren many nm ms ms') (G : Good many ms) (G' : Good many ms') {g g' : List Int} (hg : closedL many ms = [g]) (hg' : closedL many ms' = [g']) {z z' : Nat → Int} {t t' : Int} (O : OwnOk many ms g z t) (O' : OwnOk many ms' g' z' t') : ∀ b, b < many → frac (z' (nmN nm b)) t' = frac (z b) t := by
  have mg : g ∈ closedL many ms := by rw [hg]; exact List.mem_cons_self
  have gg := cl_good G mg
  have e : ledG many nm g = g' := by
    have := R.cl G G' mg
    rw [hg'] at this
    exact List.mem_singleton.mp this
  refine fun b hb => (own_uniq G hg O (z' := fun b => z' (nmN nm b)) (t' := t') ⟨O'.pos, O'.big, R.stat G O'.st, ?_, fun b hb => O'.nn _ (R.ok.nat hb).2, fun b hb => ?_⟩ b hb).symm
  · rw [R.ok.sumN z', O'.sum]
  · show 0 < z' (nmN nm b) ↔ _
    rw [O'.supp _ (R.ok.nat hb).2, (R.ok.nat hb).1, ← e]
    exact led_mem R.ok gg.2 (by omega) (by omega)
end
section
variable {P : Program} {w : World} {K : PySem.W.Frag} {mg : Str → Option Value} {base : Heap} {C : Addr}
/-! ### long_shares -/
theorem firstApart_all {many : Nat} {ms : List Mv} (m6 : many ≤ 6) (h : firstApart many ms = none) : ∀ g ∈ pairsL many, Meets many ms g := fun g hg => by
  obtain ⟨x, y, x0, xy, ym, rfl⟩ := mem_pairsL.mp hg
  have := List.find?_eq_none.mp h [x, y] hg
  exact Classical.byContradiction fun c => this ((rowTo_none (pair_good x0 xy ym) m6).mpr c)
theorem scLs : FnScope ["chain"] ["chain"] (defScope sLongShares) := ⟨rfl, rfl, rfl, by decide +kernel, rfl, by decide +kernel, by decide +kernel⟩
def spLs (C T : Addr) : Sp := fun vs H Q _ => ∃ (x : Addr) (many : Nat) (ms : List Mv), vs = [.ref x] ∧ ChainAt C H x many ms ∧ Good many ms ∧ firstApart many ms = none ∧ ¬ TooMany many ms ∧ GxR.TabG H T ∧
  ∀ g S us z t H', closedL many ms = [g] → OwnOk many ms g z t → Gr T H H' → GxR.TabG H' T → H' S = some (.lst us) → FracsAt H' us many (fun m => frac (z m) t) → Q (.ref S) H'
theorem ok_ls {f fW fT fO tI : Addr} {fd fdW fdT fdO : FuncData} (F : Fun K "long_shares" "long_shares" sLongShares f fd) (DWm : Df K mg "want_meeting" sWantMeeting ["chain"] fW fdW) (GWm : FnOk P w K mg base CX0 5 fW fdW ["chain"] (spWm C)) (DTm : Df K mg "_has_too_many_maps" sHasTooManyMaps ["chain"] fT fdT) (GTm : FnOk P w K mg base CX0 3 fT fdT ["chain"] (spTm C))
    (DOw : Df K mg "own" sOwn ["chain"] fO fdO) (GOw : FnOk P w K mg base CX0 5 fO fdO ["chain"] (spOwn C tI)) : FnOk P w K mg base CX0 6 f fd ["chain"] (spLs C tI) := by
  refine F.ok scLs (fun vs H Q E h => ?_) (fun cdv A outer s H vs Q E hr h => ?_)
  · obtain ⟨x, many, ms, rfl, _⟩ := h
    rfl
  · obtain ⟨x, many, ms, rfl, hC, G, hf, hm, hTI, q⟩ := h
    have r5 : Room 5 _ := hr
    have r3 : Room 3 _ := hr.mono (by decide)
    refine ⟨_, (pss_cons (ps_expr (pe_call GWm r5 (by rfl) DWm.g DWm.F.kp DWm.b .nil pass0 (pa_cons (pv 0) pa_nil)))
      (pss_cons (ps_if (pt_val (pe_call GTm r3 (by rfl) DTm.g DTm.F.kp DTm.b .nil pass0 (pa_cons (pv 0) pa_nil))) pss_never pss_nil)
      (pss_one (ps_ret (pe_call GOw r5 (by rfl) DOw.g DOw.F.kp DOw.b .nil pass0 (pa_cons (pv 0) pa_nil)))))), ?_⟩
    refine ⟨.ref x, rfl, x, many, ms, rfl, hC, G, hf, fun H1 s1 => ?_⟩
    refine ⟨.ref x, rfl, x, many, ms, rfl, hC.same s1, G, fun b H2 s2 hb => ?_⟩
    have s12 := s1.trans s2
    cases b with
    | true => exact absurd (hb.mp rfl) hm
    | false =>
      refine ⟨false, rfl, iteF ?_⟩
      refine ⟨.ref x, rfl, x, many, ms, rfl, hC.same s12, G, one_closed G (firstApart_all G.m6 hf), tab_same s12 hTI, fun g S us z t H3 hg O g3 hI3 hS hus => ?_⟩
      exact q g S us z t H3 hg O ((Gr.of_same s12).trans g3) hI3 hS hus
def spLsM (C CM : Addr) : Sp := fun vs H _ E => ∃ (x : Addr) (many : Nat) (ms : List Mv), vs = [.ref x] ∧ ChainAt C H x many ms ∧ Good many ms ∧ firstApart many ms = none ∧ TooMany many ms ∧ ∀ H', Same H H' → E (.ref CM) none H'
theorem ok_lsM {f fW fT CM : Addr} {fd fdW fdT : FuncData} {tF : Tok} (F : Fun K "long_shares" "long_shares" sLongShares f fd) (DWm : Df K mg "want_meeting" sWantMeeting ["chain"] fW fdW) (GWm : FnOk P w K mg base CX0 5 fW fdW ["chain"] (spWm C)) (DTm : Df K mg "_has_too_many_maps" sHasTooManyMaps ["chain"] fT fdT) (GTm : FnOk P w K mg base CX0 3 fT fdT ["chain"] (spTm C))
    (N : OwnE K mg "TooMany" CM) (gM : mg "MOST_MAPS" = some (.int 30 tF)) : FnOk P w K mg base (L2.CX P w) 6 f fd ["chain"] (spLsM C CM) := by
  refine F.okX scLs (fun vs H Q E h => ?_) (fun cdv A outer s H vs Q E hr h => ?_)
  · obtain ⟨x, many, ms, rfl, _⟩ := h
    rfl
  · obtain ⟨x, many, ms, rfl, hC, G, hf, hm, q⟩ := h
    refine ⟨_, pss_cons (ps_expr (pe_call GWm hr (by rfl) DWm.g DWm.F.kp DWm.b .nil pass0 (pa_cons (pv 0) pa_nil)))
      (pss_cons (ps_if (pt_val (pe_call GTm (hr.mono (by decide)) (by rfl) DTm.g DTm.F.kp DTm.b .nil pass0 (pa_cons (pv 0) pa_nil)))
        (pss_one (ps_raise rfl (takes_of rfl rfl rfl rfl) (SkE.pmk_own1 PySem.F.excBase_ValueError N.x N.g N.k (raises_own N.b N.t) (by exact rfl) (pe_joined (.cons pe_str (.cons (pe_fmt (pe_glob (v := .int 30) (by rfl) gM ⟨_, rfl⟩)) (.cons pe_str .nil))))))) pss_nil)
      pss_never), ?_⟩
    refine ⟨.ref x, rfl, x, many, ms, rfl, hC, G, hf, fun H1 s1 => ?_⟩
    refine ⟨.ref x, rfl, x, many, ms, rfl, hC.same s1, G, fun b H2 s2 hb => ?_⟩
    have s12 := s1.trans s2
    cases b with
    | false => exact absurd (hb.mpr hm) Bool.false_ne_true
    | true =>
      refine ⟨true, rfl, iteT ?_⟩
      have g30 : ((30 : Int)).natAbs.log2 < 1920 := by decide
      refine ⟨_, rfl, (by decide), .inr ⟨30, rfl, g30, _, rfl, fitA (m := 100) (by decide) (int_len g30) (by decide), _, rfl, ?_, ?_⟩⟩
      · have k1 : (Str.empty ++ Str.ofString "there are more than " ++ Str.ofString (toString (30 : Int))).length ≤ 100 := by decide +kernel
        exact fitA k1 (n := 100) (by decide) (by decide)
      · exact q H2 s12
end
section
variable {K : PySem.W.Frag}
theorem paired_nth {α β : Type} {F : α → β → Prop} : ∀ {l₁ : List α} {l₂ : List β}, l₁.length = l₂.length → (∀ (i : Nat) a b, l₁[i]? = some a → l₂[i]? = some b → F a b) → Paired F l₁ l₂
  | [], [], _, _ => .nil
  | a :: l₁, b :: l₂, hl, h => .cons (h 0 a b rfl rfl) (paired_nth (by simpa using hl) fun i x y h1 h2 => h (i + 1) x y (by simpa using h1) (by simpa using h2))
  | [], _ :: _, h, _ => nomatch h
  | _ :: _, [], h, _ => nomatch h
def frD (p : Int × Int) : PyData := .tuple [.int p.1, .int p.2]
theorem frD_sh {n : Nat} (p : Int × Int) : Sh (n + 1) (frD p) := Sh.tuple fun d hd => by
  rcases List.mem_cons.mp hd with rfl | hd
  · exact .int _
  · rw [List.mem_singleton.mp hd]; exact .int _
def frsD (n : Nat) (f : Nat → Int × Int) : PyData := .list ((List.range n).map fun m => frD (f m))
theorem frsD_sh (n : Nat) (f : Nat → Int × Int) : Sh 2 (frsD n f) := Sh.list fun d hd => by
  obtain ⟨m, _, rfl⟩ := List.mem_map.mp hd
  exact frD_sh _
theorem dp_frs {K : PySem.W.Frag} {H : Hp} {us : List V} {n : Nat} {f : Nat → Int × Int} (h : FracsAt H us n f) : DpAll K H us ((List.range n).map fun m => frD (f m)) := by
  have key : ∀ (vs : List V) (ps : List (Int × Int)), Paired (fun u p => FracAt H u p) vs ps → DpAll K H vs (ps.map frD) := by
    intro vs ps hp
    induction hp with
    | nil => exact .nil
    | cons h _ ih =>
      obtain ⟨a, rfl, ha⟩ := h
      exact .cons (dp_pair ha) ih
  have hp : Paired (fun u p => FracAt H u p) us ((List.range n).map f) := by
    refine paired_nth (by rw [h.1, List.length_map, List.length_range]) fun i a b h1 h2 => ?_
    rw [List.getElem?_map] at h2
    obtain ⟨m, hm, rfl⟩ := Option.map_eq_some_iff.mp h2
    have : i < n := by
      obtain ⟨q, _⟩ := List.getElem?_eq_some_iff.mp hm
      rw [List.length_range] at q
      exact q
    rw [List.getElem?_range this] at hm
    cases hm
    exact h.2 i a h1
  have := key us _ hp
  rw [List.map_map] at this
  exact this
theorem dp_frsL {K : PySem.W.Frag} {H : Hp} {S : Addr} {us : List V} {n : Nat} {f : Nat → Int × Int} (hS : H S = some (.lst us)) (h : FracsAt H us n f) : Dp K H (.ref S) (frsD n f) := .lst (SqL.of hS) (dp_frs h)
end
section
def spLaw2 (K : PySem.W.Frag) (T1 T2 : Addr) : Sp := fun vs H Q _ => ∃ (a : Addr) (ns : List Int), vs = [.ref a] ∧ SqL K H a (ns.map V.int) ∧ ns.length ≤ 63 ∧ GxR.TabG H T1 ∧ GxR.TabG H T2 ∧ ∀ H', Q (.bl true) H'
theorem tab_two {T1 T2 : Addr} {H H' : Hp} (g : Gr T1 H H') (h1 : GxR.TabG H' T1) (h2 : GxR.TabG H T2) : GxR.TabG H' T2 := by
  by_cases e : T2 = T1
  · rw [e]
    exact h1
  · obtain ⟨ps, e2, t⟩ := h2
    exact ⟨ps, g _ _ e e2, t⟩
theorem ListsAt.tab {T L : Addr} {H H' : Hp} {xss : List (List Int)} (hT : GxR.TabG H T) (g : Gr T H H') (h : ListsAt H L xss) : ListsAt H' L xss := by
  obtain ⟨vs, e, p⟩ := h
  exact ⟨vs, g.tab hT (fun _ z => nomatch z) e, L2.Paired.mapP p fun v xs ⟨a, h1, h2⟩ => ⟨a, h1, g.tab hT (fun _ z => nomatch z) h2⟩⟩
theorem FracsAt.tab {T : Addr} {H H' : Hp} {us : List V} {n : Nat} {f : Nat → Int × Int} (hT : GxR.TabG H T) (g : Gr T H H') (h : FracsAt H us n f) : FracsAt H' us n f := h.mono fun b xs e => g.tab hT (fun _ z => nomatch z) e
/-- one closed group: the places whose shares are above 0 -/
theorem one_group {many : Nat} {ms : List Mv} (m1 : 1 ≤ many) (m6 : many ≤ 6) (G : GoodAll many ms) (h : (closedL many ms).length ≤ 1) : ∃ g, closedL many ms = [g] := by
  have ne := closedL_ne (ms := ms) G m1 m6
  cases e : closedL many ms with
  | nil => exact absurd e ne
  | cons g r =>
    rw [e] at h
    cases r with
    | nil => exact ⟨g, rfl⟩
    | cons _ _ => simp at h
theorem supp_list {many : Nat} {ms : List Mv} {g : List Int} {z : Nat → Int} {t : Int} (hg : closedL many ms = [g]) (O : OwnOk many ms g z t) : (ids many).filter (fun p => decide (0 < z p.toNat)) = g := by
  have hm : g ∈ closedL many ms := by rw [hg]; exact List.mem_singleton_self g
  obtain ⟨p, _, e⟩ := List.mem_map.mp hm
  have gr : g.Pairwise (· < ·) := by rw [← e]; exact reachL_rise many ms p
  have gi : ∀ k ∈ g, 0 ≤ k ∧ k < (many : Int) := fun k hk => by rw [← e] at hk; exact reachL_in hk
  refine rise_same (List.Pairwise.filter _ (ids_pair many)) gr fun k => ?_
  rw [List.mem_filter, mem_ids, decide_eq_true_iff]
  constructor
  · rintro ⟨⟨k0, k1⟩, h⟩
    have := (O.supp k.toNat (by omega)).mp h
    rw [show ((k.toNat : Nat) : Int) = k by omega] at this
    exact this
  · intro hk
    obtain ⟨k0, k1⟩ := gi k hk
    refine ⟨⟨k0, k1⟩, (O.supp k.toNat (by omega)).mpr ?_⟩
    rw [show ((k.toNat : Nat) : Int) = k by omega]
    exact hk
end
section
variable {P : Program} {w : World} {K : PySem.W.Frag} {mg : Str → Option Value} {base : Heap} {C : Addr}
/-! ### _law_other -/
theorem ids_nd (many : Nat) : (ids many).Nodup := (ids_pair many).imp fun h => by omega
theorem nm_of {many : Nat} {nm : List Int} (p : nm.Perm (ids many)) : Nm many nm := ⟨⟨by rw [p.length_eq, ids_len], fun x hx => mem_ids.mp (p.mem_iff.mp hx)⟩, p.nodup_iff.mpr (ids_nd many)⟩
theorem erase_perm : ∀ {l : List Int} {k : Nat} {x : Int}, l[k]? = some x → (x :: l.eraseIdx k).Perm l
  | a :: l, 0, x, h => by
    simp at h
    subst h
    exact List.Perm.refl _
  | a :: l, k + 1, x, h => by
    have := erase_perm (l := l) (k := k) (x := x) (by simpa using h)
    exact (List.Perm.swap a x _).trans (this.cons a)
  | [], k, x, h => by simp at h
theorem perm_pop {many : Nat} {nm left : List Int} {k : Nat} {x : Int} (p : (nm ++ left).Perm (ids many)) (h : left[k]? = some x) : (nm ++ [x] ++ left.eraseIdx k).Perm (ids many) := by
  rw [List.append_assoc]
  exact (List.Perm.append_left nm (erase_perm h)).trans p
theorem erase_mapO : ∀ (l : List Int) (x : Nat), (l.map V.int).eraseIdx x = (l.eraseIdx x).map V.int
  | [], _ => rfl
  | _ :: _, 0 => rfl
  | a :: l, x + 1 => by
    show V.int a :: (l.map V.int).eraseIdx x = V.int a :: (l.eraseIdx x).map V.int
    rw [erase_mapO l x]
theorem cut_fromO (xs : List V) (r : Nat) : cutV xs (some (r : Int)) none = xs.drop r := by
  unfold cutV
  rw [HT.sIx_nat, HT.sIx_none]
  by_cases c : r ≤ xs.length
  · rw [Nat.min_eq_left c, List.take_of_length_le (by rw [List.length_drop]; exact Nat.le_refl _)]
  · rw [List.drop_eq_nil_of_le (show xs.length ≤ min r xs.length by omega), List.drop_eq_nil_of_le (show xs.length ≤ r by omega)]
    exact List.take_nil
theorem cut_toO (xs : List V) (r : Nat) : cutV xs none (some (r : Int)) = xs.take r := by
  unfold cutV
  rw [HT.sIx_nat, HT.sIx_none, List.drop_zero, Nat.sub_zero]
  by_cases c : r ≤ xs.length
  · rw [Nat.min_eq_left c]
  · rw [List.take_of_length_le (show xs.length ≤ min r xs.length by omega), List.take_of_length_le (show xs.length ≤ r by omega)]
theorem sumL_rot {α : Type} (l : List α) (n : Nat) (f : α → Int) : sumL (l.drop n ++ l.take n) f = sumL l f := by
  rw [sumL_app, Int.add_comm, ← sumL_app, List.take_append_drop]
theorem good_set {many : Nat} {cur : List Int} (h : GoodRow many cur) {n : Nat} {x : Int} (x0 : 0 ≤ x) (x1 : x < (many : Int)) : GoodRow many (cur.set n x) := ⟨by rw [List.length_set]; exact h.1, fun y hy => by
  rcases List.mem_or_eq_of_mem_set hy with z | z
  · exact h.2 y z
  · rw [z]; exact ⟨x0, x1⟩⟩
theorem goK_set {many : Nat} {cur : List Int} (h : GoodRow many cur) {p q x : Int} (p0 : 0 ≤ p) (p1 : p < (many : Int)) (q0 : 0 ≤ q) : goK (cur.set p.toNat x) q = if q = p then x else goK cur q := by
  unfold goK
  rw [List.getD_eq_getElem?_getD, List.getElem?_set]
  by_cases c : q = p
  · rw [if_pos (by rw [c]), if_pos (by rw [h.1]; omega), if_pos c]
    rfl
  · rw [if_neg (by omega), if_neg c, List.getD_eq_getElem?_getD]
theorem map_int_set (cur : List Int) (n : Nat) (x : Int) : (cur.map V.int).set n (.int x) = (cur.set n x).map V.int := (List.map_set (f := V.int)).symm
theorem ixN_at {p : Int} {n : Nat} (p0 : 0 ≤ p) (p1 : p < (n : Int)) : ixN n p = some p.toNat := by
  unfold ixN
  rw [if_pos p0, if_pos p1]
theorem row_get {many : Nat} {row : List Int} (h : GoodRow many row) {p : Int} (p0 : 0 ≤ p) (p1 : p < (many : Int)) : atI (row.map V.int) p = some (.int (goK row p)) :=
  at_of (show p = ((p.toNat : Nat) : Int) by omega) (by rw [List.getElem?_map, goK_get h p0 p1]; rfl)
theorem scOt : FnScope ["_law_d", "_law_told", "_law_left", "_law_names", "_law_place", "_law_moves", "_law_weight", "_law_row", "_law_new", "_law_turn"] ["_law_d", "_law_told"] (defScope sLawOther) := ⟨rfl, rfl, rfl, by decide +kernel, rfl, by decide +kernel, by decide +kernel⟩
def spOt (K : PySem.W.Frag) : Sp := fun vs H Q _ => ∃ (d l t m : Addr) (ns : List Int) (many : Nat) (ws : List V) (ms : List Mv), vs = [.ref d, .ref t] ∧ Dc K l ns H d ∧ ToldAt H t m many ws ms ∧ Good many ms ∧ m ≠ d ∧
  ∀ (p na t' m' : Addr) (nm : List Int) (ws' : List V) (ms' : List Mv) H', H' p = some (.tup [.ref na, .ref t']) → H' na = some (.lst (nm.map V.int)) → ToldAt H' t' m' many ws' ms' → Good many ms' → Ren many nm ms ms' → Gr d H H' → Dc K l ns H' d → Q (.ref p) H'
theorem ok_ot {f fc fd' fo : Addr} {fd fdc fdd fdo : FuncData} (F : Fun K "_law_other" "_law_other" sLawOther f fd) (T : LawTxt K mg fc fd' fo fdc fdd fdo) (mL : mg "list" = none) : FnOk P w K mg base CX0 3 f fd ["_law_d", "_law_told"] (spOt K) := by
  have GO : FnOk P w K mg base CX0 2 fo fdo ["_law_d", "_law_most"] (spOff K) := T.off
  refine F.ok scOt (fun vs H Q E h => ?_) (fun cdv A outer s H vs Q E hr h => ?_)
  · obtain ⟨d, l, t, m, ns, many, ws, ms, rfl, _⟩ := h
    rfl
  · obtain ⟨d, l, t, m, ns, many, ws, ms, rfl, hD, hT, G, nmd, q⟩ := h
    refine ⟨_, (pss_cons (ps_set (i := 2) scOt.nd rfl (.inl rfl) (pe_listRg rfl (by rfl) mL (prg_1 (by rfl) T.mr (pe_ix ix_tup (pv 1) pe_int (fun _ _ => rfl)))))
      (pss_cons (ps_set (i := 3) scOt.nd rfl (.inl rfl) (pe_lst pa_nil))
      (pss_cons (ps_for PassesOwn.never rfl (pi_range1 (by rfl) T.mr (pa_cons (pe_ix ix_tup (pv 1) pe_int (fun _ _ => rfl)) pa_nil)) (pg_name (i := 4) scOt.nd rfl (.inl rfl)) (pss_one (ps_expr (pe_bm PySem.F.plainAttrs_list PySem.F.slot_list_append PySem.F.type_list_append mt_append (pv 3) (pa_cons (pe_bm PySem.F.plainAttrs_list PySem.F.slot_list_pop PySem.F.type_list_pop mt_popAt (pv 2) (pa_cons (pe_call GO hr (by rfl) T.gO T.FO.kp T.bO .nil pass0 (pa_cons (pv 0) (pa_cons (pe_callB call_len_seq (by rfl) T.ml PySem.boot_len (pa_cons (pv 2) pa_nil)) pa_nil))) pa_nil)) pa_nil)))))
      (pss_cons (ps_set (i := 5) scOt.nd rfl (.inl rfl) (pe_lst pa_nil))
      (pss_cons (ps_for PassesOwn.never rfl (pi_list (pe_ix ix_tup (pv 1) pe_int (fun _ _ => rfl))) (pg_tup rfl (pgs_cons (pg_name (i := 6) scOt.nd rfl (.inl rfl)) (pgs_cons (pg_name (i := 7) scOt.nd rfl (.inl rfl)) pgs_nil))) (pss_cons (ps_set (i := 8) scOt.nd rfl (.inl rfl) (pe_op op_rep (pe_lst (pa_cons pe_int pa_nil)) (pe_ix ix_tup (pv 1) pe_int (fun _ _ => rfl))))
      (pss_cons (ps_for PassesOwn.never rfl (pi_range1 (by rfl) T.mr (pa_cons (pe_ix ix_tup (pv 1) pe_int (fun _ _ => rfl)) pa_nil)) (pg_name (i := 4) scOt.nd rfl (.inl rfl)) (pss_one (ps_asg (pe_ix ix_list (pv 3) (pe_ix ix_tup (pv 7) (pv 4) (fun _ _ => rfl)) (fun _ _ => rfl)) (pg_sub (pv 8) (pe_ix ix_list (pv 3) (pv 4) (fun _ _ => rfl)) set_list))))
      (C8.pss_cut (ps_if (PW.pt (pw_and (pt_cmpR op_gt (pv 6) pe_int (nomark _)) (pw_and (pt_cmpR op_lt (pe_callB call_len_seq (by rfl) T.ml PySem.boot_len (pa_cons (pe_ix ix_tup (pv 1) pe_int (fun _ _ => rfl)) pa_nil)) pe_int (nomark _)) (pw_and1 (pt_cmpR op_eq (pe_call GO hr (by rfl) T.gO T.FO.kp T.bO .nil pass0 (pa_cons (pv 0) (pa_cons pe_int pa_nil))) pe_int (nomark _)))))) (pss_cons (ps_expr (pe_bm PySem.F.plainAttrs_list PySem.F.slot_list_append PySem.F.type_list_append mt_append (pv 5) (pa_cons (pe_tup (pa_cons pe_int (pa_cons (pe_callTy call_tuple_of (by rfl) T.mt (by decide +kernel) (pa_cons (pv 8) pa_nil)) pa_nil))) pa_nil)))
      (pss_one (ps_set (i := 6) scOt.nd rfl (.inl rfl) (pe_op op_sub (pv 6) pe_int)))) pss_nil)
      (pss_one (ps_expr (pe_bm PySem.F.plainAttrs_list PySem.F.slot_list_append PySem.F.type_list_append mt_append (pv 5) (pa_cons (pe_tup (pa_cons (pv 6) (pa_cons (pe_callTy call_tuple_of (by rfl) T.mt (by decide +kernel) (pa_cons (pv 8) pa_nil)) pa_nil))) pa_nil))))))))
      (pss_cons (ps_set (i := 9) scOt.nd rfl (.inl rfl) (pe_call GO hr (by rfl) T.gO T.FO.kp T.bO .nil pass0 (pa_cons (pv 0) (pa_cons (pe_callB call_len_seq (by rfl) T.ml PySem.boot_len (pa_cons (pv 5) pa_nil)) pa_nil))))
      (pss_one (ps_ret (pe_tup (pa_cons (pv 3) (pa_cons (pe_tup (pa_cons (pe_ix ix_tup (pv 1) pe_int (fun _ _ => rfl)) (pa_cons (pe_op op_cat (pe_slice sl_list (pv 5) (po_some (pv 9)) po_none) (pe_slice sl_list (pv 5) po_none (po_some (pv 9)))) pa_nil))) pa_nil))))))))))), ?_⟩
    have m1 := G.m1
    have m6 := G.m6
    have l8 := G.l8
    have l1 := G.l1
    have lenW := hT.2.2.length
    have ntd : t ≠ d := hD.ne_of hT.1 fun _ _ _ _ z => nomatch z
    -- left
    refine ⟨.ref t, rfl, t, _, 0, _, rfl, rfl, SqT.of hT.1, atI_nat (j := 0) rfl, _, rfl, RgOk.of_le (by omega) (by omega) (by omega) (by omega), fun Le nHLe => ?_⟩
    rw [rg_ends]
    have nLd : Le ≠ d := hD.ne nHLe
    have s1 := same_new (o := .lst (((List.range many).map fun (i : Nat) => (i : Int)).map V.int)) nHLe
    have hLe1 : (upd H Le (.lst (((List.range many).map fun (i : Nat) => (i : Int)).map V.int))) Le = some (.lst ((ids many).map V.int)) := upd_same
    show gName 2 _ _ (upd H Le (.lst (((List.range many).map fun (i : Nat) => (i : Int)).map V.int))) _
    generalize upd H Le (.lst (((List.range many).map fun (i : Nat) => (i : Int)).map V.int)) = H1 at s1 hLe1 ⊢
    -- names
    refine ⟨Nat.zero_le _, fun N nN => ?_⟩
    have s2 := s1.trans (same_new (o := .lst []) nN)
    have hLe2 := same_new (o := .lst []) nN _ _ hLe1
    have hN2 : (upd H1 N (.lst [])) N = some (.lst []) := upd_same
    have nHN : H N = none := s1.free nN
    have nNd : N ≠ d := hD.ne nHN
    have nLN : Le ≠ N := ne_of_none hLe1 nN
    show gName 3 _ _ (upd H1 N (.lst [])) _
    generalize upd H1 N (.lst []) = H2 at s2 hLe2 hN2 ⊢
    refine ⟨.ref t, rfl, t, _, 0, _, rfl, rfl, SqT.of (s2 _ _ hT.1), atI_nat (j := 0) rfl, _, rfl, by omega, by omega, ?_⟩
    refine for_range (lo := 0) (n := ((many : Nat) : Int).toNat) (fun i σ H' => ∃ (y4 : Option V) (nm left : List Int), σ = [some (.ref d), some (.ref t), some (.ref Le), some (.ref N), y4, none, none, none, none, none] ∧ Dc K l ns H' d ∧ Gr d H H' ∧ H' Le = some (.lst (left.map V.int)) ∧ H' N = some (.lst (nm.map V.int)) ∧ nm.length = i ∧ (nm ++ left).Perm (ids many))
      ⟨none, [], ids many, rfl, hD.same s2, Gr.of_same s2, hLe2, hN2, rfl, List.Perm.refl _⟩ ?_ ?_
    · rintro i σ H3 hi ⟨y4, nm, left, rfl, hD3, g3, hLe3, hN3, hl, hp⟩
      rw [Int.toNat_natCast] at hi
      have ll : nm.length + left.length = many := by
        have := hp.length_eq
        rw [List.length_append, ids_len] at this
        exact this
      refine ⟨.ref N, rfl, .inl ⟨rfl, _, SqL.of hN3⟩, .ref Le, rfl, .inl ⟨rfl, _, SqL.of hLe3⟩, .ref d, rfl, .ref Le, rfl, Le, _, rfl, .inl (SqL.of hLe3), ?_⟩
      rw [List.length_map]
      refine ⟨d, l, ns, _, rfl, hD3, by omega, by omega, fun r H4 hr4 hD4 o4 => ?_⟩
      have hLe4 : H4 Le = some (.lst (left.map V.int)) := by rw [o4 _ nLd]; exact hLe3
      have hN4 : H4 N = some (.lst (nm.map V.int)) := by rw [o4 _ nNd]; exact hN3
      have g4 := g3.off o4
      have hrl : r < left.length := by omega
      obtain ⟨x, ex⟩ : ∃ x, left[r]? = some x := ⟨_, List.getElem?_eq_getElem hrl⟩
      refine ⟨Le, left.map V.int, (r : Int), r, .int x, rfl, rfl, hLe4, by omega, by omega, ?_, by rw [List.getElem?_map, ex]; rfl, ?_⟩
      · rw [List.length_map, seqIndex_of (by omega) (by omega), Int.toNat_natCast]
      have hN5 : (upd H4 Le (.lst ((left.map V.int).eraseIdx r))) N = some (.lst (nm.map V.int)) := by rw [upd_ne (Ne.symm nLN)]; exact hN4
      refine ⟨N, _, _, rfl, rfl, hN5, lt1k (by rw [List.length_map]; omega), ?_⟩
      refine ⟨_, nm ++ [x], left.eraseIdx r, rfl, ?_, ?_, ?_, ?_, ?_, perm_pop hp ex⟩
      · exact (hD4.turn hD nHLe nLd).turn hD nHN nNd
      · intro b o nb e
        rw [upd_ne (ne_of_none e nHN), upd_ne (ne_of_none e nHLe)]
        exact g4 b o nb e
      · rw [upd_ne nLN, upd_same, erase_mapO]
      · rw [upd_same, List.map_append]
        rfl
      · rw [List.length_append, hl]
        rfl
    rintro σ H3 ⟨y4, nm, left, rfl, hD3, g3, hLe3, hN3, hl, hp⟩
    rw [Int.toNat_natCast] at hl
    have hnm : nm.Perm (ids many) := by
      have := hp.length_eq
      rw [List.length_append, ids_len] at this
      have e : left = [] := List.length_eq_zero_iff.mp (by omega)
      rw [e, List.append_nil] at hp
      exact hp
    have R := nm_of hnm
    clear hp hLe3 hLe2 hN2 hLe1 s1 s2
    -- moves
    refine ⟨Nat.zero_le _, fun M nM => ?_⟩
    have hD4 := hD3.new (o := .lst []) nM
    have g4 := g3.new (o := .lst []) nM
    have hN4 := same_new (o := .lst []) nM _ _ hN3
    have hM4 : (upd H3 M (.lst [])) M = some (.lst []) := upd_same
    have nHM : ∀ {b o}, b ≠ d → H b = some o → b ≠ M := fun nb e => ne_of_none (g3 _ _ nb e) nM
    have nMd : M ≠ d := hD3.ne nM
    have nNM : N ≠ M := ne_of_none hN3 nM
    show gName 5 _ _ (upd H3 M (.lst [])) _
    generalize upd H3 M (.lst []) = H4 at hD4 g4 hN4 hM4 ⊢
    have hT4 : ToldAt H4 t m many ws ms := ⟨g4 _ _ ntd hT.1, g4 _ _ nmd hT.2.1, hT.2.2.same (g4.tups hD)⟩
    refine ⟨.ref t, rfl, t, _, 1, _, rfl, rfl, SqT.of hT4.1, atI_nat (j := 1) rfl, m, rfl, ⟨_, SqL.of hT4.2.1⟩, ?_⟩
    refine for_list (K := K) (a := m) (xs := ws) (fun j σ H' => ∃ (y4 y6 y7 y8 : Option V) (ws' : List V) (ms' : List Mv), σ = [some (.ref d), some (.ref t), some (.ref Le), some (.ref N), y4, some (.ref M), y6, y7, y8, none] ∧ Dc K l ns H' d ∧ (∀ b o, b ≠ d → b ≠ M → H4 b = some o → H' b = some o) ∧ H' M = some (.lst ws') ∧ MovesAt H' ws' ms' ∧ (∀ mv ∈ ms', GoodMv many mv) ∧ j ≤ ms'.length ∧ ms'.length ≤ (if ms.length < 5 then 2 * j else j) ∧ (∀ φ : List Int → Int, (sumL ms' fun m => m.1 * φ m.2) = sumL (ms.take j) fun m => m.1 * φ (cj many nm m.2)))
      ⟨y4, none, none, none, [], [], rfl, hD4, fun _ _ _ _ e => e, hM4, .nil, (fun _ z => nomatch z), Nat.le_refl _, by simp, fun φ => rfl⟩ (fun j σ H' _ ⟨_, _, _, _, _, _, _, _, k, _⟩ => SqL.of (k _ _ nmd (nHM nmd hT.2.1) hT4.2.1)) ?_ ?_
    · rintro j v σ H5 hv ⟨y4, y6, y7, y8, ws5, ms5, rfl, hD5, k5, hM5, hMv5, gm5, j5, l5, sm5⟩
      obtain ⟨mv, emv, ta, tb, rfl, hta, htb⟩ := hT4.2.2.get' hv
      have jl : j < ms.length := (List.getElem?_eq_some_iff.mp emv).1
      have gm := G.mv mv (List.mem_of_getElem? emv)
      have nt : ∀ {b xs}, H4 b = some (HO.tup xs) → b ≠ d ∧ b ≠ M := fun e => ⟨hD4.ne_of e (fun _ _ _ _ z => nomatch z), fun z => by rw [z, hM4] at e; cases e⟩
      have kt : ∀ {b xs}, H4 b = some (HO.tup xs) → H5 b = some (HO.tup xs) := fun e => k5 _ _ (nt e).1 (nt e).2 e
      have hta5 := kt hta
      have htb5 := kt htb
      have htt5 := kt hT4.1
      have hN5 := k5 _ _ nNd nNM hN4
      have hm5 := k5 _ _ nmd (nHM nmd hT.2.1) hT4.2.1
      refine ⟨ta, _, rfl, SqT.of hta5, rfl, .int mv.1, [.ref tb], rfl, .ref tb, [], rfl, rfl, ?_⟩
      -- new
      refine ⟨(by show 1 ≤ sizeLine; decide), fun z0 nz0 => ?_⟩
      have t1 := same_new (o := .lst [.int 0]) nz0
      refine ⟨.ref t, rfl, t, _, 0, _, rfl, rfl, SqT.of (t1 _ _ htt5), atI_nat (j := 0) rfl, z0, (many : Int), _, rfl, rfl, upd_same, by omega, by omega, ?_, fun NW nNW => ?_⟩
      · show 1 * ((many : Nat) : Int).toNat ≤ sizeLine
        rw [Int.toNat_natCast, Nat.one_mul]
        exact Nat.le_of_lt (small8 (by omega))
      have t2 := t1.trans (same_new (o := .lst (List.replicate ((many : Nat) : Int).toNat [V.int 0]).flatten) nNW)
      have e0 : (List.replicate ((many : Nat) : Int).toNat [V.int 0]).flatten = (List.replicate many (0 : Int)).map V.int := by
        rw [Int.toNat_natCast, List.map_replicate]
        generalize many = n
        induction n with
        | zero => rfl
        | succ n ih => rw [List.replicate_succ, List.flatten_cons, ih, List.replicate_succ]; rfl
      rw [e0] at t2 ⊢
      have hNW6 : (upd (upd H5 z0 (.lst [.int 0])) NW (.lst ((List.replicate many (0 : Int)).map V.int))) NW = some (.lst ((List.replicate many (0 : Int)).map V.int)) := upd_same
      have nNWH : H5 NW = none := t1.free nNW
      show gName 8 _ _ (upd (upd H5 z0 (.lst [.int 0])) NW (.lst ((List.replicate many (0 : Int)).map V.int))) _
      generalize upd (upd H5 z0 (.lst [.int 0])) NW (.lst ((List.replicate many (0 : Int)).map V.int)) = H6 at t2 hNW6 ⊢
      refine ⟨.ref t, rfl, t, _, 0, _, rfl, rfl, SqT.of (t2 _ _ htt5), atI_nat (j := 0) rfl, _, rfl, by omega, by omega, ?_⟩
      refine for_range (lo := 0) (n := ((many : Nat) : Int).toNat) (fun i σ H' => ∃ (y4 : Option V) (cur : List Int), σ = [some (.ref d), some (.ref t), some (.ref Le), some (.ref N), y4, some (.ref M), some (.int mv.1), some (.ref tb), some (.ref NW), none] ∧ (∀ b o, b ≠ NW → H6 b = some o → H' b = some o) ∧ H' NW = some (.lst (cur.map V.int)) ∧ GoodRow many cur ∧ ∀ p : Int, 0 ≤ p → p < (i : Int) → goK cur (goK nm p) = goK nm (goK mv.2 p))
        ⟨y4, List.replicate many 0, rfl, fun _ _ _ e => e, hNW6, ⟨List.length_replicate, fun x hx => by rw [(List.mem_replicate.mp hx).2]; omega⟩, fun p p0 p1 => absurd p1 (by omega)⟩ ?_ ?_
      · rintro i σ H7 hi ⟨y4, cur, rfl, k7, hNW7, gc, st⟩
        rw [Int.toNat_natCast] at hi
        have hN7 := k7 _ _ (ne_of_none hN5 nNWH) (t2 _ _ hN5)
        have htb7 := k7 _ _ (ne_of_none htb5 nNWH) (t2 _ _ htb5)
        have p0 : (0 : Int) ≤ 0 + (i : Int) := by omega
        have p1 : 0 + (i : Int) < (many : Int) := by omega
        have w1 := goK_in' gm.2.2 p0 p1
        have w2 := R.in p0 p1
        have w3 := R.in w1.1 w1.2
        refine ⟨.ref N, rfl, .ref tb, rfl, .int (0 + (i : Int)), rfl, tb, _, _, _, rfl, rfl, SqT.of htb7, row_get gm.2.2 p0 p1, N, _, _, _, rfl, rfl, SqL.of hN7, row_get R.row w1.1 w1.2, ?_⟩
        refine ⟨.ref NW, rfl, .ref N, rfl, .int (0 + (i : Int)), rfl, N, _, _, _, rfl, rfl, SqL.of hN7, row_get R.row p0 p1, NW, _, _, _, rfl, rfl, hNW7, ixN_at w2.1 (by rw [List.length_map, gc.1]; exact w2.2), ?_⟩
        refine ⟨_, cur.set (goK nm (0 + (i : Int))).toNat (goK nm (goK mv.2 (0 + (i : Int)))), rfl, fun b o nb e => by rw [upd_ne nb]; exact k7 b o nb e, by rw [upd_same, map_int_set], good_set gc w3.1 w3.2, fun p q0 q1 => ?_⟩
        have wp := R.in q0 (show p < (many : Int) by omega)
        rw [goK_set gc w2.1 w2.2 wp.1]
        by_cases c : p = 0 + (i : Int)
        · rw [c, if_pos rfl]
        · rw [if_neg fun z => c (R.inj q0 (by omega) p0 p1 z), st p q0 (by omega)]
      rintro σ H7 ⟨y4, cur, rfl, k7, hNW7, gc, st⟩
      rw [Int.toNat_natCast] at st
      have ecur : cur = cj many nm mv.2 := cj_of R gm.2.2 gc st
      have nMNW : M ≠ NW := ne_of_none hM5 nNWH
      have h57 : ∀ b o, H5 b = some o → H7 b = some o := fun b o e => k7 b o (ne_of_none e nNWH) (t2 _ _ e)
      have hD7 : Dc K l ns H7 d := hD5.same h57
      have hM7 := h57 _ _ hM5
      have hm7 := h57 _ _ hm5
      have htt7 := h57 _ _ htt5
      have hMv7 : MovesAt H7 ws5 ms5 := hMv5.same fun b xs e => h57 _ _ e
      have k47 : ∀ b o, b ≠ d → b ≠ M → H4 b = some o → H7 b = some o := fun b o n1 n2 e => h57 _ _ (k5 b o n1 n2 e)
      have nNWd : NW ≠ d := hD5.ne nNWH
      have lws5 := hMv5.length
      have wh : ∀ φ : List Int → Int, (sumL (ms.take (j + 1)) fun m => m.1 * φ (cj many nm m.2)) = (sumL (ms.take j) fun m => m.1 * φ (cj many nm m.2)) + mv.1 * φ cur := fun φ => by
        rw [take_snoc emv, sumL_app, sumL_cons, sumL_nil, Int.add_zero, ecur]
      clear k7 t1 t2 h57 hM5 hMv5 k5 hNW6 st hta5 htb5 htt5 hN5 hm5 hD5
      -- told as two?
      let Mid : L2.St → Hp → Prop := fun σ H' => ∃ (wt : Int) (ws' : List V) (ms' : List Mv), σ = [some (.ref d), some (.ref t), some (.ref Le), some (.ref N), y4, some (.ref M), some (.int wt), some (.ref tb), some (.ref NW), none] ∧ Dc K l ns H' d ∧ (∀ b o, b ≠ d → b ≠ M → H4 b = some o → H' b = some o) ∧ H' M = some (.lst ws') ∧ MovesAt H' ws' ms' ∧ H' NW = some (.lst (cur.map V.int)) ∧ (∀ mv ∈ ms', GoodMv many mv) ∧ 1 ≤ wt ∧ wt ≤ 99 ∧ j ≤ ms'.length ∧ ms'.length + 1 ≤ (if ms.length < 5 then 2 * (j + 1) else j + 1) ∧ ∀ φ : List Int → Int, (sumL ms' fun m => m.1 * φ m.2) + wt * φ cur = sumL (ms.take (j + 1)) fun m => m.1 * φ (cj many nm m.2)
      have mid0 : ∀ H8, Dc K l ns H8 d → (∀ b, b ≠ d → H8 b = H7 b) → Mid [some (.ref d), some (.ref t), some (.ref Le), some (.ref N), y4, some (.ref M), some (.int mv.1), some (.ref tb), some (.ref NW), none] H8 := fun H8 hD8 o8 =>
        ⟨mv.1, ws5, ms5, rfl, hD8, fun b o n1 n2 e => by rw [o8 b n1]; exact k47 b o n1 n2 e, by rw [o8 _ nMd]; exact hM7, hMv7.same fun b xs e => by
          rw [o8 b (hD7.ne_of e fun _ _ _ _ z => nomatch z)]
          exact e, by rw [o8 _ nNWd]; exact hNW7, gm5, gm.1, gm.2.1, j5, by split at l5 <;> split <;> omega, fun φ => by rw [sm5 φ, wh φ]⟩
      refine ⟨Mid, ?_, ?_⟩
      · refine ⟨.int mv.1, rfl, _, _, rfl, rfl, _, rfl, ite2 (fun c1 => ?_) (fun _ => iteF (mid0 H7 hD7 fun _ _ => rfl))⟩
        have w2 : 1 < mv.1 := of_decide_eq_true c1
        refine ⟨.ref t, rfl, t, _, 1, _, rfl, rfl, SqT.of htt7, atI_nat (j := 1) rfl, m, _, rfl, .inl (SqL.of hm7), _, _, rfl, rfl, _, rfl, ite2 (fun c2 => ?_) (fun _ => iteF (mid0 H7 hD7 fun _ _ => rfl))⟩
        have l5' : ms.length < 5 := by
          have : ((ws.length : Nat) : Int) < 5 := of_decide_eq_true c2
          omega
        refine ⟨.ref d, rfl, d, l, ns, _, rfl, hD7, by decide, by decide, fun r H8 hr8 hD8 o8 => ⟨rfl, _, rfl, ite2 (fun _ => ?_) (fun _ => mid0 H8 hD8 o8)⟩⟩
        have hM8 : H8 M = some (.lst ws5) := by rw [o8 _ nMd]; exact hM7
        have hNW8 : H8 NW = some (.lst (cur.map V.int)) := by rw [o8 _ nNWd]; exact hNW7
        have hMv8 : MovesAt H8 ws5 ms5 := hMv7.same fun b xs e => by
          rw [o8 b (hD7.ne_of e fun _ _ _ _ z => nomatch z)]
          exact e
        rw [if_pos l5'] at l5
        refine ⟨.ref M, rfl, .inl ⟨rfl, _, SqL.of hM8⟩, .ref NW, rfl, NW, _, rfl, .inl ⟨SqL.of hNW8, fun tq ntq => ?_⟩⟩
        refine ⟨by show 2 ≤ sizeLine; decide, fun tp ntp => ?_⟩
        have u1 : Same H8 (upd (upd H8 tq (.tup (cur.map V.int))) tp (.tup [.int 1, .ref tq])) := (same_new ntq).trans (same_new ntp)
        have htp : (upd (upd H8 tq (.tup (cur.map V.int))) tp (.tup [.int 1, .ref tq])) tp = some (.tup [.int 1, .ref tq]) := upd_same
        have htq : (upd (upd H8 tq (.tup (cur.map V.int))) tp (.tup [.int 1, .ref tq])) tq = some (.tup (cur.map V.int)) := by
          rw [upd_ne (ne_of_none upd_same ntp)]
          exact upd_same
        generalize (upd (upd H8 tq (.tup (cur.map V.int))) tp (.tup [.int 1, .ref tq])) = H9 at u1 htp htq ⊢
        have hM9 := u1 _ _ hM8
        have hMv9 : MovesAt H9 ws5 ms5 := hMv8.same (Same.tups u1)
        have kM : ∀ b xs, H9 b = some (HO.tup xs) → (upd H9 M (.lst (ws5 ++ [.ref tp]))) b = some (HO.tup xs) := fun b xs e => by
          rw [upd_ne fun z => by rw [z, hM9] at e; cases e]
          exact e
        refine ⟨M, _, _, rfl, rfl, hM9, lt1k (by omega), ?_⟩
        refine ⟨.int mv.1, rfl, mv.1, 1, rfl, rfl, ?_⟩
        refine ⟨mv.1 - 1, ws5 ++ [.ref tp], ms5 ++ [(1, cur)], rfl, ?_, fun b o n1 n2 e => by rw [upd_ne n2]; exact u1 _ _ (by rw [o8 b n1]; exact k47 b o n1 n2 e), upd_same, ?_, ?_, fun mv' hmv => ?_, by omega, by have := gm.2.1; omega, ?_, ?_, fun φ => ?_⟩
        · exact (hD8.same u1).turn hD3 nM nMd
        · exact MovesAt.snoc ⟨tp, tq, rfl, kM _ _ htp, kM _ _ htq⟩ (hMv9.same kM)
        · rw [upd_ne (Ne.symm nMNW)]
          exact u1 _ _ hNW8
        · rcases List.mem_append.mp hmv with z | z
          · exact gm5 mv' z
          · rw [List.mem_singleton.mp z]
            exact ⟨(by show (1 : Int) ≤ 1; decide), (by show (1 : Int) ≤ 99; decide), gc⟩
        · rw [List.length_append]
          show j ≤ ms5.length + 1
          omega
        · rw [List.length_append, if_pos l5']
          show ms5.length + 1 + 1 ≤ _
          omega
        · rw [sumL_app, sumL_cons, sumL_nil, Int.add_zero, sm5 φ, wh φ]
          show _ + 1 * φ cur + (mv.1 - 1) * φ cur = _
          rw [Int.sub_mul, Int.one_mul]
          omega
      rintro σ H8 ⟨wt, ws8, ms8, rfl, hD8, k8, hM8, hMv8, hNW8, gm8, w1, w9, j8, l8', sm8⟩
      have lws8 := hMv8.length
      have l64 : ms8.length ≤ 16 := by split at l8' <;> omega
      refine ⟨.ref M, rfl, .inl ⟨rfl, _, SqL.of hM8⟩, .int wt, rfl, .ref NW, rfl, NW, _, rfl, .inl ⟨SqL.of hNW8, fun tq ntq => ?_⟩⟩
      refine ⟨by show 2 ≤ sizeLine; decide, fun tp ntp => ?_⟩
      have u1 : Same H8 (upd (upd H8 tq (.tup (cur.map V.int))) tp (.tup [.int wt, .ref tq])) := (same_new ntq).trans (same_new ntp)
      have htp : (upd (upd H8 tq (.tup (cur.map V.int))) tp (.tup [.int wt, .ref tq])) tp = some (.tup [.int wt, .ref tq]) := upd_same
      have htq : (upd (upd H8 tq (.tup (cur.map V.int))) tp (.tup [.int wt, .ref tq])) tq = some (.tup (cur.map V.int)) := by
        rw [upd_ne (ne_of_none upd_same ntp)]
        exact upd_same
      generalize (upd (upd H8 tq (.tup (cur.map V.int))) tp (.tup [.int wt, .ref tq])) = H9 at u1 htp htq ⊢
      have hM9 := u1 _ _ hM8
      have hMv9 : MovesAt H9 ws8 ms8 := hMv8.same (Same.tups u1)
      have kM : ∀ b xs, H9 b = some (HO.tup xs) → (upd H9 M (.lst (ws8 ++ [.ref tp]))) b = some (HO.tup xs) := fun b xs e => by
        rw [upd_ne fun z => by rw [z, hM9] at e; cases e]
        exact e
      refine ⟨M, _, _, rfl, rfl, hM9, lt1k (by omega), ?_⟩
      refine ⟨_, _, _, _, ws8 ++ [.ref tp], ms8 ++ [(wt, cur)], rfl, ?_, fun b o n1 n2 e => by rw [upd_ne n2]; exact u1 _ _ (k8 b o n1 n2 e), upd_same, ?_, fun mv' hmv => ?_, ?_, ?_, fun φ => ?_⟩
      · exact (hD8.same u1).turn hD3 nM nMd
      · exact MovesAt.snoc ⟨tp, tq, rfl, kM _ _ htp, kM _ _ htq⟩ (hMv9.same kM)
      · rcases List.mem_append.mp hmv with z | z
        · exact gm8 mv' z
        · rw [List.mem_singleton.mp z]
          exact ⟨w1, w9, gc⟩
      · rw [List.length_append]
        show j + 1 ≤ ms8.length + 1
        omega
      · rw [List.length_append]
        exact l8'
      · rw [sumL_app, sumL_cons, sumL_nil, Int.add_zero]
        exact sm8 φ
    rintro σ H5 ⟨y4, y6, y7, y8, ws5, ms5, rfl, hD5, k5, hM5, hMv5, gm5, j5, l5, sm5⟩
    rw [lenW, List.take_length] at sm5
    rw [lenW] at j5 l5
    have l8' : ms5.length ≤ 8 := by split at l5 <;> omega
    have lws5 := hMv5.length
    refine ⟨.ref d, rfl, .ref M, rfl, M, _, rfl, .inl (SqL.of hM5), d, l, ns, _, rfl, hD5, by omega, by omega, fun r H6 hr6 hD6 o6 => ?_⟩
    have nt : ∀ {b xs}, H4 b = some (HO.tup xs) → b ≠ d ∧ b ≠ M := fun e => ⟨hD4.ne_of e (fun _ _ _ _ z => nomatch z), fun z => by rw [z, hM4] at e; cases e⟩
    have k6 : ∀ b o, b ≠ d → b ≠ M → H4 b = some o → H6 b = some o := fun b o n1 n2 e => by rw [o6 b n1]; exact k5 b o n1 n2 e
    have htt6 := k6 _ _ ntd (nt hT4.1).2 hT4.1
    have hN6 := k6 _ _ nNd nNM hN4
    have hM6 : H6 M = some (.lst ws5) := by rw [o6 _ nMd]; exact hM5
    have hMv6 : MovesAt H6 ws5 ms5 := hMv5.same fun b xs e => by
      rw [o6 b (hD5.ne_of e fun _ _ _ _ z => nomatch z)]
      exact e
    have g6 : Gr d H H6 := fun b o nb e => k6 b o nb (nHM nb e) (g4 b o nb e)
    clear o6 k6 k5 hM5 hMv5 hD5
    refine ⟨.ref N, rfl, .ref t, rfl, t, _, 0, _, rfl, rfl, SqT.of htt6, atI_nat (j := 0) rfl, ?_⟩
    refine ⟨.ref M, rfl, .int (r : Int), rfl, _, rfl, M, _, rfl, SqL.of hM6, fun c1 nc1 => ?_⟩
    rw [cut_fromO]
    have u1 := same_new (o := .lst (ws5.drop r)) nc1
    refine ⟨.ref M, rfl, .int (r : Int), rfl, _, rfl, M, _, rfl, SqL.of (u1 _ _ hM6), fun c2 nc2 => ?_⟩
    rw [cut_toO]
    have u2 := same_new (o := .lst (ws5.take r)) nc2
    refine ⟨c1, c2, _, _, rfl, rfl, u2 _ _ upd_same, upd_same, le1k (by rw [List.length_drop, List.length_take]; omega), fun c3 nc3 => ?_⟩
    have u3 := same_new (o := .lst (ws5.drop r ++ ws5.take r)) nc3
    have hc3 : (upd (upd (upd H6 c1 (.lst (ws5.drop r))) c2 (.lst (ws5.take r))) c3 (.lst (ws5.drop r ++ ws5.take r))) c3 = some (.lst (ws5.drop r ++ ws5.take r)) := upd_same
    have u13 := (u1.trans u2).trans u3
    generalize upd (upd (upd H6 c1 (.lst (ws5.drop r))) c2 (.lst (ws5.take r))) c3 (.lst (ws5.drop r ++ ws5.take r)) = H7 at u13 hc3 ⊢
    refine ⟨(by show 2 ≤ sizeLine; decide), fun t' nt' => ?_⟩
    have v1 := same_new (o := .tup [.int (many : Int), .ref c3]) nt'
    refine ⟨(by show 2 ≤ sizeLine; decide), fun p np => ?_⟩
    have v2 := same_new (o := .tup [.ref N, .ref t']) np
    have u17 := (u13.trans v1).trans v2
    have v12 := v1.trans v2
    refine q p N t' c3 nm (ws5.drop r ++ ws5.take r) (ms5.drop r ++ ms5.take r) _ upd_same (u17 _ _ hN6) ⟨v2 _ _ upd_same, v12 _ _ hc3, ?_⟩ ⟨m1, m6, ?_, ?_, fun mv' hmv => ?_⟩ ⟨R, fun φ => ?_⟩ (g6.trans (Gr.of_same u17)) (hD6.same u17)
    · exact MovesAt.same (Same.tups u17) (paired_app (paired_drop r hMv6) (paired_take r hMv6))
    · rw [List.length_append, List.length_drop, List.length_take]
      omega
    · rw [List.length_append, List.length_drop, List.length_take]
      omega
    · rcases List.mem_append.mp hmv with z | z
      · exact gm5 mv' (List.mem_of_mem_drop z)
      · exact gm5 mv' (List.mem_of_mem_take z)
    · rw [sumL_rot]
      exact sm5 φ
end
section
variable {P : Program} {w : World} {K : PySem.W.Frag} {mg : Str → Option Value} {base : Heap} {C : Addr}
/-! ### _law_turned -/
theorem scTu : FnScope ["_law_found", "_law_names", "_law_told", "_law_place"] ["_law_found", "_law_names"] (defScope sLawTurned) := ⟨rfl, rfl, rfl, by decide +kernel, rfl, by decide +kernel, by decide +kernel⟩
def spTu : Sp := fun vs H Q _ => ∃ (L na : Addr) (many : Nat) (us : List V) (nm : List Int) (f g : Nat → Int × Int), vs = [.ref L, .ref na] ∧ many ≤ 6 ∧ H L = some (.lst us) ∧ FracsAt H us many f ∧ H na = some (.lst (nm.map V.int)) ∧ Nm many nm ∧ (∀ b, b < many → g (nmN nm b) = f b) ∧
  ∀ R us' H', Same H H' → H' R = some (.lst us') → FracsAt H' us' many g → Q (.ref R) H'
theorem ok_tu {f : Addr} {fd : FuncData} {k0 : Nat} (F : Fun K "_law_turned" "_law_turned" sLawTurned f fd) (mL : mg "list" = none) (ml : mg "len" = none) (mr : mg "range" = none) : FnOk P w K mg base CX0 (k0 + 1) f fd ["_law_found", "_law_names"] spTu := by
  refine F.ok scTu (fun vs H Q E h => ?_) (fun cdv A outer s H vs Q E hr h => ?_)
  · obtain ⟨L, na, many, us, nm, f, g, rfl, _⟩ := h
    rfl
  · obtain ⟨L, na, many, us, nm, f, g, rfl, m6, hL, hus, hna, R, hg, q⟩ := h
    refine ⟨_, (pss_cons (ps_set (i := 2) scTu.nd rfl (.inl rfl) (pe_callTy call_list_of (by rfl) mL (by decide +kernel) (pa_cons (pv 0) pa_nil)))
      (pss_cons (ps_for PassesOwn.never rfl (pi_range1 (by rfl) mr (pa_cons (pe_callB call_len_seq (by rfl) ml PySem.boot_len (pa_cons (pv 0) pa_nil)) pa_nil)) (pg_name (i := 3) scTu.nd rfl (.inl rfl)) (pss_one (ps_asg (pe_ix ix_list (pv 0) (pv 3) (fun _ _ => rfl)) (pg_sub (pv 2) (pe_ix ix_list (pv 1) (pv 3) (fun _ _ => rfl)) set_list))))
      (pss_one (ps_ret (pv 2))))), ?_⟩
    have lus := hus.1
    refine ⟨.ref L, rfl, L, us, rfl, .inl (SqL.of hL), fun W nW => ?_⟩
    have s1 := same_new (o := .lst us) nW
    have hW1 : (upd H W (.lst us)) W = some (.lst us) := upd_same
    show gName 2 _ _ (upd H W (.lst us)) _
    generalize upd H W (.lst us) = H1 at s1 hW1 ⊢
    refine ⟨.ref L, rfl, L, us, rfl, .inl (SqL.of (s1 _ _ hL)), _, rfl, by omega, by omega, ?_⟩
    refine for_range (lo := 0) (n := ((us.length : Nat) : Int).toNat) (fun i σ H' => ∃ (y3 : Option V) (cur : List V), σ = [some (.ref L), some (.ref na), some (.ref W), y3] ∧ Same H H' ∧ H' W = some (.lst cur) ∧ cur.length = many ∧ ∀ p : Nat, p < i → cur[nmN nm p]? = us[p]?)
      ⟨none, us, rfl, s1, hW1, lus, fun p hp => absurd hp (Nat.not_lt_zero _)⟩ ?_ ?_
    · rintro i σ H2 hi ⟨y3, cur, rfl, s2, hW2, lc, st⟩
      rw [Int.toNat_natCast, lus] at hi
      have hL2 := s2 _ _ hL
      have hna2 := s2 _ _ hna
      obtain ⟨u, eu⟩ : ∃ u, us[i]? = some u := ⟨_, List.getElem?_eq_getElem (by omega)⟩
      have p0 : (0 : Int) ≤ 0 + (i : Int) := by omega
      have p1 : 0 + (i : Int) < (many : Int) := by omega
      have w2 := R.in p0 p1
      have en : (goK nm (0 + (i : Int))).toNat = nmN nm i := by unfold nmN; rw [Int.zero_add]
      have nn := R.nat hi
      refine ⟨.ref L, rfl, .int (0 + (i : Int)), rfl, L, _, _, _, rfl, rfl, SqL.of hL2, at_of (show 0 + (i : Int) = ((i : Nat) : Int) by omega) eu, ?_⟩
      refine ⟨.ref W, rfl, .ref na, rfl, .int (0 + (i : Int)), rfl, na, _, _, _, rfl, rfl, SqL.of hna2, row_get R.row p0 p1, W, _, _, _, rfl, rfl, hW2, ixN_at w2.1 (by rw [lc]; exact w2.2), ?_⟩
      rw [en]
      refine ⟨_, cur.set (nmN nm i) u, rfl, fun b o e => by rw [upd_ne (ne_of_none e nW)]; exact s2 _ _ e, upd_same, by rw [List.length_set]; exact lc, fun p hp => ?_⟩
      rw [List.getElem?_set]
      by_cases c : p = i
      · subst c
        rw [if_pos rfl, if_pos (by rw [lc]; exact nn.2), eu]
      · rw [if_neg fun z => c ?_, st p (by omega)]
        have h1 := R.nat (i := p) (by omega)
        have := R.inj (p := (p : Int)) (q := (i : Int)) (by omega) (by omega) (by omega) (by omega) (by rw [← h1.1, ← nn.1, z])
        omega
    rintro σ H2 ⟨y3, cur, rfl, s2, hW2, lc, st⟩
    rw [Int.toNat_natCast, lus] at st
    refine ⟨.ref W, rfl, q W cur H2 s2 hW2 ⟨lc, fun e u hu => ?_⟩⟩
    have he : e < many := by
      rw [← lc]
      exact (List.getElem?_eq_some_iff.mp hu).1
    have ue := R.un.nat he
    have ve := unN_at R (q := (e : Int)) (by omega) (by omega)
    have ee : nmN nm (nmN (unN many nm) e) = e := by
      have a := ue
      unfold nmN at a ⊢
      rw [a.1, ve.2.2, Int.toNat_natCast]
    have hp := ue.2
    generalize nmN (unN many nm) e = p at ee hp
    have h1 := st p hp
    rw [ee, hu] at h1
    rw [← ee, hg p hp]
    exact FracAt.same s2 (hus.2 p u h1.symm)
end
section
variable {P : Program} {w : World} {K : PySem.W.Frag} {mg : Str → Option Value} {base : Heap} {C : Addr}
/-! ### _law_long -/
theorem scLo : FnScope ["_law_chain_here"] ["_law_chain_here"] (defScope sLawLong) := ⟨rfl, rfl, rfl, by decide +kernel, rfl, by decide +kernel, by decide +kernel⟩
def spLo (C T : Addr) : Sp := fun vs H Q _ => ∃ (x : Addr) (many : Nat) (ms : List Mv), vs = [.ref x] ∧ ChainAt C H x many ms ∧ Good many ms ∧ firstApart many ms = none ∧ GxR.TabG H T ∧
  (TooMany many ms → ∀ R H', Same H H' → H' R = some (.lst []) → Q (.ref R) H') ∧
  (¬ TooMany many ms → ∀ g S us z t H', closedL many ms = [g] → OwnOk many ms g z t → Gr T H H' → GxR.TabG H' T → H' S = some (.lst us) → FracsAt H' us many (fun m => frac (z m) t) → Q (.ref S) H')
theorem ok_lo {f fB CM tI : Addr} {fd fdB : FuncData} (F : Fun K "_law_long" "_law_long" sLawLong f fd) (gM : mg "TooMany" = some (.ref CM)) (ex : PySem.W.exmOne K (.ref CM) (.ref CM) = some true) (DB : Df K mg "long_shares" sLongShares ["chain"] fB fdB)
    (G1 : FnOk P w K mg base CX0 6 fB fdB ["chain"] (spLs C tI)) (G2 : FnOk P w K mg base (L2.CX P w) 6 fB fdB ["chain"] (spLsM C CM)) : FnOk P w K mg base CX0 7 f fd ["_law_chain_here"] (spLo C tI) := by
  refine F.ok scLo (fun vs H Q E h => ?_) (fun cdv A outer s H vs Q E hr h => ?_)
  · obtain ⟨x, many, ms, rfl, _⟩ := h
    rfl
  · obtain ⟨x, many, ms, rfl, hC, G, hf, hI, q1, q2⟩ := h
    by_cases tm : TooMany many ms
    · refine ⟨_, pss_one (ps_try_only (c := .ref CM) (tb := fun W => tRet (tCallS (spLsM C CM) (WE W) (tCons (tVar 0) tNil))) (ts := fun _ _ _ => tRet (tLst tNil)) (Wout := fun _ _ _ _ => False) rfl rfl ⟨rfl, by decide, .inl gM⟩ LamX.takes0
          (fun W pn xe tk _ => pss_one (ps_ret (by exact (pe_callS G2 hr (by rfl) DB.g DB.F.kp DB.b (fun σ => passAt tk σ) (by exact (pa_cons (pv 0) pa_nil))))))
          (fun a oe cls d pn _ _ => pss_one (ps_ret (pe_lst pa_nil)))), ?_⟩
      refine ⟨.ref x, rfl, x, many, ms, rfl, hC, G, hf, tm, fun H1 s1 => ?_⟩
      exact ⟨true, ex, fun _ a na => ⟨Nat.zero_le _, fun R nR => q1 tm R _ (s1.trans (same_new nR)) upd_same⟩, fun z => nomatch z⟩
    · refine ⟨_, pss_one (ps_try_only (c := .ref CM) (tb := fun _ => tRet (tCall (spLs C tI) [] E0 (tCons (tVar 0) tNil))) (ts := fun _ _ _ => tRet (tLst tNil)) (Wout := fun _ _ _ _ => False) rfl rfl ⟨rfl, by decide, .inl gM⟩ LamX.takes0
          (fun W pn xe tk _ => pss_one (ps_ret (by exact (pe_call G1 hr (by rfl) DB.g DB.F.kp DB.b .nil pass0 (by exact (pa_cons (pv 0) pa_nil))))))
          (fun a oe cls d pn _ _ => pss_one (ps_ret (pe_lst pa_nil)))), ?_⟩
      exact ⟨.ref x, rfl, x, many, ms, rfl, hC, G, hf, tm, hI, fun g S us z t H' hg O g3 hI3 hS hus => q2 tm g S us z t H' hg O g3 hI3 hS hus⟩
end
section
variable {P : Program} {w : World} {K : PySem.W.Frag} {mg : Str → Option Value} {base : Heap} {C : Addr}
theorem eqv_frs0 {n : Nat} (h : 1 ≤ n) (f : Nat → Int × Int) : PyData.eqv (frsD n f) (.list []) = false := by
  obtain ⟨k, rfl⟩ : ∃ k, n = k + 1 := ⟨n - 1, by omega⟩
  unfold frsD
  rw [List.range_succ_eq_map]
  simp [PyData.eqv, PyData.eqvAll]
theorem find_filt {α : Type} : ∀ (l : List α) (f g : α → Bool), (∀ x ∈ l, f x = g x) → l.find? f = (l.filter g).head?
  | [], _, _, _ => rfl
  | x :: l, f, g, h => by
    rw [List.find?_cons, List.filter_cons, h x List.mem_cons_self]
    cases g x with
    | true => rfl
    | false => exact find_filt l f g fun y hy => h y (List.mem_cons_of_mem _ hy)
theorem first_head {many : Nat} {ms : List Mv} (G : GoodAll many ms) (m6 : many ≤ 6) : firstApart many ms = (apartL many ms).head? := by
  refine find_filt _ _ _ fun g hg => ?_
  obtain ⟨x, y, x0, xy, ym, rfl⟩ := mem_pairsL.mp hg
  have h1 := rowTo_none (ms := ms) (pair_good x0 xy ym) m6
  have h2 := known_meets G hg
  rw [Bool.eq_iff_iff, h1, Bool.not_eq_true', decide_eq_false_iff_not, h2]
theorem seq_tab {T l : Addr} {xs : List V} {H H' : Hp} (hT : GxR.TabG H T) (g : Gr T H H') (h : SqL K H l xs) : SqL K H' l xs := by
  obtain ⟨ps, hT, _⟩ := hT
  rcases h with (h | ⟨o, h⟩) | h
  · exact .inl (.inl (g _ _ (fun z => by rw [z, hT] at h; cases h) h))
  · exact .inl (.inr ⟨o, g _ _ (fun z => by rw [z, hT] at h; cases h) h⟩)
  · exact .inr h
theorem paired_fracs {H : Hp} {us : List V} {many : Nat} {f : Int → Int × Int} (h : Paired (fun u p => FracAt H u (f p)) us (ids many)) : FracsAt H us many fun b => f (b : Int) := by
  refine ⟨by rw [h.length, ids_len], fun m u hu => ?_⟩
  have hm : m < many := by
    have := (List.getElem?_eq_some_iff.mp hu).1
    rw [h.length, ids_len] at this
    exact this
  have e : (ids many)[m]? = some (m : Int) := by
    unfold ids
    rw [List.getElem?_map, List.getElem?_range hm]
    rfl
  obtain ⟨a, ha, hf⟩ := paired_get h e
  rw [hu] at ha
  cases ha
  exact hf
theorem FracsAt.congr {H : Hp} {us : List V} {n : Nat} {f g : Nat → Int × Int} (h : FracsAt H us n f) (e : ∀ m, m < n → f m = g m) : FracsAt H us n g := ⟨h.1, fun m u hu => by
  have hm : m < n := by
    have := (List.getElem?_eq_some_iff.mp hu).1
    rw [h.1] at this
    exact this
  rw [← e m hm]
  exact h.2 m u hu⟩
def shF (n : Nat) (f : Nat → Int × Int) (r : Int × Int) : PyData := .tuple [frsD n f, frD r]
theorem shF_sh (n : Nat) (f : Nat → Int × Int) (r : Int × Int) : Sh 3 (shF n f r) := Sh.tuple fun d hd => by
  rcases List.mem_cons.mp hd with rfl | hd
  · exact frsD_sh _ _
  · rw [List.mem_singleton.mp hd]; exact (frD_sh (n := 0) _).mono (by decide)
theorem scLaw : FnScope ["_law_script", "_law_told", "_law_names", "_law_more", "_law_one", "_law_other_here", "_law_far", "_law_first"] ["_law_script"] (defScope sLaw) := ⟨rfl, rfl, rfl, by decide +kernel, rfl, by decide +kernel, by decide +kernel⟩
theorem ok_law {f fc fd' fo fh fOt fm fCl fOw fTu fSh fAp fFn fFm fLo tM tI : Addr} {fd fdc fdd fdo fdh fdOt fdm fdCl fdOw fdTu fdSh fdAp fdFn fdFm fdLo : FuncData} (F : Fun K "law" "law" sLaw f fd) (T : LawTxt K mg fc fd' fo fdc fdd fdo) (Dh : Df K mg "_law_chain" sChain ["_law_d", "_law_most"] fh fdh)
    (DOt : Df K mg "_law_other" sLawOther ["_law_d", "_law_told"] fOt fdOt) (DM : Df K mg "_law_made" sMade ["_law_told"] fm fdm) (DCl : Df K mg "closed" sClosed ["chain"] fCl fdCl) (DOw : Df K mg "own" sOwn ["chain"] fOw fdOw) (DTu : Df K mg "_law_turned" sLawTurned ["_law_found", "_law_names"] fTu fdTu) (DSh : Df K mg "shares" sShares ["chain", "far"] fSh fdSh)
    (DAp : Df K mg "_law_apart" sLawApart ["_law_told"] fAp fdAp) (DFn : Df K mg "far_mean" sFarMean ["chain"] fFn fdFn) (DFm : Df K mg "first_met" sFirstMet ["chain"] fFm fdFm) (DLo : Df K mg "_law_long" sLawLong ["_law_chain_here"] fLo fdLo)
    (GM : FnOk P w K mg base CX0 4 fm fdm ["_law_told"] (spMade C tM)) (GCl : FnOk P w K mg base CX0 4 fCl fdCl ["chain"] (spCl C tI)) (GOw : FnOk P w K mg base CX0 5 fOw fdOw ["chain"] (spOwn C tI)) (GSh : FnOk P w K mg base CX0 3 fSh fdSh ["chain", "far"] (spSh C))
    (GFn : FnOk P w K mg base CX0 7 fFn fdFn ["chain"] (spFn C)) (GFm : FnOk P w K mg base CX0 7 fFm fdFm ["chain"] (spFm C)) (GLo : FnOk P w K mg base CX0 7 fLo fdLo ["_law_chain_here"] (spLo C tI)) (mL : mg "list" = none) : FnOk P w K mg base CX0 8 f fd ["_law_script"] (spLaw2 K tM tI) := by
  have GC : FnOk P w K mg base CX0 1 fc fdc ["_law_script", "_law_k"] (spCell K) := ok_cell T.FC T.ml
  have GD' : FnOk P w K mg base CX0 2 fd' fdd ["_law_script", "_law_k"] (spDice K) := T.dice
  have GH : FnOk P w K mg base CX0 3 fh fdh ["_law_d", "_law_most"] (spChain K) := ok_chain Dh.F T
  have GOt : FnOk P w K mg base CX0 3 fOt fdOt ["_law_d", "_law_told"] (spOt K) := ok_ot DOt.F T mL
  have GTu : FnOk P w K mg base CX0 1 fTu fdTu ["_law_found", "_law_names"] spTu := ok_tu DTu.F mL T.ml T.mr
  have GAp : FnOk P w K mg base CX0 4 fAp fdAp ["_law_told"] spAp := ok_ap DAp.F T.mr T.ml T.mt T.ms
  refine F.ok scLaw (fun vs H Q E h => ?_) (fun cdv A outer s H vs Q E hr h => ?_)
  · obtain ⟨a, ns, rfl, _⟩ := h
    rfl
  · obtain ⟨a, ns, rfl, hS, hl, hTM, hTI, q⟩ := h
    have hu := hu64 hr
    have r1 : Room 1 _ := hr.mono (by decide)
    have r2 : Room 2 _ := hr.mono (by decide)
    have r3 : Room 3 _ := hr.mono (by decide)
    have r4 : Room 4 _ := hr.mono (by decide)
    have r5 : Room 5 _ := hr.mono (by decide)
    refine ⟨_, (pss_cons (ps_set (i := 1) scLaw.nd rfl (.inl rfl) (pe_call GH r3 (by rfl) Dh.g Dh.F.kp Dh.b .nil pass0 (pa_cons (pe_call GD' r2 (by rfl) T.gD T.FD.kp T.bD .nil pass0 (pa_cons (pv 0) (pa_cons pe_int pa_nil))) (pa_cons pe_int pa_nil))))
      (pss_cons (ps_asg (pe_call GOt r3 (by rfl) DOt.g DOt.F.kp DOt.b .nil pass0 (pa_cons (pe_call GD' r2 (by rfl) T.gD T.FD.kp T.bD .nil pass0 (pa_cons (pv 0) (pa_cons pe_int pa_nil))) (pa_cons (pv 1) pa_nil))) (pg_tup rfl (pgs_cons (pg_name (i := 2) scLaw.nd rfl (.inl rfl)) (pgs_cons (pg_name (i := 3) scLaw.nd rfl (.inl rfl)) pgs_nil))))
      (pss_cons (ps_set (i := 4) scLaw.nd rfl (.inl rfl) (pe_call GM r4 (by rfl) DM.g DM.F.kp DM.b .nil pass0 (pa_cons (pv 1) pa_nil)))
      (pss_cons (ps_set (i := 5) scLaw.nd rfl (.inl rfl) (pe_call GM r4 (by rfl) DM.g DM.F.kp DM.b .nil pass0 (pa_cons (pv 3) pa_nil)))
      (pss_cons (ps_if (pt_cmpR op_ne (pe_callB call_len_seq (by rfl) T.ml PySem.boot_len (pa_cons (pe_call GCl r4 (by rfl) DCl.g DCl.F.kp DCl.b .nil pass0 (pa_cons (pv 4) pa_nil)) pa_nil)) (pe_callB call_len_seq (by rfl) T.ml PySem.boot_len (pa_cons (pe_call GCl r4 (by rfl) DCl.g DCl.F.kp DCl.b .nil pass0 (pa_cons (pv 5) pa_nil)) pa_nil)) (nomark _)) (pss_one (ps_ret pe_bl)) pss_nil)
      (C8.pss_cut (ps_if (PW.pt (pw_and (pt_cmpR op_eq (pe_callB call_len_seq (by rfl) T.ml PySem.boot_len (pa_cons (pe_call GCl r4 (by rfl) DCl.g DCl.F.kp DCl.b .nil pass0 (pa_cons (pv 4) pa_nil)) pa_nil)) pe_int (nomark _)) (pw_and1 (pt_cmpR (op_neD hu) (pe_call GOw r5 (by rfl) DOw.g DOw.F.kp DOw.b .nil pass0 (pa_cons (pv 5) pa_nil)) (pe_call GTu r1 (by rfl) DTu.g DTu.F.kp DTu.b .nil pass0 (pa_cons (pe_call GOw r5 (by rfl) DOw.g DOw.F.kp DOw.b .nil pass0 (pa_cons (pv 4) pa_nil)) (pa_cons (pv 2) pa_nil))) (nomark _))))) (pss_one (ps_ret pe_bl)) pss_nil)
      (pss_cons (ps_set (i := 6) scLaw.nd rfl (.inl rfl) (pe_op op_mod (pe_callB call_abs (by rfl) T.ma (by decide +kernel) (pa_cons (pe_call GC r1 (by rfl) T.gC T.FC.kp T.bC .nil pass0 (pa_cons (pv 0) (pa_cons pe_int pa_nil))) pa_nil)) pe_int))
      (pss_cons (ps_set (i := 7) scLaw.nd rfl (.inl rfl) (pe_call GSh r3 (by rfl) DSh.g DSh.F.kp DSh.b .nil pass0 (pa_cons (pv 4) (pa_cons (pv 6) pa_nil))))
      (pss_cons (ps_if (pt_cmpR (op_neD hu) (pe_call GSh r3 (by rfl) DSh.g DSh.F.kp DSh.b .nil pass0 (pa_cons (pv 5) (pa_cons (pv 6) pa_nil))) (pe_tup (pa_cons (pe_call GTu r1 (by rfl) DTu.g DTu.F.kp DTu.b .nil pass0 (pa_cons (pe_ix ix_tup (pv 7) pe_int (fun _ _ => rfl)) (pa_cons (pv 2) pa_nil))) (pa_cons (pe_ix ix_tup (pv 7) pe_int (fun _ _ => rfl)) pa_nil))) (nomark _)) (pss_one (ps_ret pe_bl)) pss_nil)
      (pss_cons (ps_if (pt_cmpR (op_neD hu) (pe_call GAp r4 (by rfl) DAp.g DAp.F.kp DAp.b .nil pass0 (pa_cons (pv 1) pa_nil)) (pe_lst pa_nil) (nomark _)) (pss_one (ps_ret pe_bl)) pss_nil)
      (pss_cons (ps_if (PW.pt (pw_or (pt_cmpR (op_neD hu) (pe_call GFn hr (by rfl) DFn.g DFn.F.kp DFn.b .nil pass0 (pa_cons (pv 5) pa_nil)) (pe_call GFn hr (by rfl) DFn.g DFn.F.kp DFn.b .nil pass0 (pa_cons (pv 4) pa_nil)) (nomark _)) (pw_or1 (pt_cmpR (op_neD hu) (pe_call GFm hr (by rfl) DFm.g DFm.F.kp DFm.b .nil pass0 (pa_cons (pv 5) pa_nil)) (pe_call GTu r1 (by rfl) DTu.g DTu.F.kp DTu.b .nil pass0 (pa_cons (pe_call GFm hr (by rfl) DFm.g DFm.F.kp DFm.b .nil pass0 (pa_cons (pv 4) pa_nil)) (pa_cons (pv 2) pa_nil))) (nomark _))))) (pss_one (ps_ret pe_bl)) pss_nil)
      (pss_cons (ps_if (pt_cmpR (op_eqD hu) (pe_call GLo hr (by rfl) DLo.g DLo.F.kp DLo.b .nil pass0 (pa_cons (pv 4) pa_nil)) (pe_lst pa_nil) (nomark _)) (pss_one (ps_ret (pe_cmpR (op_eqD hu) (pe_call GLo hr (by rfl) DLo.g DLo.F.kp DLo.b .nil pass0 (pa_cons (pv 5) pa_nil)) (pe_lst pa_nil) (nomark _)))) pss_nil)
      (pss_one (ps_ret (pe_cmpR (op_eqD hu) (pe_call GLo hr (by rfl) DLo.g DLo.F.kp DLo.b .nil pass0 (pa_cons (pv 5) pa_nil)) (pe_call GTu r1 (by rfl) DTu.g DTu.F.kp DTu.b .nil pass0 (pa_cons (pe_call GLo hr (by rfl) DLo.g DLo.F.kp DLo.b .nil pass0 (pa_cons (pv 4) pa_nil)) (pa_cons (pv 2) pa_nil))) (nomark _)))))))))))))))), ?_⟩
    -- told
    refine ⟨.ref a, rfl, a, ns, 0, rfl, hS, hl, by decide, fun H1 d1 s1 nd1 hD1 => ?_⟩
    refine ⟨d1, a, ns, 4, rfl, hD1, by decide, by decide, fun t m many ws ms H2 G _ hT hD2 g2 => ?_⟩
    have hM2 := tab_gr hD1 g2 (tab_same s1 hTM)
    have hI2 := tab_gr hD1 g2 (tab_same s1 hTI)
    have GA : GoodAll many ms := G.mv
    have m1 := G.m1
    have m6 := G.m6
    clear s1 hTM hTI g2 hD1 hS
    -- the other one
    refine ⟨.ref a, rfl, a, ns, 1, rfl, hD2.seq, hl, by decide, fun H3 d3 s3 nd3 hD3 => ?_⟩
    have hT3 := hT.same s3
    have hM3 := tab_same s3 hM2
    have hI3 := tab_same s3 hI2
    have ntd : t ≠ d3 := ne_of_none hT.1 nd3
    have nmd : m ≠ d3 := ne_of_none hT.2.1 nd3
    refine ⟨.ref t, rfl, d3, a, t, m, ns, many, ws, ms, rfl, hD3, hT3, G, nmd, fun p na t' m' nm ws' ms' H4 hp hna hT' G' R g4 hD4 => ?_⟩
    have hT4 : ToldAt H4 t m many ws ms := ⟨g4 _ _ ntd hT3.1, g4 _ _ nmd hT3.2.1, hT3.2.2.same (g4.tups hD3)⟩
    have hM4 := tab_gr hD3 g4 hM3
    have hI4 := tab_gr hD3 g4 hI3
    have hS4 := hD4.seq
    clear hT hM2 hI2 hT3 hM3 hI3 s3 nd3 ntd nmd g4 hD3 hD2
    refine ⟨p, _, rfl, SqT.of hp, rfl, .ref na, [.ref t'], rfl, .ref t', [], rfl, rfl, ?_⟩
    -- the chains
    refine ⟨.ref t, rfl, t, m, many, ws, ms, rfl, hT4, G, hM4, fun H5 x hC nx g5 hM5 => ?_⟩
    have hI5 := tab_two g5 hM5 hI4
    have hT5 := hT4.tab hM4 g5
    have hT'5 := hT'.tab hM4 g5
    have hna5 : H5 na = some (.lst (nm.map V.int)) := g5.tab hM4 (fun _ z => nomatch z) hna
    have hS5 := seq_tab hM4 g5 hS4
    refine ⟨.ref t', rfl, t', m', many, ws', ms', rfl, hT'5, G', hM5, fun H6 y hC' ny g6 hM6 => ?_⟩
    have hI6 := tab_two g6 hM6 hI5
    have hT6 := hT5.tab hM5 g6
    have hC6 := hC.tab hM5 g6
    have hna6 : H6 na = some (.lst (nm.map V.int)) := g6.tab hM5 (fun _ z => nomatch z) hna5
    have hS6 := seq_tab hM5 g6 hS5
    clear hp hT4 hM4 hI4 hS4 hI5 hT5 hT'5 hna5 hS5 hT' hna g5 g6 nx ny hC hM5 hM6
    -- closed groups
    refine ⟨.ref x, rfl, x, many, ms, rfl, hC6, G, hI6, fun L H7 g7 hI7 nL hL => ?_⟩
    obtain ⟨vL, hvL, hpL⟩ := hL
    refine ⟨L, vL, rfl, .inl (SqL.of hvL), ?_⟩
    have hC7 := hC6.tab hI6 g7
    have hC'7 := hC'.tab hI6 g7
    have hT7 := hT6.tab hI6 g7
    have hna7 : H7 na = some (.lst (nm.map V.int)) := g7.tab hI6 (fun _ z => nomatch z) hna6
    have hS7 := seq_tab hI6 g7 hS6
    refine ⟨.ref y, rfl, y, many, ms', rfl, hC'7, G', hI7, fun L' H8 g8 hI8 nL' hL' => ?_⟩
    obtain ⟨vL', hvL', hpL'⟩ := hL'
    have hC8 := hC7.tab hI7 g8
    have hC'8 := hC'7.tab hI7 g8
    have hT8 := hT7.tab hI7 g8
    have hna8 : H8 na = some (.lst (nm.map V.int)) := g8.tab hI7 (fun _ z => nomatch z) hna7
    have hS8 := seq_tab hI7 g8 hS7
    have el : vL'.length = vL.length := by rw [hpL.length, hpL'.length, R.cl_len G G']
    refine ⟨L', vL', rfl, .inl (SqL.of hvL'), rfl, _, rfl, ite2 (fun c => absurd c (by rw [el]; simp)) (fun _ => ?_)⟩
    clear hvL hpL nL g7 hvL' hpL' nL' g8 hC6 hC' hT6 hna6 hS6 hC7 hC'7 hT7 hna7 hS7 hI7 hI6 el
    let Mid : L2.St → Hp → Prop := fun σ H' => σ = [some (.ref a), some (.ref t), some (.ref na), some (.ref t'), some (.ref x), some (.ref y), none, none] ∧ ChainAt C H' x many ms ∧ ChainAt C H' y many ms' ∧ ToldAt H' t m many ws ms ∧ H' na = some (.lst (nm.map V.int)) ∧ SqL K H' a (ns.map V.int) ∧ GxR.TabG H' tI
    refine ⟨Mid, ?_, ?_⟩
    · refine ⟨.ref x, rfl, x, many, ms, rfl, hC8, G, hI8, fun L H9 g9 hI9 nL hL => ?_⟩
      obtain ⟨vL, hvL, hpL⟩ := hL
      have hC9 := hC8.tab hI8 g9
      have hC'9 := hC'8.tab hI8 g9
      have hT9 := hT8.tab hI8 g9
      have hna9 : H9 na = some (.lst (nm.map V.int)) := g9.tab hI8 (fun _ z => nomatch z) hna8
      have hS9 := seq_tab hI8 g9 hS8
      have el : vL.length = (closedL many ms).length := hpL.length
      refine ⟨L, vL, rfl, .inl (SqL.of hvL), rfl, _, rfl, ite2 (fun c => ?_) (fun c => ⟨rfl, hC9, hC'9, hT9, hna9, hS9, hI9⟩)⟩
      have one : (closedL many ms).length = 1 := by
        have : ((vL.length : Nat) : Int) = 1 := by simpa using c
        omega
      have one' : (closedL many ms').length = 1 := by rw [R.cl_len G G']; exact one
      clear hC8 hC'8 hT8 hna8 hS8 hI8 hvL hpL el
      refine ⟨.ref y, rfl, y, many, ms', rfl, hC'9, G', by omega, hI9, fun g' S' us' z' t2 H10 hg' O' g10 hI10 hS' hus' => ?_⟩
      have hC10 := hC9.tab hI9 g10
      have hC'10 := hC'9.tab hI9 g10
      have hT10 := hT9.tab hI9 g10
      have hna10 : H10 na = some (.lst (nm.map V.int)) := g10.tab hI9 (fun _ z => nomatch z) hna9
      have hS10 := seq_tab hI9 g10 hS9
      refine ⟨.ref x, rfl, x, many, ms, rfl, hC10, G, by omega, hI10, fun g S us z t1 H11 hg O g11 hI11 hS hus => ?_⟩
      have hC11 := hC10.tab hI10 g11
      have hC'11 := hC'10.tab hI10 g11
      have hT11 := hT10.tab hI10 g11
      have hna11 : H11 na = some (.lst (nm.map V.int)) := g11.tab hI10 (fun _ z => nomatch z) hna10
      have hS11 := seq_tab hI10 g11 hS10
      have hS'11 : H11 S' = some (.lst us') := g11.tab hI10 (fun _ z => nomatch z) hS'
      have hus'11 := hus'.tab hI10 g11
      refine ⟨.ref na, rfl, S, na, many, us, nm, fun b => frac (z b) t1, fun b => frac (z' b) t2, rfl, m6, hS, hus, hna11, R.ok, R.own G G' hg hg' O O', fun R2 us2 H12 s12 hR2 hus2 => ?_⟩
      refine ne_same (dp_frsL (s12 _ _ hS'11) (hus'11.same s12)) (dp_frsL hR2 hus2) (frsD_sh many _) (by decide) ⟨false, rfl, iteF ?_⟩
      exact ⟨rfl, hC11.same s12, hC'11.same s12, hT11.same s12, s12 _ _ hna11, s12.seq hS11, tab_same s12 hI11⟩
    rintro σ H9 ⟨rfl, hC9, hC'9, hT9, hna9, hS9, hI9⟩
    clear hC8 hC'8 hT8 hna8 hS8 hI8
    -- shares
    refine ⟨.ref a, rfl, a, ns, 2, rfl, hS9, by decide, fun z => ?_⟩
    refine ⟨_, rfl, _, _, rfl, rfl, (by show (0 : Int) < 21; decide), ?_⟩
    obtain ⟨n, hn, en⟩ : ∃ n : Nat, n ≤ 20 ∧ (if z < 0 then -z else z) % 21 = (n : Int) := by
      have h0 : 0 ≤ (if z < 0 then -z else z) % 21 := Int.emod_nonneg _ (by decide)
      have h1 : (if z < 0 then -z else z) % 21 < 21 := Int.emod_lt_of_pos _ (by decide)
      exact ⟨((if z < 0 then -z else z) % 21).toNat, by omega, by omega⟩
    show gName 6 (.int ((if z < 0 then -z else z) % 21)) _ _ _
    rw [en]
    clear en hS9
    refine ⟨.ref x, rfl, .int (n : Int), rfl, x, many, ms, n, rfl, hC9, G, hn, fun t1 H10 s10 hs1 => ?_⟩
    obtain ⟨l1, v1, us1, h1, h2, h3, h4⟩ := hs1
    refine ⟨.ref y, rfl, .int (n : Int), rfl, y, many, ms', n, rfl, hC'9.same s10, G', hn, fun t2 H11 s11 hs2 => ?_⟩
    obtain ⟨l2, v2, us2, k1, k2, k3, k4⟩ := hs2
    have s911 := s10.trans s11
    have f1 := (paired_fracs h3).same s11
    have f2 := paired_fracs k3
    refine ⟨.ref t1, rfl, t1, _, 0, _, rfl, rfl, SqT.of (s11 _ _ h1), atI_nat (j := 0) rfl, .ref na, rfl, l1, na, many, us1, nm, _, (fun b => frac (shrN many ms' n (b : Int)) (whole ms' ^ n)), rfl, m6, s11 _ _ h2, f1, s911 _ _ hna9, R.ok, fun b hb => ?_, fun R3 us3 H12 s12 hR3 hus3 => ?_⟩
    · show frac (shrN many ms' n ((nmN nm b : Nat) : Int)) (whole ms' ^ n) = frac (shrN many ms n (b : Int)) (whole ms ^ n)
      rw [(R.ok.nat hb).1, R.shr G n (by omega) (by omega), R.wh]
    have s1112 := s11.trans s12
    have s912 := s911.trans s12
    refine ⟨.ref t1, rfl, t1, _, 1, _, rfl, rfl, SqT.of (s1112 _ _ h1), atI_nat (j := 1) rfl, (by show 2 ≤ sizeLine; decide), fun tp ntp => ?_⟩
    have st := same_new (o := .tup [.ref R3, v1]) ntp
    have s12t := s12.trans st
    have s9t := s912.trans st
    have s11t := s1112.trans st
    have r4' : FracAt H11 v2 (frac (restN many ms n) (whole ms ^ n)) := by
      have := k4
      rw [R.rest G n, R.wh] at this
      exact this
    obtain ⟨w1, rfl, hw1⟩ := FracAt.same s11t h4
    obtain ⟨w2, rfl, hw2⟩ := FracAt.same s12t r4'
    refine ne_same (d := shF many (fun b => frac (shrN many ms' n (b : Int)) (whole ms' ^ n)) (frac (restN many ms n) (whole ms ^ n)))
      (.tup (SqT.of (s12t _ _ k1)) (.cons (dp_frsL (s12t _ _ k2) (f2.same s12t)) (.cons (dp_pair hw2) .nil)))
      (.tup (SqT.of upd_same) (.cons (dp_frsL (st _ _ hR3) (hus3.same st)) (.cons (dp_pair hw1) .nil))) (shF_sh _ _ _) (by decide) ⟨_, rfl, iteF ?_⟩
    have hC13 := hC9.same s9t
    have hC'13 := hC'9.same s9t
    have hT13 := hT9.same s9t
    have hna13 := s9t _ _ hna9
    have hI13 := tab_same s9t hI9
    clear hC9 hC'9 hT9 hna9 hI9 s9t s12t s11t s912 s1112 s911 h1 h2 h3 h4 k1 k2 k3 k4 f1 f2 hR3 hus3 hw1 hw2 r4' s10 s11 s12
    generalize upd H12 tp (.tup [.ref R3, .ref w1]) = H13 at *
    -- apart
    refine ⟨.ref t, rfl, t, m, many, ws, ms, rfl, hT13, G, fun ap H14 s14 ⟨va, hva, hpa⟩ => ?_⟩
    refine ⟨Nat.zero_le _, fun e0 ne0 => ?_⟩
    have s15 := same_new (o := .lst []) ne0
    refine ⟨_, _, .lst (SqL.of (s15 _ _ hva)) (dp_tups (TupG.all (Same.tups s15) hpa)), .lst (SqL.of upd_same) .nil, (Sh.tups _).shaped (by decide), by decide, ?_⟩
    rw [eqv_tups0]
    refine ⟨_, rfl, ite2 (fun c => q _) (fun c => ?_)⟩
    have hap : apartL many ms = [] := by
      have : (!decide (apartL many ms = [])) = false := by simpa using c
      simpa using this
    have fh : firstApart many ms = none := by
      rw [first_head GA m6, hap]
      rfl
    have fh' := R.apart G G' fh
    have s1315 := s14.trans s15
    have hC15 := hC13.same s1315
    have hC'15 := hC'13.same s1315
    have hna15 := s1315 _ _ hna13
    have hI15 := tab_same s1315 hI13
    clear c hap hva hpa s14 s15 s1315 hC13 hC'13 hT13 hna13 hI13
    generalize upd H14 e0 (.lst []) = H15 at *
    -- the means
    refine ⟨.ref y, rfl, y, many, ms', rfl, hC'15, G', fh', fun f2 z2 t2 H16 s16 hf2 S2 => ?_⟩
    refine ⟨.ref x, rfl, x, many, ms, rfl, hC15.same s16, G, fh, fun f1 z1 t1 H17 s17 hf1 S1 => ?_⟩
    have ef := R.far G G' fh S1 S2
    clear S1 S2
    generalize frac (bigS (gsOf many ms') z2 (gsOf many ms').length) t2 = p2 at hf2 ef
    generalize frac (bigS (gsOf many ms) z1 (gsOf many ms).length) t1 = p1 at hf1 ef
    subst ef
    refine ne_same (dp_pair (s17 _ _ hf2)) (dp_pair hf1) (frD_sh (n := 0) _) (by decide) ⟨false, rfl, iteF ?_⟩
    have s1517 := s16.trans s17
    have hC17 := hC15.same s1517
    have hC'17 := hC'15.same s1517
    have hna17 := s1517 _ _ hna15
    have hI17 := tab_same s1517 hI15
    clear hf1 hf2 s16 s17 s1517 hC15 hC'15 hna15 hI15
    -- first met
    refine ⟨.ref y, rfl, y, many, ms', rfl, hC'17, G', fh', fun L2 us2 z2 t2 H18 s18 hL2 hus2 S2 => ?_⟩
    refine ⟨.ref x, rfl, x, many, ms, rfl, hC17.same s18, G, fh, fun L1 us1 z1 t1 H19 s19 hL1 hus1 S1 => ?_⟩
    have em : ∀ b, b < many → frac (zP (gsOf many ms') z2 (nmN nm b)) t2 = frac (zP (gsOf many ms) z1 b) t1 := fun b hb => R.met G G' fh S1 S2 hb
    clear S1 S2
    obtain ⟨F2, e2⟩ : ∃ F2 : Nat → Int × Int, F2 = fun p => frac (zP (gsOf many ms') z2 p) t2 := ⟨_, rfl⟩
    obtain ⟨F1, e1⟩ : ∃ F1 : Nat → Int × Int, F1 = fun p => frac (zP (gsOf many ms) z1 p) t1 := ⟨_, rfl⟩
    have em' : ∀ b, b < many → F2 (nmN nm b) = F1 b := fun b hb => by
      rw [e2, e1]
      exact em b hb
    rw [← e2] at hus2
    rw [← e1] at hus1
    clear em e1 e2
    have s1719 := s18.trans s19
    refine ⟨.ref na, rfl, L1, na, many, us1, nm, F1, F2, rfl, m6, hL1, hus1, s1719 _ _ hna17, R.ok, em', fun R3 us3 H20 s20 hR3 hus3 => ?_⟩
    have s1820 := s19.trans s20
    refine ne_same (dp_frsL (s1820 _ _ hL2) (hus2.same s1820)) (dp_frsL hR3 hus3) (frsD_sh many _) (by decide) ⟨false, rfl, iteF ?_⟩
    have s1720 := s1719.trans s20
    have hC20 := hC17.same s1720
    have hC'20 := hC'17.same s1720
    have hna20 := s1720 _ _ hna17
    have hI20 := tab_same s1720 hI17
    clear hL1 hL2 hus1 hus2 hR3 hus3 s18 s19 s20 s1719 s1820 s1720 hC17 hC'17 hna17 hI17 em'
    -- long shares
    have sh0 : Sh 1 (.list []) := Sh.list fun d hd => nomatch hd
    by_cases tm : TooMany many ms
    · have tm' := (R.too_many G G').mpr tm
      refine ⟨.ref x, rfl, x, many, ms, rfl, hC20, G, fh, hI20, fun _ R1 H21 s21 hR1 => ?_, fun n => absurd tm n⟩
      refine ⟨Nat.zero_le _, fun e0 ne0 => ?_⟩
      have s22 := same_new (o := .lst []) ne0
      have s2022 := s21.trans s22
      refine eq_same (d := .list []) (.lst (SqL.of (s22 _ _ hR1)) .nil) (.lst (SqL.of upd_same) .nil) sh0 (by decide) ⟨true, rfl, iteT ?_⟩
      refine ⟨.ref y, rfl, y, many, ms', rfl, hC'20.same s2022, G', fh', tab_same s2022 hI20, fun _ R2 H23 s23 hR2 => ?_, fun n => absurd tm' n⟩
      refine ⟨Nat.zero_le _, fun e1 ne1 => ?_⟩
      exact eq_same (d := .list []) (.lst (SqL.of (same_new ne1 _ _ hR2)) .nil) (.lst (SqL.of upd_same) .nil) sh0 (by decide) (q _)
    have tm' : ¬ TooMany many ms' := fun h => tm ((R.too_many G G').mp h)
    refine ⟨.ref x, rfl, x, many, ms, rfl, hC20, G, fh, hI20, fun h => absurd h tm, fun _ g0 S0 us0 z0 t0 H21 hg0 O0 g21 hI21 hS0 hus0 => ?_⟩
    refine ⟨Nat.zero_le _, fun e0 ne0 => ?_⟩
    have s22 := same_new (o := .lst []) ne0
    refine ⟨_, _, dp_frsL (s22 _ _ hS0) (hus0.same s22), .lst (SqL.of upd_same) .nil, (frsD_sh many _).shaped (by decide), by decide, ?_⟩
    rw [eqv_frs0 m1]
    refine ⟨false, rfl, iteF ?_⟩
    have hC22 := (hC20.tab hI20 g21).same s22
    have hC'22 := (hC'20.tab hI20 g21).same s22
    have hna21 : H21 na = some (.lst (nm.map V.int)) := g21.tab hI20 (fun _ z => nomatch z) hna20
    have hna22 := s22 _ _ hna21
    have hI22 := tab_same s22 hI21
    clear hC20 hC'20 hna20 hI20 hna21 hI21 hS0 hus0 g21
    generalize upd H21 e0 (.lst []) = H22 at *
    refine ⟨.ref y, rfl, y, many, ms', rfl, hC'22, G', fh', hI22, fun h => absurd h tm', fun _ g' S' us' z' t2 H23 hg' O' g23 hI23 hS' hus' => ?_⟩
    refine ⟨.ref x, rfl, x, many, ms, rfl, hC22.tab hI22 g23, G, fh, hI23, fun h => absurd h tm, fun _ g1 S1 us1 z1 t1 H24 hg1 O1 g24 hI24 hS1 hus1 => ?_⟩
    have hna23 : H23 na = some (.lst (nm.map V.int)) := g23.tab hI22 (fun _ z => nomatch z) hna22
    have hna24 : H24 na = some (.lst (nm.map V.int)) := g24.tab hI23 (fun _ z => nomatch z) hna23
    have hS'24 : H24 S' = some (.lst us') := g24.tab hI23 (fun _ z => nomatch z) hS'
    have hus'24 := hus'.tab hI23 g24
    refine ⟨.ref na, rfl, S1, na, many, us1, nm, _, fun b => frac (z' b) t2, rfl, m6, hS1, hus1, hna24, R.ok, R.own G G' hg1 hg' O1 O', fun R3 us3 H25 s25 hR3 hus3 => ?_⟩
    exact eq_same (dp_frsL (s25 _ _ hS'24) (hus'24.same s25)) (dp_frsL hR3 hus3) (frsD_sh many _) (by decide) (q _)
end
/-! ### the end: the table of the generator's def -/
def TabOf (nm : Str) (mg : Str → Option Value) (h : Heap) : Prop := ∃ (a' : Addr) (o' : Obj) (fd' : FuncData) (c' P' : Addr) (oc : Obj) (vc : Array Value), mg nm = some (.ref a') ∧ h.get? a' = some o' ∧ o'.data = .func fd' ∧ fd'.code = .ref c' ∧
  h.get? c' = some oc ∧ oc.data = .fields vc ∧ vc[11]? = some (.ref P') ∧ h.get? P' = some { cls := .none, data := .fields #[] }
theorem walk_tab {l : PySem.W.OpenLaw} {n k : Nat} {q : Program} {loose : List Str} {XP : (Str → Option Value) → Heap → Prop} {YP : World → Heap → Prop} {d : DefRec} {K : Params → PySem.W.Frag} {CX : World → CXT} {x : Str} (nm : Str)
    (hn : l.most = some n) (hn2 : n ≤ sizeLine) (hdf : d.params.defaults = []) (hr : Room k callerA) (hrec : ((recsOf q).any fun e => e.name == nm) = true) (hY : ∀ (w : World) (h : Heap), YP w h → (K w.params).In h)
    (F : ∀ (w : World) (mg : Str → Option Value) (fa : Addr) (h : Heap), (K w.params).In h → h.Ns mainGlobals mg → mg d.name = some (.ref fa) → TabOf nm mg h → LamX.LawAtS l w (K w.params) (CX w) k n x mg fa h)
    (hCX : ∀ (w : World) (H : Hp) (s : Shared) (e : Value) (s' : Shared), CX w [] H s (fun _ _ _ => False) e s' → False) :
    PySem.W.WalkO q loose XP YP l.row.toRowW d [] (fun f vs => PySem.call f vs) := by
  refine Att.attach_callB hn hdf fun w s₀ s₁ mg mb fa o pm cd doc a vs ns G Y ho hd hcd hmg hobj hints hlen hbits hg => ?_
  obtain ⟨dL, m1, m2⟩ := List.any_eq_true.mp hrec
  obtain ⟨a', o', fd', c', P', g1, g2, g3, g4, _, ⟨oc, vc, e1, e2, e3, e4⟩, e5⟩ := G.T.tab dL m1
  rw [beq_iff_eq.mp m2] at g1
  have TO : TabOf nm mg s₁.heap := ⟨a', o', fd', c', P', oc, vc, g1, g2, g3, g4, e1, e3, e4, e5⟩
  obtain ⟨fd, cs, sp, hT, nT, Cd, hb, hsp, hF⟩ := F w mg fa _ (hY w _ Y) G.T.g hmg TO
  exact LamX.law_callTs (hY w _ Y) G.T.g G.T.b G.T.builtins G.T.nolimit hg hT nT Cd G.T.bmain hobj hints (Nat.le_trans hlen hn2) hr hF hb (fun H hH hS => hsp H a ns hlen hbits hH hS) fun H e s' => hCX w H s₁ e s'
theorem walk_tab2 {l : PySem.W.OpenLaw} {n k : Nat} {q : Program} {loose : List Str} {XP : (Str → Option Value) → Heap → Prop} {YP : World → Heap → Prop} {d : DefRec} {K : Params → PySem.W.Frag} {CX : World → CXT} {x : Str} (nm nm2 : Str)
    (hn : l.most = some n) (hn2 : n ≤ sizeLine) (hdf : d.params.defaults = []) (hr : Room k callerA) (hrec : ((recsOf q).any fun e => e.name == nm) = true) (hrec2 : ((recsOf q).any fun e => e.name == nm2) = true) (hY : ∀ (w : World) (h : Heap), YP w h → (K w.params).In h)
    (F : ∀ (w : World) (mg : Str → Option Value) (fa : Addr) (h : Heap), (K w.params).In h → h.Ns mainGlobals mg → mg d.name = some (.ref fa) → TabOf nm mg h → TabOf nm2 mg h → LamX.LawAtS l w (K w.params) (CX w) k n x mg fa h)
    (hCX : ∀ (w : World) (H : Hp) (s : Shared) (e : Value) (s' : Shared), CX w [] H s (fun _ _ _ => False) e s' → False) :
    PySem.W.WalkO q loose XP YP l.row.toRowW d [] (fun f vs => PySem.call f vs) := by
  refine Att.attach_callB hn hdf fun w s₀ s₁ mg mb fa o pm cd doc a vs ns G Y ho hd hcd hmg hobj hints hlen hbits hg => ?_
  have tabs : ∀ {z : Str}, ((recsOf q).any fun e => e.name == z) = true → TabOf z mg s₁.heap := fun {z} hz => by
    obtain ⟨dL, m1, m2⟩ := List.any_eq_true.mp hz
    obtain ⟨a', o', fd', c', P', g1, g2, g3, g4, _, ⟨oc, vc, e1, e2, e3, e4⟩, e5⟩ := G.T.tab dL m1
    rw [beq_iff_eq.mp m2] at g1
    exact ⟨a', o', fd', c', P', oc, vc, g1, g2, g3, g4, e1, e3, e4, e5⟩
  obtain ⟨fd, cs, sp, hT, nT, Cd, hb, hsp, hF⟩ := F w mg fa _ (hY w _ Y) G.T.g hmg (tabs hrec) (tabs hrec2)
  exact LamX.law_callTs (hY w _ Y) G.T.g G.T.b G.T.builtins G.T.nolimit hg hT nT Cd G.T.bmain hobj hints (Nat.le_trans hlen hn2) hr hF hb (fun H hH hS => hsp H a ns hlen hbits hH hS) fun H e s' => hCX w H s₁ e s'
/-! ### what the top has written -/
set_option maxHeartbeats 0 in
theorem all_mk {l : PySem.W.OpenLaw} {w : World} {K : PySem.W.Frag} {h : Heap} {mg : Str → Option Value} {fa : Addr} (X : K.In h) (G : h.Ns mainGlobals mg) (hfa : mg "law" = some (.ref fa)) (TO_is_move : TabOf "_is_move" mg h) (TO_is_closed : TabOf "_is_closed" mg h)
    {f_fraction : Addr} {od_fraction an_fraction : Option Addr} {sl_fraction : Array (Option Value)} {oc_fraction kV_fraction dc_fraction pm_fraction ct_fraction cd_fraction : Value}
    {f_added : Addr} {od_added an_added : Option Addr} {sl_added : Array (Option Value)} {oc_added kV_added dc_added pm_added ct_added cd_added : Value}
    {f_solved : Addr} {od_solved an_solved : Option Addr} {sl_solved : Array (Option Value)} {oc_solved kV_solved dc_solved pm_solved ct_solved cd_solved : Value}
    {f_bring_up : Addr} {od_bring_up an_bring_up : Option Addr} {sl_bring_up : Array (Option Value)} {oc_bring_up kV_bring_up dc_bring_up pm_bring_up ct_bring_up cd_bring_up : Value}
    {f_without : Addr} {od_without an_without : Option Addr} {sl_without : Array (Option Value)} {oc_without kV_without dc_without pm_without ct_without cd_without : Value}
    {f_everywhere : Addr} {od_everywhere an_everywhere : Option Addr} {sl_everywhere : Array (Option Value)} {oc_everywhere kV_everywhere dc_everywhere pm_everywhere ct_everywhere cd_everywhere : Value}
    {f_groups_from : Addr} {od_groups_from an_groups_from : Option Addr} {sl_groups_from : Array (Option Value)} {oc_groups_from kV_groups_from dc_groups_from pm_groups_from ct_groups_from cd_groups_from : Value}
    {f_led_to : Addr} {od_led_to an_led_to : Option Addr} {sl_led_to : Array (Option Value)} {oc_led_to kV_led_to dc_led_to pm_led_to ct_led_to cd_led_to : Value}
    {f_is_move : Addr} {od_is_move an_is_move : Option Addr} {sl_is_move : Array (Option Value)} {oc_is_move kV_is_move dc_is_move pm_is_move ct_is_move : Value}
    {cM_is_move tM_is_move : Addr} {eM_is_move : Value} {ddM_is_move : Option Addr} {vsM_is_move : Array Value} {slM_is_move : Array (Option Value)}
    {f_weights : Addr} {od_weights an_weights : Option Addr} {sl_weights : Array (Option Value)} {oc_weights kV_weights dc_weights pm_weights ct_weights cd_weights : Value}
    {f_closed : Addr} {od_closed an_closed : Option Addr} {sl_closed : Array (Option Value)} {oc_closed kV_closed dc_closed pm_closed ct_closed cd_closed : Value}
    {f_reached : Addr} {od_reached an_reached : Option Addr} {sl_reached : Array (Option Value)} {oc_reached kV_reached dc_reached pm_reached ct_reached cd_reached : Value}
    {f_is_closed : Addr} {od_is_closed an_is_closed : Option Addr} {sl_is_closed : Array (Option Value)} {oc_is_closed kV_is_closed dc_is_closed pm_is_closed ct_is_closed : Value}
    {cM_is_closed tM_is_closed : Addr} {eM_is_closed : Value} {ddM_is_closed : Option Addr} {vsM_is_closed : Array Value} {slM_is_closed : Array (Option Value)}
    {f_own : Addr} {od_own an_own : Option Addr} {sl_own : Array (Option Value)} {oc_own kV_own dc_own pm_own ct_own cd_own : Value}
    {f_balance : Addr} {od_balance an_balance : Option Addr} {sl_balance : Array (Option Value)} {oc_balance kV_balance dc_balance pm_balance ct_balance cd_balance : Value}
    {f_want_meeting : Addr} {od_want_meeting an_want_meeting : Option Addr} {sl_want_meeting : Array (Option Value)} {oc_want_meeting kV_want_meeting dc_want_meeting pm_want_meeting ct_want_meeting cd_want_meeting : Value}
    {f_first_apart : Addr} {od_first_apart an_first_apart : Option Addr} {sl_first_apart : Array (Option Value)} {oc_first_apart kV_first_apart dc_first_apart pm_first_apart ct_first_apart cd_first_apart : Value}
    {f_row_to_one : Addr} {od_row_to_one an_row_to_one : Option Addr} {sl_row_to_one : Array (Option Value)} {oc_row_to_one kV_row_to_one dc_row_to_one pm_row_to_one ct_row_to_one cd_row_to_one : Value}
    {f_shares : Addr} {od_shares an_shares : Option Addr} {sl_shares : Array (Option Value)} {oc_shares kV_shares dc_shares pm_shares ct_shares cd_shares : Value}
    {f_behind_a_step : Addr} {od_behind_a_step an_behind_a_step : Option Addr} {sl_behind_a_step : Array (Option Value)} {oc_behind_a_step kV_behind_a_step dc_behind_a_step pm_behind_a_step ct_behind_a_step cd_behind_a_step : Value}
    {f_long_shares : Addr} {od_long_shares an_long_shares : Option Addr} {sl_long_shares : Array (Option Value)} {oc_long_shares kV_long_shares dc_long_shares pm_long_shares ct_long_shares cd_long_shares : Value}
    {f_has_too_many_maps : Addr} {od_has_too_many_maps an_has_too_many_maps : Option Addr} {sl_has_too_many_maps : Array (Option Value)} {oc_has_too_many_maps kV_has_too_many_maps dc_has_too_many_maps pm_has_too_many_maps ct_has_too_many_maps cd_has_too_many_maps : Value}
    {f_far_mean : Addr} {od_far_mean an_far_mean : Option Addr} {sl_far_mean : Array (Option Value)} {oc_far_mean kV_far_mean dc_far_mean pm_far_mean ct_far_mean cd_far_mean : Value}
    {f_first_met : Addr} {od_first_met an_first_met : Option Addr} {sl_first_met : Array (Option Value)} {oc_first_met kV_first_met dc_first_met pm_first_met ct_first_met cd_first_met : Value}
    {f_stays : Addr} {od_stays an_stays : Option Addr} {sl_stays : Array (Option Value)} {oc_stays kV_stays dc_stays pm_stays ct_stays cd_stays : Value}
    {f_flow : Addr} {od_flow an_flow : Option Addr} {sl_flow : Array (Option Value)} {oc_flow kV_flow dc_flow pm_flow ct_flow cd_flow : Value}
    {f_law_cell : Addr} {od_law_cell an_law_cell : Option Addr} {sl_law_cell : Array (Option Value)} {oc_law_cell kV_law_cell dc_law_cell pm_law_cell ct_law_cell cd_law_cell : Value}
    {f_law_dice : Addr} {od_law_dice an_law_dice : Option Addr} {sl_law_dice : Array (Option Value)} {oc_law_dice kV_law_dice dc_law_dice pm_law_dice ct_law_dice cd_law_dice : Value}
    {f_law_off : Addr} {od_law_off an_law_off : Option Addr} {sl_law_off : Array (Option Value)} {oc_law_off kV_law_off dc_law_off pm_law_off ct_law_off cd_law_off : Value}
    {f_law_chain : Addr} {od_law_chain an_law_chain : Option Addr} {sl_law_chain : Array (Option Value)} {oc_law_chain kV_law_chain dc_law_chain pm_law_chain ct_law_chain cd_law_chain : Value}
    {f_law_made : Addr} {od_law_made an_law_made : Option Addr} {sl_law_made : Array (Option Value)} {oc_law_made kV_law_made dc_law_made pm_law_made ct_law_made cd_law_made : Value}
    {f_law_apart : Addr} {od_law_apart an_law_apart : Option Addr} {sl_law_apart : Array (Option Value)} {oc_law_apart kV_law_apart dc_law_apart pm_law_apart ct_law_apart cd_law_apart : Value}
    {f_law_other : Addr} {od_law_other an_law_other : Option Addr} {sl_law_other : Array (Option Value)} {oc_law_other kV_law_other dc_law_other pm_law_other ct_law_other cd_law_other : Value}
    {f_law_turned : Addr} {od_law_turned an_law_turned : Option Addr} {sl_law_turned : Array (Option Value)} {oc_law_turned kV_law_turned dc_law_turned pm_law_turned ct_law_turned cd_law_turned : Value}
    {f_law_long : Addr} {od_law_long an_law_long : Option Addr} {sl_law_long : Array (Option Value)} {oc_law_long kV_law_long dc_law_long pm_law_long ct_law_long cd_law_long : Value}
    {f_law : Addr} {od_law an_law : Option Addr} {sl_law : Array (Option Value)} {oc_law kV_law dc_law pm_law ct_law cd_law : Value}
    {C : Addr}
    {f_minit : Addr} {od_minit an_minit : Option Addr} {sl_minit : Array (Option Value)} {oc_minit kV_minit dc_minit pm_minit cd_minit ct_minit : Value}
    {f_mplaces : Addr} {od_mplaces an_mplaces : Option Addr} {sl_mplaces : Array (Option Value)} {oc_mplaces kV_mplaces dc_mplaces pm_mplaces cd_mplaces ct_mplaces : Value}
    {f_mtold : Addr} {od_mtold an_mtold : Option Addr} {sl_mtold : Array (Option Value)} {oc_mtold kV_mtold dc_mtold pm_mtold cd_mtold ct_mtold : Value}
    {tMOST_PLACES : Tok}
    {tMOST_MOVES : Tok}
    {tMOST_WEIGHT : Tok}
    {tMOST_FAR : Tok}
    {tMOST_MAPS : Tok}
    {ALongError : Addr}
    {ABadChain : Addr}
    {ANoSuch : Addr}
    {ANotOne : Addr}
    {ANeverOne : Addr}
    {ATooMany : Addr}
    (a_fraction : PySem.W.nsIn K mainGlobals "fraction" = some (some (.ref f_fraction)))
    (l_fraction : K.lookup f_fraction = some ⟨oc_fraction, od_fraction, .func (PySem.W.fnOf "fraction" "fraction" (defArgs sFraction) (defBody sFraction) (defScope sFraction) .none kV_fraction dc_fraction pm_fraction an_fraction cd_fraction ct_fraction), sl_fraction⟩)
    (c_fraction : PySem.W.codeIn K cd_fraction "fraction" = true)
    (k_fraction : PySem.W.keepIn K (.ref f_fraction) = true)
    (a_added : PySem.W.nsIn K mainGlobals "added" = some (some (.ref f_added)))
    (l_added : K.lookup f_added = some ⟨oc_added, od_added, .func (PySem.W.fnOf "added" "added" (defArgs sAdded) (defBody sAdded) (defScope sAdded) .none kV_added dc_added pm_added an_added cd_added ct_added), sl_added⟩)
    (c_added : PySem.W.codeIn K cd_added "added" = true)
    (k_added : PySem.W.keepIn K (.ref f_added) = true)
    (a_solved : PySem.W.nsIn K mainGlobals "solved" = some (some (.ref f_solved)))
    (l_solved : K.lookup f_solved = some ⟨oc_solved, od_solved, .func (PySem.W.fnOf "solved" "solved" (defArgs sSolved) (defBody sSolved) (defScope sSolved) .none kV_solved dc_solved pm_solved an_solved cd_solved ct_solved), sl_solved⟩)
    (c_solved : PySem.W.codeIn K cd_solved "solved" = true)
    (k_solved : PySem.W.keepIn K (.ref f_solved) = true)
    (a_bring_up : PySem.W.nsIn K mainGlobals "_bring_up" = some (some (.ref f_bring_up)))
    (l_bring_up : K.lookup f_bring_up = some ⟨oc_bring_up, od_bring_up, .func (PySem.W.fnOf "_bring_up" "_bring_up" (defArgs sBringUp) (defBody sBringUp) (defScope sBringUp) .none kV_bring_up dc_bring_up pm_bring_up an_bring_up cd_bring_up ct_bring_up), sl_bring_up⟩)
    (c_bring_up : PySem.W.codeIn K cd_bring_up "_bring_up" = true)
    (k_bring_up : PySem.W.keepIn K (.ref f_bring_up) = true)
    (a_without : PySem.W.nsIn K mainGlobals "_without" = some (some (.ref f_without)))
    (l_without : K.lookup f_without = some ⟨oc_without, od_without, .func (PySem.W.fnOf "_without" "_without" (defArgs sWithout) (defBody sWithout) (defScope sWithout) .none kV_without dc_without pm_without an_without cd_without ct_without), sl_without⟩)
    (c_without : PySem.W.codeIn K cd_without "_without" = true)
    (k_without : PySem.W.keepIn K (.ref f_without) = true)
    (a_everywhere : PySem.W.nsIn K mainGlobals "everywhere" = some (some (.ref f_everywhere)))
    (l_everywhere : K.lookup f_everywhere = some ⟨oc_everywhere, od_everywhere, .func (PySem.W.fnOf "everywhere" "everywhere" (defArgs sEverywhere) (defBody sEverywhere) (defScope sEverywhere) .none kV_everywhere dc_everywhere pm_everywhere an_everywhere cd_everywhere ct_everywhere), sl_everywhere⟩)
    (c_everywhere : PySem.W.codeIn K cd_everywhere "everywhere" = true)
    (k_everywhere : PySem.W.keepIn K (.ref f_everywhere) = true)
    (a_groups_from : PySem.W.nsIn K mainGlobals "groups_from" = some (some (.ref f_groups_from)))
    (l_groups_from : K.lookup f_groups_from = some ⟨oc_groups_from, od_groups_from, .func (PySem.W.fnOf "groups_from" "groups_from" (defArgs sGroupsFrom) (defBody sGroupsFrom) (defScope sGroupsFrom) .none kV_groups_from dc_groups_from pm_groups_from an_groups_from cd_groups_from ct_groups_from), sl_groups_from⟩)
    (c_groups_from : PySem.W.codeIn K cd_groups_from "groups_from" = true)
    (k_groups_from : PySem.W.keepIn K (.ref f_groups_from) = true)
    (a_led_to : PySem.W.nsIn K mainGlobals "led_to" = some (some (.ref f_led_to)))
    (l_led_to : K.lookup f_led_to = some ⟨oc_led_to, od_led_to, .func (PySem.W.fnOf "led_to" "led_to" (defArgs sLedTo) (defBody sLedTo) (defScope sLedTo) .none kV_led_to dc_led_to pm_led_to an_led_to cd_led_to ct_led_to), sl_led_to⟩)
    (c_led_to : PySem.W.codeIn K cd_led_to "led_to" = true)
    (k_led_to : PySem.W.keepIn K (.ref f_led_to) = true)
    (a_is_move : PySem.W.nsIn K mainGlobals "_is_move" = some (some (.ref f_is_move)))
    (l_is_move : K.lookup f_is_move = some ⟨oc_is_move, od_is_move, .func (PySem.W.fnOf "_is_move" "_is_move" (defArgs sIsMove) (defBody sIsMove) (defScope sIsMove) .none kV_is_move dc_is_move pm_is_move an_is_move (.ref cM_is_move) ct_is_move), sl_is_move⟩)
    (c_is_move : PySem.W.codeIn K (.ref cM_is_move) "_is_move" = true)
    (k_is_move : PySem.W.keepIn K (.ref f_is_move) = true)
    (a_weights : PySem.W.nsIn K mainGlobals "_weights" = some (some (.ref f_weights)))
    (l_weights : K.lookup f_weights = some ⟨oc_weights, od_weights, .func (PySem.W.fnOf "_weights" "_weights" (defArgs sWeights) (defBody sWeights) (defScope sWeights) .none kV_weights dc_weights pm_weights an_weights cd_weights ct_weights), sl_weights⟩)
    (c_weights : PySem.W.codeIn K cd_weights "_weights" = true)
    (k_weights : PySem.W.keepIn K (.ref f_weights) = true)
    (a_closed : PySem.W.nsIn K mainGlobals "closed" = some (some (.ref f_closed)))
    (l_closed : K.lookup f_closed = some ⟨oc_closed, od_closed, .func (PySem.W.fnOf "closed" "closed" (defArgs sClosed) (defBody sClosed) (defScope sClosed) .none kV_closed dc_closed pm_closed an_closed cd_closed ct_closed), sl_closed⟩)
    (c_closed : PySem.W.codeIn K cd_closed "closed" = true)
    (k_closed : PySem.W.keepIn K (.ref f_closed) = true)
    (a_reached : PySem.W.nsIn K mainGlobals "_reached" = some (some (.ref f_reached)))
    (l_reached : K.lookup f_reached = some ⟨oc_reached, od_reached, .func (PySem.W.fnOf "_reached" "_reached" (defArgs sReached) (defBody sReached) (defScope sReached) .none kV_reached dc_reached pm_reached an_reached cd_reached ct_reached), sl_reached⟩)
    (c_reached : PySem.W.codeIn K cd_reached "_reached" = true)
    (k_reached : PySem.W.keepIn K (.ref f_reached) = true)
    (a_is_closed : PySem.W.nsIn K mainGlobals "_is_closed" = some (some (.ref f_is_closed)))
    (l_is_closed : K.lookup f_is_closed = some ⟨oc_is_closed, od_is_closed, .func (PySem.W.fnOf "_is_closed" "_is_closed" (defArgs sIsClosed) (defBody sIsClosed) (defScope sIsClosed) .none kV_is_closed dc_is_closed pm_is_closed an_is_closed (.ref cM_is_closed) ct_is_closed), sl_is_closed⟩)
    (c_is_closed : PySem.W.codeIn K (.ref cM_is_closed) "_is_closed" = true)
    (k_is_closed : PySem.W.keepIn K (.ref f_is_closed) = true)
    (a_own : PySem.W.nsIn K mainGlobals "own" = some (some (.ref f_own)))
    (l_own : K.lookup f_own = some ⟨oc_own, od_own, .func (PySem.W.fnOf "own" "own" (defArgs sOwn) (defBody sOwn) (defScope sOwn) .none kV_own dc_own pm_own an_own cd_own ct_own), sl_own⟩)
    (c_own : PySem.W.codeIn K cd_own "own" = true)
    (k_own : PySem.W.keepIn K (.ref f_own) = true)
    (a_balance : PySem.W.nsIn K mainGlobals "_balance" = some (some (.ref f_balance)))
    (l_balance : K.lookup f_balance = some ⟨oc_balance, od_balance, .func (PySem.W.fnOf "_balance" "_balance" (defArgs sBalance) (defBody sBalance) (defScope sBalance) .none kV_balance dc_balance pm_balance an_balance cd_balance ct_balance), sl_balance⟩)
    (c_balance : PySem.W.codeIn K cd_balance "_balance" = true)
    (k_balance : PySem.W.keepIn K (.ref f_balance) = true)
    (a_want_meeting : PySem.W.nsIn K mainGlobals "want_meeting" = some (some (.ref f_want_meeting)))
    (l_want_meeting : K.lookup f_want_meeting = some ⟨oc_want_meeting, od_want_meeting, .func (PySem.W.fnOf "want_meeting" "want_meeting" (defArgs sWantMeeting) (defBody sWantMeeting) (defScope sWantMeeting) .none kV_want_meeting dc_want_meeting pm_want_meeting an_want_meeting cd_want_meeting ct_want_meeting), sl_want_meeting⟩)
    (c_want_meeting : PySem.W.codeIn K cd_want_meeting "want_meeting" = true)
    (k_want_meeting : PySem.W.keepIn K (.ref f_want_meeting) = true)
    (a_first_apart : PySem.W.nsIn K mainGlobals "_first_apart" = some (some (.ref f_first_apart)))
    (l_first_apart : K.lookup f_first_apart = some ⟨oc_first_apart, od_first_apart, .func (PySem.W.fnOf "_first_apart" "_first_apart" (defArgs sFirstApart) (defBody sFirstApart) (defScope sFirstApart) .none kV_first_apart dc_first_apart pm_first_apart an_first_apart cd_first_apart ct_first_apart), sl_first_apart⟩)
    (c_first_apart : PySem.W.codeIn K cd_first_apart "_first_apart" = true)
    (k_first_apart : PySem.W.keepIn K (.ref f_first_apart) = true)
    (a_row_to_one : PySem.W.nsIn K mainGlobals "_row_to_one" = some (some (.ref f_row_to_one)))
    (l_row_to_one : K.lookup f_row_to_one = some ⟨oc_row_to_one, od_row_to_one, .func (PySem.W.fnOf "_row_to_one" "_row_to_one" (defArgs sRowToOne) (defBody sRowToOne) (defScope sRowToOne) .none kV_row_to_one dc_row_to_one pm_row_to_one an_row_to_one cd_row_to_one ct_row_to_one), sl_row_to_one⟩)
    (c_row_to_one : PySem.W.codeIn K cd_row_to_one "_row_to_one" = true)
    (k_row_to_one : PySem.W.keepIn K (.ref f_row_to_one) = true)
    (a_shares : PySem.W.nsIn K mainGlobals "shares" = some (some (.ref f_shares)))
    (l_shares : K.lookup f_shares = some ⟨oc_shares, od_shares, .func (PySem.W.fnOf "shares" "shares" (defArgs sShares) (defBody sShares) (defScope sShares) .none kV_shares dc_shares pm_shares an_shares cd_shares ct_shares), sl_shares⟩)
    (c_shares : PySem.W.codeIn K cd_shares "shares" = true)
    (k_shares : PySem.W.keepIn K (.ref f_shares) = true)
    (a_behind_a_step : PySem.W.nsIn K mainGlobals "_behind_a_step" = some (some (.ref f_behind_a_step)))
    (l_behind_a_step : K.lookup f_behind_a_step = some ⟨oc_behind_a_step, od_behind_a_step, .func (PySem.W.fnOf "_behind_a_step" "_behind_a_step" (defArgs sBehindAStep) (defBody sBehindAStep) (defScope sBehindAStep) .none kV_behind_a_step dc_behind_a_step pm_behind_a_step an_behind_a_step cd_behind_a_step ct_behind_a_step), sl_behind_a_step⟩)
    (c_behind_a_step : PySem.W.codeIn K cd_behind_a_step "_behind_a_step" = true)
    (k_behind_a_step : PySem.W.keepIn K (.ref f_behind_a_step) = true)
    (a_long_shares : PySem.W.nsIn K mainGlobals "long_shares" = some (some (.ref f_long_shares)))
    (l_long_shares : K.lookup f_long_shares = some ⟨oc_long_shares, od_long_shares, .func (PySem.W.fnOf "long_shares" "long_shares" (defArgs sLongShares) (defBody sLongShares) (defScope sLongShares) .none kV_long_shares dc_long_shares pm_long_shares an_long_shares cd_long_shares ct_long_shares), sl_long_shares⟩)
    (c_long_shares : PySem.W.codeIn K cd_long_shares "long_shares" = true)
    (k_long_shares : PySem.W.keepIn K (.ref f_long_shares) = true)
    (a_has_too_many_maps : PySem.W.nsIn K mainGlobals "_has_too_many_maps" = some (some (.ref f_has_too_many_maps)))
    (l_has_too_many_maps : K.lookup f_has_too_many_maps = some ⟨oc_has_too_many_maps, od_has_too_many_maps, .func (PySem.W.fnOf "_has_too_many_maps" "_has_too_many_maps" (defArgs sHasTooManyMaps) (defBody sHasTooManyMaps) (defScope sHasTooManyMaps) .none kV_has_too_many_maps dc_has_too_many_maps pm_has_too_many_maps an_has_too_many_maps cd_has_too_many_maps ct_has_too_many_maps), sl_has_too_many_maps⟩)
    (c_has_too_many_maps : PySem.W.codeIn K cd_has_too_many_maps "_has_too_many_maps" = true)
    (k_has_too_many_maps : PySem.W.keepIn K (.ref f_has_too_many_maps) = true)
    (a_far_mean : PySem.W.nsIn K mainGlobals "far_mean" = some (some (.ref f_far_mean)))
    (l_far_mean : K.lookup f_far_mean = some ⟨oc_far_mean, od_far_mean, .func (PySem.W.fnOf "far_mean" "far_mean" (defArgs sFarMean) (defBody sFarMean) (defScope sFarMean) .none kV_far_mean dc_far_mean pm_far_mean an_far_mean cd_far_mean ct_far_mean), sl_far_mean⟩)
    (c_far_mean : PySem.W.codeIn K cd_far_mean "far_mean" = true)
    (k_far_mean : PySem.W.keepIn K (.ref f_far_mean) = true)
    (a_first_met : PySem.W.nsIn K mainGlobals "first_met" = some (some (.ref f_first_met)))
    (l_first_met : K.lookup f_first_met = some ⟨oc_first_met, od_first_met, .func (PySem.W.fnOf "first_met" "first_met" (defArgs sFirstMet) (defBody sFirstMet) (defScope sFirstMet) .none kV_first_met dc_first_met pm_first_met an_first_met cd_first_met ct_first_met), sl_first_met⟩)
    (c_first_met : PySem.W.codeIn K cd_first_met "first_met" = true)
    (k_first_met : PySem.W.keepIn K (.ref f_first_met) = true)
    (a_stays : PySem.W.nsIn K mainGlobals "_stays" = some (some (.ref f_stays)))
    (l_stays : K.lookup f_stays = some ⟨oc_stays, od_stays, .func (PySem.W.fnOf "_stays" "_stays" (defArgs sStays) (defBody sStays) (defScope sStays) .none kV_stays dc_stays pm_stays an_stays cd_stays ct_stays), sl_stays⟩)
    (c_stays : PySem.W.codeIn K cd_stays "_stays" = true)
    (k_stays : PySem.W.keepIn K (.ref f_stays) = true)
    (a_flow : PySem.W.nsIn K mainGlobals "_flow" = some (some (.ref f_flow)))
    (l_flow : K.lookup f_flow = some ⟨oc_flow, od_flow, .func (PySem.W.fnOf "_flow" "_flow" (defArgs sFlow) (defBody sFlow) (defScope sFlow) .none kV_flow dc_flow pm_flow an_flow cd_flow ct_flow), sl_flow⟩)
    (c_flow : PySem.W.codeIn K cd_flow "_flow" = true)
    (k_flow : PySem.W.keepIn K (.ref f_flow) = true)
    (a_law_cell : PySem.W.nsIn K mainGlobals "_law_cell" = some (some (.ref f_law_cell)))
    (l_law_cell : K.lookup f_law_cell = some ⟨oc_law_cell, od_law_cell, .func (PySem.W.fnOf "_law_cell" "_law_cell" (defArgs sCell) (defBody sCell) (defScope sCell) .none kV_law_cell dc_law_cell pm_law_cell an_law_cell cd_law_cell ct_law_cell), sl_law_cell⟩)
    (c_law_cell : PySem.W.codeIn K cd_law_cell "_law_cell" = true)
    (k_law_cell : PySem.W.keepIn K (.ref f_law_cell) = true)
    (a_law_dice : PySem.W.nsIn K mainGlobals "_law_dice" = some (some (.ref f_law_dice)))
    (l_law_dice : K.lookup f_law_dice = some ⟨oc_law_dice, od_law_dice, .func (PySem.W.fnOf "_law_dice" "_law_dice" (defArgs sDice) (defBody sDice) (defScope sDice) .none kV_law_dice dc_law_dice pm_law_dice an_law_dice cd_law_dice ct_law_dice), sl_law_dice⟩)
    (c_law_dice : PySem.W.codeIn K cd_law_dice "_law_dice" = true)
    (k_law_dice : PySem.W.keepIn K (.ref f_law_dice) = true)
    (a_law_off : PySem.W.nsIn K mainGlobals "_law_off" = some (some (.ref f_law_off)))
    (l_law_off : K.lookup f_law_off = some ⟨oc_law_off, od_law_off, .func (PySem.W.fnOf "_law_off" "_law_off" (defArgs sOff) (defBody sOff) (defScope sOff) .none kV_law_off dc_law_off pm_law_off an_law_off cd_law_off ct_law_off), sl_law_off⟩)
    (c_law_off : PySem.W.codeIn K cd_law_off "_law_off" = true)
    (k_law_off : PySem.W.keepIn K (.ref f_law_off) = true)
    (a_law_chain : PySem.W.nsIn K mainGlobals "_law_chain" = some (some (.ref f_law_chain)))
    (l_law_chain : K.lookup f_law_chain = some ⟨oc_law_chain, od_law_chain, .func (PySem.W.fnOf "_law_chain" "_law_chain" (defArgs sChain) (defBody sChain) (defScope sChain) .none kV_law_chain dc_law_chain pm_law_chain an_law_chain cd_law_chain ct_law_chain), sl_law_chain⟩)
    (c_law_chain : PySem.W.codeIn K cd_law_chain "_law_chain" = true)
    (k_law_chain : PySem.W.keepIn K (.ref f_law_chain) = true)
    (a_law_made : PySem.W.nsIn K mainGlobals "_law_made" = some (some (.ref f_law_made)))
    (l_law_made : K.lookup f_law_made = some ⟨oc_law_made, od_law_made, .func (PySem.W.fnOf "_law_made" "_law_made" (defArgs sMade) (defBody sMade) (defScope sMade) .none kV_law_made dc_law_made pm_law_made an_law_made cd_law_made ct_law_made), sl_law_made⟩)
    (c_law_made : PySem.W.codeIn K cd_law_made "_law_made" = true)
    (k_law_made : PySem.W.keepIn K (.ref f_law_made) = true)
    (a_law_apart : PySem.W.nsIn K mainGlobals "_law_apart" = some (some (.ref f_law_apart)))
    (l_law_apart : K.lookup f_law_apart = some ⟨oc_law_apart, od_law_apart, .func (PySem.W.fnOf "_law_apart" "_law_apart" (defArgs sLawApart) (defBody sLawApart) (defScope sLawApart) .none kV_law_apart dc_law_apart pm_law_apart an_law_apart cd_law_apart ct_law_apart), sl_law_apart⟩)
    (c_law_apart : PySem.W.codeIn K cd_law_apart "_law_apart" = true)
    (k_law_apart : PySem.W.keepIn K (.ref f_law_apart) = true)
    (a_law_other : PySem.W.nsIn K mainGlobals "_law_other" = some (some (.ref f_law_other)))
    (l_law_other : K.lookup f_law_other = some ⟨oc_law_other, od_law_other, .func (PySem.W.fnOf "_law_other" "_law_other" (defArgs sLawOther) (defBody sLawOther) (defScope sLawOther) .none kV_law_other dc_law_other pm_law_other an_law_other cd_law_other ct_law_other), sl_law_other⟩)
    (c_law_other : PySem.W.codeIn K cd_law_other "_law_other" = true)
    (k_law_other : PySem.W.keepIn K (.ref f_law_other) = true)
    (a_law_turned : PySem.W.nsIn K mainGlobals "_law_turned" = some (some (.ref f_law_turned)))
    (l_law_turned : K.lookup f_law_turned = some ⟨oc_law_turned, od_law_turned, .func (PySem.W.fnOf "_law_turned" "_law_turned" (defArgs sLawTurned) (defBody sLawTurned) (defScope sLawTurned) .none kV_law_turned dc_law_turned pm_law_turned an_law_turned cd_law_turned ct_law_turned), sl_law_turned⟩)
    (c_law_turned : PySem.W.codeIn K cd_law_turned "_law_turned" = true)
    (k_law_turned : PySem.W.keepIn K (.ref f_law_turned) = true)
    (a_law_long : PySem.W.nsIn K mainGlobals "_law_long" = some (some (.ref f_law_long)))
    (l_law_long : K.lookup f_law_long = some ⟨oc_law_long, od_law_long, .func (PySem.W.fnOf "_law_long" "_law_long" (defArgs sLawLong) (defBody sLawLong) (defScope sLawLong) .none kV_law_long dc_law_long pm_law_long an_law_long cd_law_long ct_law_long), sl_law_long⟩)
    (c_law_long : PySem.W.codeIn K cd_law_long "_law_long" = true)
    (k_law_long : PySem.W.keepIn K (.ref f_law_long) = true)
    (a_law : PySem.W.nsIn K mainGlobals "law" = some (some (.ref f_law)))
    (l_law : K.lookup f_law = some ⟨oc_law, od_law, .func (PySem.W.fnOf "law" "law" (defArgs sLaw) (defBody sLaw) (defScope sLaw) .none kV_law dc_law pm_law an_law cd_law ct_law), sl_law⟩)
    (c_law : PySem.W.codeIn K cd_law "law" = true)
    (k_law : PySem.W.keepIn K (.ref f_law) = true)
    (aC : PySem.W.nsIn K mainGlobals "Chain" = some (some (.ref C)))
    (a_minit : PySem.W.findIn K (.ref C) "__init__" = some (some (.ref f_minit)))
    (i_minit : PySem.W.isFn K (.ref f_minit) = true)
    (l_minit : K.lookup f_minit = some ⟨oc_minit, od_minit, .func (PySem.W.fnOf "__init__" "Chain.__init__" (defArgs (inClass cChain 0)) (defBody (inClass cChain 0)) (defScope (inClass cChain 0)) .none kV_minit dc_minit pm_minit an_minit cd_minit ct_minit), sl_minit⟩)
    (c_minit : PySem.W.codeIn K cd_minit "Chain.__init__" = true)
    (k_minit : PySem.W.keepIn K (.ref f_minit) = true)
    (a_mplaces : PySem.W.findIn K (.ref C) "places" = some (some (.ref f_mplaces)))
    (i_mplaces : PySem.W.isFn K (.ref f_mplaces) = true)
    (l_mplaces : K.lookup f_mplaces = some ⟨oc_mplaces, od_mplaces, .func (PySem.W.fnOf "places" "Chain.places" (defArgs (inClass cChain 1)) (defBody (inClass cChain 1)) (defScope (inClass cChain 1)) .none kV_mplaces dc_mplaces pm_mplaces an_mplaces cd_mplaces ct_mplaces), sl_mplaces⟩)
    (c_mplaces : PySem.W.codeIn K cd_mplaces "Chain.places" = true)
    (k_mplaces : PySem.W.keepIn K (.ref f_mplaces) = true)
    (a_mtold : PySem.W.findIn K (.ref C) "told" = some (some (.ref f_mtold)))
    (i_mtold : PySem.W.isFn K (.ref f_mtold) = true)
    (l_mtold : K.lookup f_mtold = some ⟨oc_mtold, od_mtold, .func (PySem.W.fnOf "told" "Chain.told" (defArgs (inClass cChain 2)) (defBody (inClass cChain 2)) (defScope (inClass cChain 2)) .none kV_mtold dc_mtold pm_mtold an_mtold cd_mtold ct_mtold), sl_mtold⟩)
    (c_mtold : PySem.W.codeIn K cd_mtold "Chain.told" = true)
    (k_mtold : PySem.W.keepIn K (.ref f_mtold) = true)
    (pg : PySem.W.plainGet K C Str.empty = true)
    (hd : PySem.W.hasDictIn K C = true)
    (po : PySem.W.plainOver K C = true)
    (sa : PySem.W.findIn K (.ref C) "__setattr__" = some (some (.builtin "object.__setattr__")))
    (mk : PySem.W.makesIn K C = true)
    (kc : PySem.W.keepIn K (.ref C) = true)
    (nM : PySem.W.findIn K (.ref C) "_many" = some none)
    (nV : PySem.W.findIn K (.ref C) "_moves" = some none)
    (gMOST_PLACES : PySem.W.nsIn K mainGlobals "MOST_PLACES" = some (some (.int 6 tMOST_PLACES)))
    (gMOST_MOVES : PySem.W.nsIn K mainGlobals "MOST_MOVES" = some (some (.int 8 tMOST_MOVES)))
    (gMOST_WEIGHT : PySem.W.nsIn K mainGlobals "MOST_WEIGHT" = some (some (.int 99 tMOST_WEIGHT)))
    (gMOST_FAR : PySem.W.nsIn K mainGlobals "MOST_FAR" = some (some (.int 20 tMOST_FAR)))
    (gMOST_MAPS : PySem.W.nsIn K mainGlobals "MOST_MAPS" = some (some (.int 30 tMOST_MAPS)))
    (zlen : PySem.W.nsIn K mainGlobals "len" = some none)
    (zabs : PySem.W.nsIn K mainGlobals "abs" = some none)
    (zmax : PySem.W.nsIn K mainGlobals "max" = some none)
    (zmin : PySem.W.nsIn K mainGlobals "min" = some none)
    (zint : PySem.W.nsIn K mainGlobals "int" = some none)
    (zrange : PySem.W.nsIn K mainGlobals "range" = some none)
    (zsorted : PySem.W.nsIn K mainGlobals "sorted" = some none)
    (ztuple : PySem.W.nsIn K mainGlobals "tuple" = some none)
    (zisinstance : PySem.W.nsIn K mainGlobals "isinstance" = some none)
    (zall : PySem.W.nsIn K mainGlobals "all" = some none)
    (zenumerate : PySem.W.nsIn K mainGlobals "enumerate" = some none)
    (zlist : PySem.W.nsIn K mainGlobals "list" = some none)
    (zset : PySem.W.nsIn K mainGlobals "set" = some none)
    (zsum : PySem.W.nsIn K mainGlobals "sum" = some none)
    (zValueError : PySem.W.nsIn K mainGlobals "ValueError" = some none)
    (zzip : PySem.W.nsIn K mainGlobals "zip" = some none)
    (zdict : PySem.W.nsIn K mainGlobals "dict" = some none)
    (eLongError : PySem.W.nsIn K mainGlobals "LongError" = some (some (.ref ALongError)))
    (eBadChain : PySem.W.nsIn K mainGlobals "BadChain" = some (some (.ref ABadChain)))
    (eNoSuch : PySem.W.nsIn K mainGlobals "NoSuch" = some (some (.ref ANoSuch)))
    (eNotOne : PySem.W.nsIn K mainGlobals "NotOne" = some (some (.ref ANotOne)))
    (eNeverOne : PySem.W.nsIn K mainGlobals "NeverOne" = some (some (.ref ANeverOne)))
    (eTooMany : PySem.W.nsIn K mainGlobals "TooMany" = some (some (.ref ATooMany)))
    (xkTooMany : PySem.W.keepIn K (.ref ATooMany) = true)
    (xxTooMany : PySem.W.excIn K ATooMany [.type "ValueError", .type "Exception", .type "BaseException", .type "object"] "ValueError.__new__" = true)
    (xbTooMany : PySem.W.subIn K (.ref ATooMany) (.type "BaseException") = some true)
    (xtTooMany : PySem.W.typeIn K (.ref ATooMany) = some (.type "type"))
    (gcomb : PySem.W.nsIn K mainGlobals "combinations" = some (some (.type "itertools.combinations")))
    (ggcd : PySem.W.nsIn K mainGlobals "gcd" = some (some (.builtin "math.gcd")))
    (wmm : PySem.W.exmOne K (.ref ATooMany) (.ref ATooMany) = some true)
    (lM_is_move : K.lookup cM_is_move = some ⟨eM_is_move, ddM_is_move, .fields vsM_is_move, slM_is_move⟩)
    (vM_is_move : vsM_is_move[11]? = some (.ref tM_is_move))
    (hM_is_move : PySem.W.codeHdIn K cM_is_move tM_is_move = true)
    (nT_is_move : K.lookup tM_is_move = none)
    (lM_is_closed : K.lookup cM_is_closed = some ⟨eM_is_closed, ddM_is_closed, .fields vsM_is_closed, slM_is_closed⟩)
    (vM_is_closed : vsM_is_closed[11]? = some (.ref tM_is_closed))
    (hM_is_closed : PySem.W.codeHdIn K cM_is_closed tM_is_closed = true)
    (nT_is_closed : K.lookup tM_is_closed = none) :
    LamX.LawAtS l w K CX0 8 63 "_law_script" mg fa h := by
  have e := hfa.symm.trans (PySem.W.mg_of X G a_law)
  cases e
  have F_fraction := fun_mk (st := sFraction) l_fraction c_fraction k_fraction
  have b_fraction := F_fraction.binds (ps := ["top", "bottom"]) fun _ _ _ _ _ _ us hl => match us, hl with | [_, _], _ => rfl
  have g_fraction := PySem.W.mg_of X G a_fraction
  have D_fraction : Df K mg "fraction" sFraction ["top", "bottom"] f_fraction _ := ⟨F_fraction, b_fraction, g_fraction⟩
  have F_added := fun_mk (st := sAdded) l_added c_added k_added
  have b_added := F_added.binds (ps := ["one", "other"]) fun _ _ _ _ _ _ us hl => match us, hl with | [_, _], _ => rfl
  have g_added := PySem.W.mg_of X G a_added
  have D_added : Df K mg "added" sAdded ["one", "other"] f_added _ := ⟨F_added, b_added, g_added⟩
  have F_solved := fun_mk (st := sSolved) l_solved c_solved k_solved
  have b_solved := F_solved.binds (ps := ["equations"]) fun _ _ _ _ _ _ us hl => match us, hl with | [_], _ => rfl
  have g_solved := PySem.W.mg_of X G a_solved
  have D_solved : Df K mg "solved" sSolved ["equations"] f_solved _ := ⟨F_solved, b_solved, g_solved⟩
  have F_bring_up := fun_mk (st := sBringUp) l_bring_up c_bring_up k_bring_up
  have b_bring_up := F_bring_up.binds (ps := ["rows", "at"]) fun _ _ _ _ _ _ us hl => match us, hl with | [_, _], _ => rfl
  have g_bring_up := PySem.W.mg_of X G a_bring_up
  have D_bring_up : Df K mg "_bring_up" sBringUp ["rows", "at"] f_bring_up _ := ⟨F_bring_up, b_bring_up, g_bring_up⟩
  have F_without := fun_mk (st := sWithout) l_without c_without k_without
  have b_without := F_without.binds (ps := ["row", "lead", "at", "before"]) fun _ _ _ _ _ _ us hl => match us, hl with | [_, _, _, _], _ => rfl
  have g_without := PySem.W.mg_of X G a_without
  have D_without : Df K mg "_without" sWithout ["row", "lead", "at", "before"] f_without _ := ⟨F_without, b_without, g_without⟩
  have F_everywhere := fun_mk (st := sEverywhere) l_everywhere c_everywhere k_everywhere
  have b_everywhere := F_everywhere.binds (ps := ["chain"]) fun _ _ _ _ _ _ us hl => match us, hl with | [_], _ => rfl
  have g_everywhere := PySem.W.mg_of X G a_everywhere
  have D_everywhere : Df K mg "everywhere" sEverywhere ["chain"] f_everywhere _ := ⟨F_everywhere, b_everywhere, g_everywhere⟩
  have F_groups_from := fun_mk (st := sGroupsFrom) l_groups_from c_groups_from k_groups_from
  have b_groups_from := F_groups_from.binds (ps := ["moves", "begin"]) fun _ _ _ _ _ _ us hl => match us, hl with | [_, _], _ => rfl
  have g_groups_from := PySem.W.mg_of X G a_groups_from
  have D_groups_from : Df K mg "groups_from" sGroupsFrom ["moves", "begin"] f_groups_from _ := ⟨F_groups_from, b_groups_from, g_groups_from⟩
  have F_led_to := fun_mk (st := sLedTo) l_led_to c_led_to k_led_to
  have b_led_to := F_led_to.binds (ps := ["whither", "group"]) fun _ _ _ _ _ _ us hl => match us, hl with | [_, _], _ => rfl
  have g_led_to := PySem.W.mg_of X G a_led_to
  have D_led_to : Df K mg "led_to" sLedTo ["whither", "group"] f_led_to _ := ⟨F_led_to, b_led_to, g_led_to⟩
  have FM_is_move : FunT K "_is_move" "_is_move" sIsMove f_is_move _ cM_is_move := ⟨⟨_, _, _, _, _, _, _, _, rfl, l_is_move, c_is_move⟩, k_is_move⟩
  have F_is_move := fun_mk (st := sIsMove) l_is_move c_is_move k_is_move
  have b_is_move := F_is_move.binds (ps := ["many", "move"]) fun _ _ _ _ _ _ us hl => match us, hl with | [_, _], _ => rfl
  have g_is_move := PySem.W.mg_of X G a_is_move
  have D_is_move : Df K mg "_is_move" sIsMove ["many", "move"] f_is_move _ := ⟨F_is_move, b_is_move, g_is_move⟩
  have F_weights := fun_mk (st := sWeights) l_weights c_weights k_weights
  have b_weights := F_weights.binds (ps := ["chain"]) fun _ _ _ _ _ _ us hl => match us, hl with | [_], _ => rfl
  have g_weights := PySem.W.mg_of X G a_weights
  have D_weights : Df K mg "_weights" sWeights ["chain"] f_weights _ := ⟨F_weights, b_weights, g_weights⟩
  have F_closed := fun_mk (st := sClosed) l_closed c_closed k_closed
  have b_closed := F_closed.binds (ps := ["chain"]) fun _ _ _ _ _ _ us hl => match us, hl with | [_], _ => rfl
  have g_closed := PySem.W.mg_of X G a_closed
  have D_closed : Df K mg "closed" sClosed ["chain"] f_closed _ := ⟨F_closed, b_closed, g_closed⟩
  have F_reached := fun_mk (st := sReached) l_reached c_reached k_reached
  have b_reached := F_reached.binds (ps := ["moves", "begin"]) fun _ _ _ _ _ _ us hl => match us, hl with | [_, _], _ => rfl
  have g_reached := PySem.W.mg_of X G a_reached
  have D_reached : Df K mg "_reached" sReached ["moves", "begin"] f_reached _ := ⟨F_reached, b_reached, g_reached⟩
  have FM_is_closed : FunT K "_is_closed" "_is_closed" sIsClosed f_is_closed _ cM_is_closed := ⟨⟨_, _, _, _, _, _, _, _, rfl, l_is_closed, c_is_closed⟩, k_is_closed⟩
  have F_is_closed := fun_mk (st := sIsClosed) l_is_closed c_is_closed k_is_closed
  have b_is_closed := F_is_closed.binds (ps := ["reached", "group"]) fun _ _ _ _ _ _ us hl => match us, hl with | [_, _], _ => rfl
  have g_is_closed := PySem.W.mg_of X G a_is_closed
  have D_is_closed : Df K mg "_is_closed" sIsClosed ["reached", "group"] f_is_closed _ := ⟨F_is_closed, b_is_closed, g_is_closed⟩
  have F_own := fun_mk (st := sOwn) l_own c_own k_own
  have b_own := F_own.binds (ps := ["chain"]) fun _ _ _ _ _ _ us hl => match us, hl with | [_], _ => rfl
  have g_own := PySem.W.mg_of X G a_own
  have D_own : Df K mg "own" sOwn ["chain"] f_own _ := ⟨F_own, b_own, g_own⟩
  have F_balance := fun_mk (st := sBalance) l_balance c_balance k_balance
  have b_balance := F_balance.binds (ps := ["chain"]) fun _ _ _ _ _ _ us hl => match us, hl with | [_], _ => rfl
  have g_balance := PySem.W.mg_of X G a_balance
  have D_balance : Df K mg "_balance" sBalance ["chain"] f_balance _ := ⟨F_balance, b_balance, g_balance⟩
  have F_want_meeting := fun_mk (st := sWantMeeting) l_want_meeting c_want_meeting k_want_meeting
  have b_want_meeting := F_want_meeting.binds (ps := ["chain"]) fun _ _ _ _ _ _ us hl => match us, hl with | [_], _ => rfl
  have g_want_meeting := PySem.W.mg_of X G a_want_meeting
  have D_want_meeting : Df K mg "want_meeting" sWantMeeting ["chain"] f_want_meeting _ := ⟨F_want_meeting, b_want_meeting, g_want_meeting⟩
  have F_first_apart := fun_mk (st := sFirstApart) l_first_apart c_first_apart k_first_apart
  have b_first_apart := F_first_apart.binds (ps := ["chain"]) fun _ _ _ _ _ _ us hl => match us, hl with | [_], _ => rfl
  have g_first_apart := PySem.W.mg_of X G a_first_apart
  have D_first_apart : Df K mg "_first_apart" sFirstApart ["chain"] f_first_apart _ := ⟨F_first_apart, b_first_apart, g_first_apart⟩
  have F_row_to_one := fun_mk (st := sRowToOne) l_row_to_one c_row_to_one k_row_to_one
  have b_row_to_one := F_row_to_one.binds (ps := ["moves", "group"]) fun _ _ _ _ _ _ us hl => match us, hl with | [_, _], _ => rfl
  have g_row_to_one := PySem.W.mg_of X G a_row_to_one
  have D_row_to_one : Df K mg "_row_to_one" sRowToOne ["moves", "group"] f_row_to_one _ := ⟨F_row_to_one, b_row_to_one, g_row_to_one⟩
  have F_shares := fun_mk (st := sShares) l_shares c_shares k_shares
  have b_shares := F_shares.binds (ps := ["chain", "far"]) fun _ _ _ _ _ _ us hl => match us, hl with | [_, _], _ => rfl
  have g_shares := PySem.W.mg_of X G a_shares
  have D_shares : Df K mg "shares" sShares ["chain", "far"] f_shares _ := ⟨F_shares, b_shares, g_shares⟩
  have F_behind_a_step := fun_mk (st := sBehindAStep) l_behind_a_step c_behind_a_step k_behind_a_step
  have b_behind_a_step := F_behind_a_step.binds (ps := ["moves", "weights"]) fun _ _ _ _ _ _ us hl => match us, hl with | [_, _], _ => rfl
  have g_behind_a_step := PySem.W.mg_of X G a_behind_a_step
  have D_behind_a_step : Df K mg "_behind_a_step" sBehindAStep ["moves", "weights"] f_behind_a_step _ := ⟨F_behind_a_step, b_behind_a_step, g_behind_a_step⟩
  have F_long_shares := fun_mk (st := sLongShares) l_long_shares c_long_shares k_long_shares
  have b_long_shares := F_long_shares.binds (ps := ["chain"]) fun _ _ _ _ _ _ us hl => match us, hl with | [_], _ => rfl
  have g_long_shares := PySem.W.mg_of X G a_long_shares
  have D_long_shares : Df K mg "long_shares" sLongShares ["chain"] f_long_shares _ := ⟨F_long_shares, b_long_shares, g_long_shares⟩
  have F_has_too_many_maps := fun_mk (st := sHasTooManyMaps) l_has_too_many_maps c_has_too_many_maps k_has_too_many_maps
  have b_has_too_many_maps := F_has_too_many_maps.binds (ps := ["chain"]) fun _ _ _ _ _ _ us hl => match us, hl with | [_], _ => rfl
  have g_has_too_many_maps := PySem.W.mg_of X G a_has_too_many_maps
  have D_has_too_many_maps : Df K mg "_has_too_many_maps" sHasTooManyMaps ["chain"] f_has_too_many_maps _ := ⟨F_has_too_many_maps, b_has_too_many_maps, g_has_too_many_maps⟩
  have F_far_mean := fun_mk (st := sFarMean) l_far_mean c_far_mean k_far_mean
  have b_far_mean := F_far_mean.binds (ps := ["chain"]) fun _ _ _ _ _ _ us hl => match us, hl with | [_], _ => rfl
  have g_far_mean := PySem.W.mg_of X G a_far_mean
  have D_far_mean : Df K mg "far_mean" sFarMean ["chain"] f_far_mean _ := ⟨F_far_mean, b_far_mean, g_far_mean⟩
  have F_first_met := fun_mk (st := sFirstMet) l_first_met c_first_met k_first_met
  have b_first_met := F_first_met.binds (ps := ["chain"]) fun _ _ _ _ _ _ us hl => match us, hl with | [_], _ => rfl
  have g_first_met := PySem.W.mg_of X G a_first_met
  have D_first_met : Df K mg "first_met" sFirstMet ["chain"] f_first_met _ := ⟨F_first_met, b_first_met, g_first_met⟩
  have F_stays := fun_mk (st := sStays) l_stays c_stays k_stays
  have b_stays := F_stays.binds (ps := ["chain"]) fun _ _ _ _ _ _ us hl => match us, hl with | [_], _ => rfl
  have g_stays := PySem.W.mg_of X G a_stays
  have D_stays : Df K mg "_stays" sStays ["chain"] f_stays _ := ⟨F_stays, b_stays, g_stays⟩
  have F_flow := fun_mk (st := sFlow) l_flow c_flow k_flow
  have b_flow := F_flow.binds (ps := ["chain", "groups"]) fun _ _ _ _ _ _ us hl => match us, hl with | [_, _], _ => rfl
  have g_flow := PySem.W.mg_of X G a_flow
  have D_flow : Df K mg "_flow" sFlow ["chain", "groups"] f_flow _ := ⟨F_flow, b_flow, g_flow⟩
  have F_law_cell := fun_mk (st := sCell) l_law_cell c_law_cell k_law_cell
  have b_law_cell := F_law_cell.binds (ps := ["_law_script", "_law_k"]) fun _ _ _ _ _ _ us hl => match us, hl with | [_, _], _ => rfl
  have g_law_cell := PySem.W.mg_of X G a_law_cell
  have D_law_cell : Df K mg "_law_cell" sCell ["_law_script", "_law_k"] f_law_cell _ := ⟨F_law_cell, b_law_cell, g_law_cell⟩
  have F_law_dice := fun_mk (st := sDice) l_law_dice c_law_dice k_law_dice
  have b_law_dice := F_law_dice.binds (ps := ["_law_script", "_law_k"]) fun _ _ _ _ _ _ us hl => match us, hl with | [_, _], _ => rfl
  have g_law_dice := PySem.W.mg_of X G a_law_dice
  have D_law_dice : Df K mg "_law_dice" sDice ["_law_script", "_law_k"] f_law_dice _ := ⟨F_law_dice, b_law_dice, g_law_dice⟩
  have F_law_off := fun_mk (st := sOff) l_law_off c_law_off k_law_off
  have b_law_off := F_law_off.binds (ps := ["_law_d", "_law_most"]) fun _ _ _ _ _ _ us hl => match us, hl with | [_, _], _ => rfl
  have g_law_off := PySem.W.mg_of X G a_law_off
  have D_law_off : Df K mg "_law_off" sOff ["_law_d", "_law_most"] f_law_off _ := ⟨F_law_off, b_law_off, g_law_off⟩
  have F_law_chain := fun_mk (st := sChain) l_law_chain c_law_chain k_law_chain
  have b_law_chain := F_law_chain.binds (ps := ["_law_d", "_law_most"]) fun _ _ _ _ _ _ us hl => match us, hl with | [_, _], _ => rfl
  have g_law_chain := PySem.W.mg_of X G a_law_chain
  have D_law_chain : Df K mg "_law_chain" sChain ["_law_d", "_law_most"] f_law_chain _ := ⟨F_law_chain, b_law_chain, g_law_chain⟩
  have F_law_made := fun_mk (st := sMade) l_law_made c_law_made k_law_made
  have b_law_made := F_law_made.binds (ps := ["_law_told"]) fun _ _ _ _ _ _ us hl => match us, hl with | [_], _ => rfl
  have g_law_made := PySem.W.mg_of X G a_law_made
  have D_law_made : Df K mg "_law_made" sMade ["_law_told"] f_law_made _ := ⟨F_law_made, b_law_made, g_law_made⟩
  have F_law_apart := fun_mk (st := sLawApart) l_law_apart c_law_apart k_law_apart
  have b_law_apart := F_law_apart.binds (ps := ["_law_told"]) fun _ _ _ _ _ _ us hl => match us, hl with | [_], _ => rfl
  have g_law_apart := PySem.W.mg_of X G a_law_apart
  have D_law_apart : Df K mg "_law_apart" sLawApart ["_law_told"] f_law_apart _ := ⟨F_law_apart, b_law_apart, g_law_apart⟩
  have F_law_other := fun_mk (st := sLawOther) l_law_other c_law_other k_law_other
  have b_law_other := F_law_other.binds (ps := ["_law_d", "_law_told"]) fun _ _ _ _ _ _ us hl => match us, hl with | [_, _], _ => rfl
  have g_law_other := PySem.W.mg_of X G a_law_other
  have D_law_other : Df K mg "_law_other" sLawOther ["_law_d", "_law_told"] f_law_other _ := ⟨F_law_other, b_law_other, g_law_other⟩
  have F_law_turned := fun_mk (st := sLawTurned) l_law_turned c_law_turned k_law_turned
  have b_law_turned := F_law_turned.binds (ps := ["_law_found", "_law_names"]) fun _ _ _ _ _ _ us hl => match us, hl with | [_, _], _ => rfl
  have g_law_turned := PySem.W.mg_of X G a_law_turned
  have D_law_turned : Df K mg "_law_turned" sLawTurned ["_law_found", "_law_names"] f_law_turned _ := ⟨F_law_turned, b_law_turned, g_law_turned⟩
  have F_law_long := fun_mk (st := sLawLong) l_law_long c_law_long k_law_long
  have b_law_long := F_law_long.binds (ps := ["_law_chain_here"]) fun _ _ _ _ _ _ us hl => match us, hl with | [_], _ => rfl
  have g_law_long := PySem.W.mg_of X G a_law_long
  have D_law_long : Df K mg "_law_long" sLawLong ["_law_chain_here"] f_law_long _ := ⟨F_law_long, b_law_long, g_law_long⟩
  have F_law := fun_mk (st := sLaw) l_law c_law k_law
  have g_law := PySem.W.mg_of X G a_law
  have F_minit := fun_mk (st := inClass cChain 0) l_minit c_minit k_minit
  have b_minit := F_minit.binds (ps := ["self", "many", "moves"]) fun _ _ _ _ _ _ us hl => match us, hl with | [_, _, _], _ => rfl
  have F_mplaces := fun_mk (st := inClass cChain 1) l_mplaces c_mplaces k_mplaces
  have b_mplaces := F_mplaces.binds (ps := ["self"]) fun _ _ _ _ _ _ us hl => match us, hl with | [_], _ => rfl
  have F_mtold := fun_mk (st := inClass cChain 2) l_mtold c_mtold k_mtold
  have b_mtold := F_mtold.binds (ps := ["self"]) fun _ _ _ _ _ _ us hl => match us, hl with | [_], _ => rfl
  have gC := PySem.W.mg_of X G aC
  have GMOST_PLACES := PySem.W.mg_of X G gMOST_PLACES
  have GMOST_MOVES := PySem.W.mg_of X G gMOST_MOVES
  have GMOST_WEIGHT := PySem.W.mg_of X G gMOST_WEIGHT
  have GMOST_FAR := PySem.W.mg_of X G gMOST_FAR
  have GMOST_MAPS := PySem.W.mg_of X G gMOST_MAPS
  have Zlen := PySem.W.mg_none_of X G zlen
  have Zabs := PySem.W.mg_none_of X G zabs
  have Zmax := PySem.W.mg_none_of X G zmax
  have Zmin := PySem.W.mg_none_of X G zmin
  have Zint := PySem.W.mg_none_of X G zint
  have Zrange := PySem.W.mg_none_of X G zrange
  have Zsorted := PySem.W.mg_none_of X G zsorted
  have Ztuple := PySem.W.mg_none_of X G ztuple
  have Zisinstance := PySem.W.mg_none_of X G zisinstance
  have Zall := PySem.W.mg_none_of X G zall
  have Zenumerate := PySem.W.mg_none_of X G zenumerate
  have Zlist := PySem.W.mg_none_of X G zlist
  have Zset := PySem.W.mg_none_of X G zset
  have Zsum := PySem.W.mg_none_of X G zsum
  have ZValueError := PySem.W.mg_none_of X G zValueError
  have Zzip := PySem.W.mg_none_of X G zzip
  have Zdict := PySem.W.mg_none_of X G zdict
  have tabE_is_move : h.get? tM_is_move = some { cls := .none, data := .fields #[] } := by
    obtain ⟨a', o', fd', c', P', oc, vc, g1, g2, g3, g4, e1, e3, e4, e5⟩ := TO_is_move
    rw [g_is_move] at g1
    cases g1
    have q1 := X _ _ l_is_move
    rw [q1] at g2
    cases g2
    cases g3
    cases g4
    have q2 := X _ _ lM_is_move
    rw [q2] at e1
    cases e1
    cases e3
    rw [vM_is_move] at e4
    cases e4
    exact e5
  have tabE_is_closed : h.get? tM_is_closed = some { cls := .none, data := .fields #[] } := by
    obtain ⟨a', o', fd', c', P', oc, vc, g1, g2, g3, g4, e1, e3, e4, e5⟩ := TO_is_closed
    rw [g_is_closed] at g1
    cases g1
    have q1 := X _ _ l_is_closed
    rw [q1] at g2
    cases g2
    cases g3
    cases g4
    have q2 := X _ _ lM_is_closed
    rw [q2] at e1
    cases e1
    cases e3
    rw [vM_is_closed] at e4
    cases e4
    exact e5
  have LT : LawTxt K mg f_law_cell f_law_dice f_law_off _ _ _ := ⟨F_law_cell, b_law_cell, g_law_cell, F_law_dice, b_law_dice, g_law_dice, F_law_off, b_law_off, g_law_off, Zlen, Zabs, Zmax, Zmin, Zint, Zrange, Zsorted, Ztuple⟩
  have CL' : Cls K C := ⟨pg, hd, po, sa⟩
  have CH : ChTxt K mg f_is_move cM_is_move tM_is_move _ C f_minit _ := ⟨FM_is_move, b_is_move, g_is_move, F_minit, b_minit, ⟨mk, a_minit, i_minit, kc⟩, CL', nM, nV, gC, ⟨_, GMOST_PLACES⟩, ⟨_, GMOST_MOVES⟩, ⟨_, GMOST_WEIGHT⟩, Zlen, Zisinstance, Ztuple, Zrange, Zall, Zenumerate, Zlist⟩
  have CM : ChM K C f_mplaces f_mtold _ _ := ⟨F_mplaces, b_mplaces, ⟨a_mplaces, i_mplaces, k_mplaces⟩, F_mtold, b_mtold, ⟨a_mtold, i_mtold, k_mtold⟩, CL', nM, nV⟩
  have N_TooMany : OwnE K mg "TooMany" ATooMany := ⟨PySem.W.mg_of X G eTooMany, xkTooMany, xxTooMany, xbTooMany, xtTooMany⟩
  refine ⟨PySem.W.fnOf "law" "law" (defArgs sLaw) (defBody sLaw) (defScope sLaw) .none kV_law dc_law pm_law an_law cd_law ct_law, [(cM_is_move, tM_is_move), (cM_is_closed, tM_is_closed)], spLaw2 K tM_is_move tM_is_closed, fun p hp => ?_, fun p hp => ?_, fun p hp => ?_, fun s v => .of_eq rfl, fun H a ns hl hbits hT hS => ?_, fun base hK hG hTB => ?_⟩
  · rcases List.mem_cons.mp hp with e | hp
    · rw [e]
      exact tabE_is_move
    rcases List.mem_cons.mp hp with e | hp
    · rw [e]
      exact tabE_is_closed
    · cases hp
  · rcases List.mem_cons.mp hp with e | hp
    · rw [e]
      exact nT_is_move
    rcases List.mem_cons.mp hp with e | hp
    · rw [e]
      exact nT_is_closed
    · cases hp
  · rcases List.mem_cons.mp hp with e | hp
    · rw [e]
      exact PySem.W.codeHd_of_K X hM_is_move
    rcases List.mem_cons.mp hp with e | hp
    · rw [e]
      exact PySem.W.codeHd_of_K X hM_is_closed
    · cases hp
  · exact ⟨a, ns, rfl, hS, hl, ⟨#[], hT (cM_is_move, tM_is_move) (by simp), by simp [TriplesOk]⟩, ⟨#[], hT (cM_is_closed, tM_is_closed) (by simp), by simp [TriplesOk]⟩, fun _ => rfl⟩
  · have TBx_is_move := hTB (cM_is_move, tM_is_move) (by simp)
    have TB_is_move : GxR.TabB base mg cM_is_move tM_is_move := ⟨TBx_is_move.code, TBx_is_move.bm, TBx_is_move.gP⟩
    have TBx_is_closed := hTB (cM_is_closed, tM_is_closed) (by simp)
    have TB_is_closed : GxR.TabB base mg cM_is_closed tM_is_closed := ⟨TBx_is_closed.code, TBx_is_closed.bm, TBx_is_closed.gP⟩
    have TB := TB_is_move
    have TI := TB_is_closed
    have GCl : FnOk l.prog w K mg base CX0 4 f_closed _ ["chain"] (spCl C tM_is_closed) := ok_closed F_closed D_reached D_is_closed FM_is_closed TI D_groups_from D_led_to CM Zrange Zlen Zenumerate Ztuple Zsorted Zall Zlist
    have GSv : FnOk l.prog w K mg base CX0 2 f_solved _ ["equations"] spSv := ok_solved F_solved D_bring_up D_without D_fraction (PySem.W.mg_of X G ggcd) Zlist Zlen Zrange Zenumerate Zzip
    have GBa : FnOk l.prog w K mg base CX0 3 f_balance _ ["chain"] (spBa C) := ok_balance F_balance D_weights CM Zrange Zenumerate Zlist Zsum
    have GOw : FnOk l.prog w K mg base CX0 5 f_own _ ["chain"] (spOwn C tM_is_closed) := ok_own F_own D_closed D_solved D_balance GCl GSv GBa Zlen
    have GEv : FnOk l.prog w K mg base CX0 2 f_everywhere _ ["chain"] (spEv C) := ok_ev F_everywhere CM Ztuple Zrange
    have GM : FnOk l.prog w K mg base CX0 4 f_law_made _ ["_law_told"] (spMade C tM_is_move) := ok_made F_law_made CH TB
    have GG : FnOk l.prog w K mg base CX0 2 f_groups_from _ ["moves", "begin"] spGf := ok_gf F_groups_from D_led_to Zlen Zenumerate Ztuple Zsorted
    have GRt : FnOk l.prog w K mg base CX0 3 f_row_to_one _ ["moves", "group"] spRt := ok_rt F_row_to_one D_groups_from GG Zlen
    have GFa : FnOk l.prog w K mg base CX0 4 f_first_apart _ ["chain"] (spFa C) := ok_fa F_first_apart D_row_to_one GRt CM Zlist Zrange (PySem.W.mg_of X G gcomb)
    have GWm : FnOk l.prog w K mg base CX0 5 f_want_meeting _ ["chain"] (spWm C) := ok_wm F_want_meeting D_first_apart GFa
    have GFl : FnOk l.prog w K mg base CX0 2 f_flow _ ["chain", "groups"] (spFl C) := ok_flow F_flow D_led_to CM Zlen Zsum Zenumerate Ztuple Zsorted Zlist
    have GSs : FnOk l.prog w K mg base CX0 6 f_stays _ ["chain"] (spSs C) := ok_stays F_stays D_want_meeting GWm D_groups_from GG D_everywhere GEv D_solved GSv D_flow GFl CM Zlist Zdict Zzip
    have GFn : FnOk l.prog w K mg base CX0 7 f_far_mean _ ["chain"] (spFn C) := ok_far F_far_mean D_stays GSs D_added D_fraction (PySem.W.mg_of X G ggcd) Zlen
    have GFm : FnOk l.prog w K mg base CX0 7 f_first_met _ ["chain"] (spFm C) := ok_firstmet F_first_met D_stays GSs CM Zrange
    have GTm : FnOk l.prog w K mg base CX0 3 f_has_too_many_maps _ ["chain"] (spTm C) := ok_tm F_has_too_many_maps D_everywhere GEv CM GMOST_MAPS Zlen Zset Ztuple Zlist
    have GLs : FnOk l.prog w K mg base CX0 6 f_long_shares _ ["chain"] (spLs C tM_is_closed) := ok_ls F_long_shares D_want_meeting GWm D_has_too_many_maps GTm D_own GOw
    have GLM : FnOk l.prog w K mg base (L2.CX l.prog w) 6 f_long_shares _ ["chain"] (spLsM C ATooMany) := ok_lsM F_long_shares D_want_meeting GWm D_has_too_many_maps GTm N_TooMany GMOST_MAPS
    have GLo : FnOk l.prog w K mg base CX0 7 f_law_long _ ["_law_chain_here"] (spLo C tM_is_closed) := ok_lo F_law_long (PySem.W.mg_of X G eTooMany) wmm D_long_shares GLs GLM
    have GSh : FnOk l.prog w K mg base CX0 3 f_shares _ ["chain", "far"] (spSh C) := ok_shares F_shares CM D_everywhere GEv D_behind_a_step D_led_to D_fraction (PySem.W.mg_of X G ggcd) GMOST_FAR Ztuple Zsorted Zrange Zsum Zlist
    exact ok_law F_law LT D_law_chain D_law_other D_law_made D_closed D_own D_law_turned D_shares D_law_apart D_far_mean D_first_met D_law_long GM GCl GOw GSh GFn GFm GLo Zlist
end Lg
open PySem PySem.W PyProof.Rows
set_option maxRecDepth 100000 in
set_option maxHeartbeats 0 in
theorem PySem.Challenge.cw_longago_k18_whole_places_named_otherwise_holds : PySem.Challenge.rw_longago_k18_whole_places_named_otherwise.Holds := by
  w_on; o_law; k_head; (case hw => w_witness2)
  k_fill
  refine Lg.walk_tab2 (l := PySem.Challenge.rw_longago_k18_whole_places_named_otherwise) (n := 63) (k := 8) (x := "_law_script") (CX := fun _ => L2.CX0) "_is_move" "_is_closed" rfl (by decide) rfl ⟨rfl, by decide, by decide⟩ (by decide +kernel) (by decide +kernel) (fun w h Y => PySem.W.kIn_of Y) ?F (fun _ _ _ _ _ z => z)
  case F =>
    intro w mg fa h KX G hmg TO0 TO1
    refine' Lg.all_mk KX G hmg TO0 TO1 ?a_fraction ?l_fraction ?c_fraction ?k_fraction ?a_added ?l_added ?c_added ?k_added ?a_solved ?l_solved ?c_solved ?k_solved ?a_bring_up ?l_bring_up ?c_bring_up ?k_bring_up ?a_without ?l_without ?c_without ?k_without ?a_everywhere ?l_everywhere ?c_everywhere ?k_everywhere ?a_groups_from ?l_groups_from ?c_groups_from ?k_groups_from ?a_led_to ?l_led_to ?c_led_to ?k_led_to ?a_is_move ?l_is_move ?c_is_move ?k_is_move ?a_weights ?l_weights ?c_weights ?k_weights ?a_closed ?l_closed ?c_closed ?k_closed ?a_reached ?l_reached ?c_reached ?k_reached ?a_is_closed ?l_is_closed ?c_is_closed ?k_is_closed ?a_own ?l_own ?c_own ?k_own ?a_balance ?l_balance ?c_balance ?k_balance ?a_want_meeting ?l_want_meeting ?c_want_meeting ?k_want_meeting ?a_first_apart ?l_first_apart ?c_first_apart ?k_first_apart ?a_row_to_one ?l_row_to_one ?c_row_to_one ?k_row_to_one ?a_shares ?l_shares ?c_shares ?k_shares ?a_behind_a_step ?l_behind_a_step ?c_behind_a_step ?k_behind_a_step ?a_long_shares ?l_long_shares ?c_long_shares ?k_long_shares ?a_has_too_many_maps ?l_has_too_many_maps ?c_has_too_many_maps ?k_has_too_many_maps ?a_far_mean ?l_far_mean ?c_far_mean ?k_far_mean ?a_first_met ?l_first_met ?c_first_met ?k_first_met ?a_stays ?l_stays ?c_stays ?k_stays ?a_flow ?l_flow ?c_flow ?k_flow ?a_law_cell ?l_law_cell ?c_law_cell ?k_law_cell ?a_law_dice ?l_law_dice ?c_law_dice ?k_law_dice ?a_law_off ?l_law_off ?c_law_off ?k_law_off ?a_law_chain ?l_law_chain ?c_law_chain ?k_law_chain ?a_law_made ?l_law_made ?c_law_made ?k_law_made ?a_law_apart ?l_law_apart ?c_law_apart ?k_law_apart ?a_law_other ?l_law_other ?c_law_other ?k_law_other ?a_law_turned ?l_law_turned ?c_law_turned ?k_law_turned ?a_law_long ?l_law_long ?c_law_long ?k_law_long ?a_law ?l_law ?c_law ?k_law ?aC ?a_minit ?i_minit ?l_minit ?c_minit ?k_minit ?a_mplaces ?i_mplaces ?l_mplaces ?c_mplaces ?k_mplaces ?a_mtold ?i_mtold ?l_mtold ?c_mtold ?k_mtold ?pg ?hd ?po ?sa ?mk ?kc ?nM ?nV ?gMOST_PLACES ?gMOST_MOVES ?gMOST_WEIGHT ?gMOST_FAR ?gMOST_MAPS ?zlen ?zabs ?zmax ?zmin ?zint ?zrange ?zsorted ?ztuple ?zisinstance ?zall ?zenumerate ?zlist ?zset ?zsum ?zValueError ?zzip ?zdict ?eLongError ?eBadChain ?eNoSuch ?eNotOne ?eNeverOne ?eTooMany ?xkTooMany ?xxTooMany ?xbTooMany ?xtTooMany ?gcomb ?ggcd ?wmm ?lM_is_move ?vM_is_move ?hM_is_move ?nT_is_move ?lM_is_closed ?vM_is_closed ?hM_is_closed ?nT_is_closed
    (case a_fraction => k_is)
    (case l_fraction => k_is)
    (case c_fraction => k_is)
    (case k_fraction => k_is)
    (case a_added => k_is)
    (case l_added => k_is)
    (case c_added => k_is)
    (case k_added => k_is)
    (case a_solved => k_is)
    (case l_solved => k_is)
    (case c_solved => k_is)
    (case k_solved => k_is)
    (case a_bring_up => k_is)
    (case l_bring_up => k_is)
    (case c_bring_up => k_is)
    (case k_bring_up => k_is)
    (case a_without => k_is)
    (case l_without => k_is)
    (case c_without => k_is)
    (case k_without => k_is)
    (case a_everywhere => k_is)
    (case l_everywhere => k_is)
    (case c_everywhere => k_is)
    (case k_everywhere => k_is)
    (case a_groups_from => k_is)
    (case l_groups_from => k_is)
    (case c_groups_from => k_is)
    (case k_groups_from => k_is)
    (case a_led_to => k_is)
    (case l_led_to => k_is)
    (case c_led_to => k_is)
    (case k_led_to => k_is)
    (case a_is_move => k_is)
    (case l_is_move => k_is)
    (case c_is_move => k_is)
    (case k_is_move => k_is)
    (case a_weights => k_is)
    (case l_weights => k_is)
    (case c_weights => k_is)
    (case k_weights => k_is)
    (case a_closed => k_is)
    (case l_closed => k_is)
    (case c_closed => k_is)
    (case k_closed => k_is)
    (case a_reached => k_is)
    (case l_reached => k_is)
    (case c_reached => k_is)
    (case k_reached => k_is)
    (case a_is_closed => k_is)
    (case l_is_closed => k_is)
    (case c_is_closed => k_is)
    (case k_is_closed => k_is)
    (case a_own => k_is)
    (case l_own => k_is)
    (case c_own => k_is)
    (case k_own => k_is)
    (case a_balance => k_is)
    (case l_balance => k_is)
    (case c_balance => k_is)
    (case k_balance => k_is)
    (case a_want_meeting => k_is)
    (case l_want_meeting => k_is)
    (case c_want_meeting => k_is)
    (case k_want_meeting => k_is)
    (case a_first_apart => k_is)
    (case l_first_apart => k_is)
    (case c_first_apart => k_is)
    (case k_first_apart => k_is)
    (case a_row_to_one => k_is)
    (case l_row_to_one => k_is)
    (case c_row_to_one => k_is)
    (case k_row_to_one => k_is)
    (case a_shares => k_is)
    (case l_shares => k_is)
    (case c_shares => k_is)
    (case k_shares => k_is)
    (case a_behind_a_step => k_is)
    (case l_behind_a_step => k_is)
    (case c_behind_a_step => k_is)
    (case k_behind_a_step => k_is)
    (case a_long_shares => k_is)
    (case l_long_shares => k_is)
    (case c_long_shares => k_is)
    (case k_long_shares => k_is)
    (case a_has_too_many_maps => k_is)
    (case l_has_too_many_maps => k_is)
    (case c_has_too_many_maps => k_is)
    (case k_has_too_many_maps => k_is)
    (case a_far_mean => k_is)
    (case l_far_mean => k_is)
    (case c_far_mean => k_is)
    (case k_far_mean => k_is)
    (case a_first_met => k_is)
    (case l_first_met => k_is)
    (case c_first_met => k_is)
    (case k_first_met => k_is)
    (case a_stays => k_is)
    (case l_stays => k_is)
    (case c_stays => k_is)
    (case k_stays => k_is)
    (case a_flow => k_is)
    (case l_flow => k_is)
    (case c_flow => k_is)
    (case k_flow => k_is)
    (case a_law_cell => k_is)
    (case l_law_cell => k_is)
    (case c_law_cell => k_is)
    (case k_law_cell => k_is)
    (case a_law_dice => k_is)
    (case l_law_dice => k_is)
    (case c_law_dice => k_is)
    (case k_law_dice => k_is)
    (case a_law_off => k_is)
    (case l_law_off => k_is)
    (case c_law_off => k_is)
    (case k_law_off => k_is)
    (case a_law_chain => k_is)
    (case l_law_chain => k_is)
    (case c_law_chain => k_is)
    (case k_law_chain => k_is)
    (case a_law_made => k_is)
    (case l_law_made => k_is)
    (case c_law_made => k_is)
    (case k_law_made => k_is)
    (case a_law_apart => k_is)
    (case l_law_apart => k_is)
    (case c_law_apart => k_is)
    (case k_law_apart => k_is)
    (case a_law_other => k_is)
    (case l_law_other => k_is)
    (case c_law_other => k_is)
    (case k_law_other => k_is)
    (case a_law_turned => k_is)
    (case l_law_turned => k_is)
    (case c_law_turned => k_is)
    (case k_law_turned => k_is)
    (case a_law_long => k_is)
    (case l_law_long => k_is)
    (case c_law_long => k_is)
    (case k_law_long => k_is)
    (case a_law => k_is)
    (case l_law => k_is)
    (case c_law => k_is)
    (case k_law => k_is)
    (case aC => k_is)
    (case a_minit => k_is)
    (case i_minit => k_is)
    (case l_minit => k_is)
    (case c_minit => k_is)
    (case k_minit => k_is)
    (case a_mplaces => k_is)
    (case i_mplaces => k_is)
    (case l_mplaces => k_is)
    (case c_mplaces => k_is)
    (case k_mplaces => k_is)
    (case a_mtold => k_is)
    (case i_mtold => k_is)
    (case l_mtold => k_is)
    (case c_mtold => k_is)
    (case k_mtold => k_is)
    (case pg => k_is)
    (case hd => k_is)
    (case po => k_is)
    (case sa => k_is)
    (case mk => k_is)
    (case kc => k_is)
    (case nM => k_is)
    (case nV => k_is)
    (case gMOST_PLACES => k_is)
    (case gMOST_MOVES => k_is)
    (case gMOST_WEIGHT => k_is)
    (case gMOST_FAR => k_is)
    (case gMOST_MAPS => k_is)
    (case zlen => k_is)
    (case zabs => k_is)
    (case zmax => k_is)
    (case zmin => k_is)
    (case zint => k_is)
    (case zrange => k_is)
    (case zsorted => k_is)
    (case ztuple => k_is)
    (case zisinstance => k_is)
    (case zall => k_is)
    (case zenumerate => k_is)
    (case zlist => k_is)
    (case zset => k_is)
    (case zsum => k_is)
    (case zValueError => k_is)
    (case zzip => k_is)
    (case zdict => k_is)
    (case eLongError => first | k_is | rfl | decide +kernel)
    (case eBadChain => first | k_is | rfl | decide +kernel)
    (case eNoSuch => first | k_is | rfl | decide +kernel)
    (case eNotOne => first | k_is | rfl | decide +kernel)
    (case eNeverOne => first | k_is | rfl | decide +kernel)
    (case eTooMany => first | k_is | rfl | decide +kernel)
    (case xkTooMany => first | k_is | rfl | decide +kernel)
    (case xxTooMany => k_exc)
    (case xbTooMany => first | k_is | rfl | decide +kernel)
    (case xtTooMany => first | k_is | rfl | decide +kernel)
    (case gcomb => k_is)
    (case ggcd => k_is)
    (case wmm => first | k_is | rfl | decide +kernel)
    (case lM_is_move => k_is)
    (case vM_is_move => first | rfl | k_is)
    (case hM_is_move => first | k_is | rfl | decide +kernel)
    (case nT_is_move => first | k_is | rfl | decide +kernel)
    (case lM_is_closed => k_is)
    (case vM_is_closed => first | rfl | k_is)
    (case hM_is_closed => first | k_is | rfl | decide +kernel)
    (case nT_is_closed => first | k_is | rfl | decide +kernel)

