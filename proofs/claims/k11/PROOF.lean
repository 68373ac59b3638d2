import PyProof.Rows.All
import Wide.All
import OpenK.AllK
import Wide.FinOn
import PyProof.EqAt
import PyProof.EqKinds
import PyProof.TupleCall
import HandS.ForMost
import HandS.RepeatKit
import HandS.Conv
import KE.KSuperObj
import HandS.Iter
import KE.KDictWalk
import HandS.TupSets
import KE.KDictSum
import HandS.SortInts
import HandS.ExcIs
import HandS.IsInst
import HandS.WordsExc
import HandS.ExcOwn
import HandS.RaiseMore
import HandS.FStr
import HandS.Codes
import HandS.AnyAll
import HandS.Sort
import HandS.Zip
import HandS.Walk
import KE.KEqSeq
import HandS.SetFor
import HandS.Strs
import HandS.TupMul
import HandS.TupAny
import HandS.SetBool
import KE.KDictDisplayH
import HandS.Deep
import KE.KEqDeep
import HandS.EndTab
import PySem.Challenge.RW_longago_k11_whole_together_or_apart
set_option Elab.async false
set_option linter.all false
set_option maxRecDepth 100000
set_option maxHeartbeats 4000000
namespace Lg
open PySem PySem.Spec PyProof.Rows L2
def topS (i : Nat) : Stmt := PySem.Challenge.pw_longago_k11_whole_together_or_apart.main.body.getD i (.Pass ⟨0, 0, 0, 0⟩)
abbrev cLongError : Stmt := topS 2
abbrev cBadChain : Stmt := topS 3
abbrev sEverywhere : Stmt := topS 5
abbrev sGroupsFrom : Stmt := topS 6
abbrev sLedTo : Stmt := topS 7
abbrev sMeeting : Stmt := topS 9
abbrev sFirstApart : Stmt := topS 10
abbrev sRowToOne : Stmt := topS 11
abbrev cChain : Stmt := topS 16
abbrev sIsMove : Stmt := topS 17
abbrev sCell : Stmt := topS 19
abbrev sDice : Stmt := topS 20
abbrev sOff : Stmt := topS 21
abbrev sChain : Stmt := topS 22
abbrev sMade : Stmt := topS 23
abbrev sNumbers : Stmt := topS 24
abbrev sLawApart : Stmt := topS 25
abbrev sLawShortest : Stmt := topS 26
abbrev sLawBehind : Stmt := topS 27
abbrev sLawPermuted : Stmt := topS 28
abbrev sLaw : Stmt := topS 29
/-! ### itertools.combinations(range, 2), walked -/
section
open PySem PySem.Spec PySem.Builtin PySem.Builtin.Itertools
namespace Cm
theorem mro_cm : mroOf (.type "itertools.combinations") = pure [.type "itertools.combinations", .type "object"] := by rw [mroOf_type]; kernel_rfl
theorem lookup_cm_new : typeLookup (.type "itertools.combinations") "__new__" = pure (some (.builtin "itertools.combinations.__new__")) := by rw [typeLookup_type, builtinLookup_eq_fast]; kernel_rfl
theorem slot_cm_init : Slot "itertools.combinations" "__init__" "object.__init__" :=
  .of (owner := "object") (n := "__init__") (by rw [typeLookup_type, builtinLookup_eq_fast]; kernel_rfl) (by decide +kernel) (by decide +kernel) (by decide +kernel)
    (by first | exact .inl (by decide +kernel) | exact .inr (by decide +kernel)) (by rw [isSubtype_type]; kernel_rfl)
theorem sub_cm : isSubtype (.type "itertools.combinations") (.type "itertools.combinations") = pure true := by rw [isSubtype_type]; kernel_rfl
theorem called_cm : TypeCalled "itertools.combinations" "itertools.combinations.__new__" "object.__init__" :=
  ⟨by decide +kernel, by decide +kernel, ⟨_, _, mro_cm⟩, madeBy_type mro_cm lookup_cm_new (by decide +kernel), by decide +kernel, sub_cm, slot_cm_init⟩
theorem typeCall_cm (a b : Value) : checkTypeCall "itertools.combinations" ⟨[a, b], []⟩ = pure () := by kernel_rfl
theorem newCall_cm (a b : Value) : checkBuiltinCall "itertools.combinations.__new__" ⟨[.type "itertools.combinations", a, b], []⟩ = pure () := by kernel_rfl
theorem entry_cm_new : entryFor table "itertools.combinations.__new__" = some Builtin.«itertools.combinations.__new__» := entryFor_of_tree (by kernel_rfl)
theorem plain_cm_new : plainId "itertools.combinations.__new__" = true := by decide +kernel
theorem slot_cm_iter : Slot "itertools.combinations" "__iter__" "itertools.combinations.__iter__" :=
  .of (owner := "itertools.combinations") (n := "__iter__") (by rw [typeLookup_type, builtinLookup_eq_fast]; kernel_rfl) (by decide +kernel) (by decide +kernel) (by decide +kernel)
    (by first | exact .inl (by decide +kernel) | exact .inr (by decide +kernel)) sub_cm
theorem slot_cm_next : Slot "itertools.combinations" "__next__" "itertools.combinations.__next__" :=
  .of (owner := "itertools.combinations") (n := "__next__") (by rw [typeLookup_type, builtinLookup_eq_fast]; kernel_rfl) (by decide +kernel) (by decide +kernel) (by decide +kernel)
    (by first | exact .inl (by decide +kernel) | exact .inr (by decide +kernel)) sub_cm
theorem entry_cm_iter : entryFor table "itertools.combinations.__iter__" = some Builtin.«dict_keyiterator.__iter__» :=
  entryFor_alias (id' := "dict_keyiterator.__iter__") (by kernel_rfl) (by first | rfl | decide +kernel | (unfold String.splitOn; simp +decide [String.splitOnAux])) (by decide +kernel) (by kernel_rfl)
theorem entry_cm_next : entryFor table "itertools.combinations.__next__" = some Builtin.«itertools.combinations.__next__» := entryFor_of_tree (by kernel_rfl)
theorem noDict_cm : typeHasDict (.type "itertools.combinations") = false := by decide +kernel
theorem noClose_cm : typeLookup (.type "itertools.combinations") "close" = pure none := by rw [typeLookup_type, builtinLookup_eq_fast]; kernel_rfl
theorem owner_cm : Manifest.owners.lookup (String.ofList ['s', 'n', 'o', 'i', 't', 'a', 'n', 'i', 'b', 'm', 'o', 'c', '.', 's', 'l', 'o', 'o', 't', 'r', 'e', 't', 'i'].reverse) = some Manifest.sig_itertools_combinations := by kernel_rfl
theorem args_cm_iter (a : Value) : argsOk "itertools.combinations.__iter__" ⟨[a], []⟩ := by
  unfold argsOk; rw [signature?_of (id := "itertools.combinations.__iter__") (n := ['_', '_', 'r', 'e', 't', 'i', '_', '_']) (o := ['s', 'n', 'o', 'i', 't', 'a', 'n', 'i', 'b', 'm', 'o', 'c', '.', 's', 'l', 'o', 'o', 't', 'r', 'e', 't', 'i']) (by kernel_rfl) owner_cm]; kernel_rfl
theorem args_cm_next (a : Value) : argsOk "itertools.combinations.__next__" ⟨[a], []⟩ := by
  unfold argsOk; rw [signature?_of (id := "itertools.combinations.__next__") (n := ['_', '_', 't', 'x', 'e', 'n', '_', '_']) (o := ['s', 'n', 'o', 'i', 't', 'a', 'n', 'i', 'b', 'm', 'o', 'c', '.', 's', 'l', 'o', 'o', 't', 'r', 'e', 't', 'i']) (by kernel_rfl) owner_cm]; kernel_rfl
abbrev poolO (acc : Array Value) : Obj := { cls := .type "tuple", dict := none, data := .seq acc, slots := #[] }
abbrev cmO (pt : Addr) (st : Int) (old : Value) (ns : List Nat) : Obj := { cls := .type "itertools.combinations", dict := none, data := .fields ([.ref pt, rawInt st, old] ++ ns.map fun (i : Nat) => rawInt i).toArray, slots := #[] }
/-- a combinations object: its pool, how far it is, what it told last, its numbers -/
abbrev IsCm (h : Heap) (it pt : Addr) (st : Int) (old : Value) (ns : List Nat) : Prop := h.get? it = some (cmO pt st old ns)
section
variable {prog : Program} {w : World} {A : Around} {E : Value → Shared → Prop} {s : Shared} {r : Addr} {t u v t2 : Tok} {n : Nat}
theorem code_cm_new {Q₁ : Value → Shared → Prop} (hh : A.handled = none) (hr : IsRange s.heap r 0 (n : Int) 1 t u v) (hsmall : Builtin.Range.small 0 (n : Int) 1 = true) (hn : Builtin.Range.rangeSize 0 (n : Int) 1 = n) (hlen : n ≤ 100)
    (h : ∀ (hm : Heap) (tk : Nat) (acc : Array Value), (∀ b o, s.heap.get? b = some o → hm.get? b = some o) → ItemsOf (fun i v => ∃ t, v = .int (0 + i * 1) t) acc n → Q₁ (.ref (hm.objs.size + 1)) { s with heap := (hm.push (poolO acc)).push (cmO hm.objs.size (if 2 > n then 2 else 0) .none [0, 1]), toks := tk }) :
    codeAny (model prog w) A (.call (.builtin "itertools.combinations.__new__") ⟨[.type "itertools.combinations", .ref r, .int 2 t2], []⟩) (wants Q₁ E) s := by
  refine codeAny_of_tree ?_
  show wpAny _ A.in1 (do checkBuiltinCall "itertools.combinations.__new__" ⟨[.type "itertools.combinations", .ref r, .int 2 t2], []⟩; again (.builtin "itertools.combinations.__new__" ⟨[.type "itertools.combinations", .ref r, .int 2 t2], []⟩)) _ _ s
  refine wpAny_bind (wpAny_of_eq (newCall_cm _ _) (wpAny_pure ⟨plainId_quiet plain_cm_new _, codeAny_builtin entry_cm_new ?_⟩))
  rw [Around.under_plainId plain_cm_new _]
  have hsub : isSubtype (.type "itertools.combinations") (.type ("itertools." ++ "combinations")) = pure true := sub_cm
  have hd := noDict_cm
  have hTI : s.TypeIs (.ref r) "range" := ⟨_, hr, rfl⟩
  have hh1 : A.in1.handled = none := hh
  have hlen2 : n ≤ 2 ^ 24 := Nat.le_trans hlen (by decide)
  wp_walk using wpAny_typeOf hTI, L2.collect_range (A := A.in1) hh1 hr hsmall hn hlen2
  intro h' tk acc hk hacc
  have hl : acc.toList.length = n := by rw [Array.length_toList]; exact hacc.1
  refine wpAny_ite_false (by decide) ?_
  refine wpAny_ite_false (by decide) ?_
  unfold newTuple
  refine wpAny_bind (wpAny_newObj_type ?_ ?_)
  · refine wpAny_pure ?_
    show wpAny _ _ (itNewRecord _ _ >>= _) _ _ _
    unfold itNewRecord
    rw [hd]
    refine wpAny_bind ?_
    refine wpAny_ite_true rfl ?_
    refine wpAny_newObj_type (wpAny_pure ?_) ?_
    · have e1 : (h'.push (poolO acc)).objs.size = h'.objs.size + 1 := by simp [Heap.push]
      have q := h h' tk acc hk hacc
      rw [← e1] at q
      rw [hl]
      exact q
    · show _ ≤ sizeLine + 2
      simp only [List.size_toArray, List.length_append, List.length_map, List.length_range, List.length_cons, List.length_nil]
      rw [sizeLine_eq]
      decide
  · show _ ≤ sizeLine
    rw [List.size_toArray, hl, sizeLine_eq]
    omega
end
/-! the numbers behind -/
def nxtC (n : Nat) (indices : List Nat) : Option (List Nat) :=
  let r := indices.length
  match (List.range r).reverse.find? fun i => indices.getD i 0 != i + n - r with
  | none => none
  | some i => some (indices.take i ++ (List.range (r - i)).map (indices.getD i 0 + 1 + ·))
section
variable {prog : Program} {w : World} {A : Around} {E : Value → Shared → Prop} {s : Shared} {it pt : Addr} {n : Nat} {old : Value} {ns : List Nat} {acc : Array Value}
/-- what is told: a new tuple -/
abbrev toldO (acc : Array Value) (ix : List Nat) : Obj := { cls := .type "tuple", dict := none, data := .seq (ix.map fun i => acc.getD i .none).toArray, slots := #[] }
theorem nums_back (ns : List Nat) (a b c : Value) : ((([a, b, c] ++ ns.map fun (i : Nat) => rawInt i).toArray.toList.drop 3).map fun | .int n _ => n.toNat | _ => 0) = ns := by
  show ((ns.map fun (i : Nat) => rawInt i).map _) = ns
  rw [List.map_map]
  refine (List.map_congr_left fun i _ => ?_).trans (List.map_id ns)
  show (rawInt (i : Int) |> fun | .int n _ => n.toNat | _ => 0) = i
  exact Int.toNat_natCast i
theorem set_num (pt st old : Value) (ns : List Nat) (v : Value) : ([pt, st, old] ++ ns.map fun (i : Nat) => rawInt i).toArray.setIfInBounds 1 v = ([pt, v, old] ++ ns.map fun (i : Nat) => rawInt i).toArray := by
  simp
theorem set_old (pt st old : Value) (ns : List Nat) (v : Value) : ([pt, st, old] ++ ns.map fun (i : Nat) => rawInt i).toArray.setIfInBounds 2 v = ([pt, st, v] ++ ns.map fun (i : Nat) => rawInt i).toArray := by
  simp
theorem set_nums (pt st old : Value) (ns ms : List Nat) : ([pt, st, old] ++ ns.map fun (i : Nat) => rawInt i).toArray.extract 0 3 ++ (ms.map fun (i : Nat) => rawInt i).toArray = ([pt, st, old] ++ ms.map fun (i : Nat) => rawInt i).toArray := by
  simp
/-- what is handed out -/
theorem cm_result {st : Int} {ix : List Nat} {Q : PySem.Fin → Shared → Prop} (hit : IsCm s.heap it pt st old ns) (hp : s.heap.get? pt = some (poolO acc)) (hl : ix.length ≤ 1000)
    (hQ : ∀ h', IsCm h' it pt st (.ref s.heap.objs.size) ns → h'.get? s.heap.objs.size = some (toldO acc ix) → (∀ b o, b ≠ it → s.heap.get? b = some o → h'.get? b = some o) → Q (.done (.ret (.ref s.heap.objs.size))) { s with heap := h' }) :
    wpAny (model prog w) A (do
      let result ← (do
        let items ← itPoolItems (.ref pt)
        newTuple (ix.map fun i => items.getD i .none))
      let before ← field (.ref it) 2
      setField (.ref it) 2 result
      letGo [before] [result]
      ret result) Q E s := by
  unfold newTuple itPoolItems
  refine wpAny_bind (wpAny_bind (wpAny_bind (wpAny_seqItems hp rfl (wpAny_pure ?_))))
  refine wpAny_newObj_type ?_ (by show _ ≤ sizeLine; rw [List.size_toArray, List.length_map, sizeLine_eq]; omega)
  have hit2 : IsCm (s.heap.push (toldO acc ix)) it pt st old ns := Heap.get?_push_of_some _ hit
  refine wpAny_bind (wpAny_field hit2 rfl (x := old) rfl ?_)
  refine wpAny_bind (wpAny_setField hit2 rfl (by simp) ?_)
  have hit3 : IsCm ((s.heap.push (toldO acc ix)).update it (Obj.mapFields (·.setIfInBounds 2 (.ref s.heap.objs.size)))) it pt st (.ref s.heap.objs.size) ns := by
    unfold IsCm
    rw [Heap.get?_update_self _ hit2 rfl]
    show some (Obj.mapFields _ (cmO pt st old ns)) = _
    unfold Obj.mapFields
    show some _ = _
    simp only [set_old]
  have ne : s.heap.objs.size ≠ it := Nat.ne_of_gt (Heap.lt_size hit)
  refine wpAny_bind ?_
  unfold letGo
  refine wpAny_bind (wpAny_holding (wpAny_point ?_))
  unfold letGo
  refine wpAny_pure (wpAny_pure ?_)
  refine hQ _ hit3 ?_ fun b o hb e => ?_
  · rw [Heap.get?_update_ne _ _ _ _ ne]
    exact Heap.get?_push_size _ rfl
  · rw [Heap.get?_update_ne _ _ _ _ hb]
    exact Heap.get?_push_of_some _ e
theorem cm_first {Q : Option Value → Shared → Prop} (hit : IsCm s.heap it pt 0 old ns) (hp : s.heap.get? pt = some (poolO acc)) (hpt : pt ≠ it) (hl : ns.length ≤ 1000)
    (hQ : ∀ h', IsCm h' it pt 1 (.ref s.heap.objs.size) ns → h'.get? s.heap.objs.size = some (toldO acc ns) → (∀ b o, b ≠ it → s.heap.get? b = some o → h'.get? b = some o) → Q (some (.ref s.heap.objs.size)) { s with heap := h' }) :
    wpAny (model prog w) A (pyNext (.ref it)) Q E s := by
  have hT : s.TypeIs (.ref it) "itertools.combinations" := ⟨_, hit, rfl⟩
  unfold pyNext
  refine wpAny_bind (wpAny_attempt (wpAny_callSpecial?_slot (name := Str.ofString "__next__") hT slot_cm_next (wpAny_call_entry slot_cm_next hT entry_cm_next ?_ (args_cm_next _))))
  show wpAny _ _ (field (.ref it) 0 >>= _) _ _ s
  refine wpAny_bind (wpAny_field hit rfl (x := .ref pt) rfl ?_)
  show wpAny _ _ (itNumbersFrom (.ref it) 3 >>= _) _ _ s
  refine wpAny_bind ?_
  unfold itNumbersFrom
  refine wpAny_bind (wpAny_load hit (wpAny_pure ?_))
  have nb := nums_back ns (.ref pt) (rawInt 0) old
  generalize hz : (List.map _ (List.drop 3 _) : List Nat) = numbers
  have ez : numbers = ns := hz.symm.trans nb
  rw [ez]
  clear hz nb ez
  unfold itIntField
  refine wpAny_bind (wpAny_bind (wpAny_field hit rfl (x := rawInt 0) rfl (wpAny_pure ?_)))
  refine wpAny_bind (wpAny_setField hit rfl (by simp) ?_)
  have hit2 : IsCm (s.heap.update it (Obj.mapFields (·.setIfInBounds 1 (rawInt 1)))) it pt 1 old ns := by
    unfold IsCm
    rw [Heap.get?_update_self _ hit rfl]
    show some (Obj.mapFields _ (cmO pt 0 old ns)) = _
    unfold Obj.mapFields
    show some _ = _
    simp only [set_num]
  have sz : (s.heap.update it (Obj.mapFields (·.setIfInBounds 1 (rawInt 1)))).objs.size = s.heap.objs.size := Heap.size_update ..
  have hp2 : (s.heap.update it (Obj.mapFields (·.setIfInBounds 1 (rawInt 1)))).get? pt = some (poolO acc) := by rw [Heap.get?_update_ne _ _ _ _ hpt]; exact hp
  refine cm_result (acc := acc) (ix := ns) hit2 hp2 (by omega) fun h' h1 h2 h3 => ?_
  rw [sz] at h1 h2
  refine ⟨_, rfl, wpAny_pure ?_⟩
  rw [sz]
  exact hQ h' h1 h2 fun b o hb e => h3 b o hb (by rw [Heap.get?_update_ne _ _ _ _ hb]; exact e)
theorem cm_more {Q : Option Value → Shared → Prop} {ix : List Nat} (hit : IsCm s.heap it pt 1 old ns) (hp : s.heap.get? pt = some (poolO acc)) (hn : acc.size = n) (hpt : pt ≠ it) (hz : nxtC n ns = some ix) (hl : ix.length ≤ 1000)
    (hQ : ∀ h', IsCm h' it pt 1 (.ref s.heap.objs.size) ix → h'.get? s.heap.objs.size = some (toldO acc ix) → (∀ b o, b ≠ it → s.heap.get? b = some o → h'.get? b = some o) → Q (some (.ref s.heap.objs.size)) { s with heap := h' }) :
    wpAny (model prog w) A (pyNext (.ref it)) Q E s := by
  have hT : s.TypeIs (.ref it) "itertools.combinations" := ⟨_, hit, rfl⟩
  unfold pyNext
  refine wpAny_bind (wpAny_attempt (wpAny_callSpecial?_slot (name := Str.ofString "__next__") hT slot_cm_next (wpAny_call_entry slot_cm_next hT entry_cm_next ?_ (args_cm_next _))))
  show wpAny _ _ (field (.ref it) 0 >>= _) _ _ s
  refine wpAny_bind (wpAny_field hit rfl (x := .ref pt) rfl ?_)
  show wpAny _ _ (itNumbersFrom (.ref it) 3 >>= _) _ _ s
  refine wpAny_bind ?_
  unfold itNumbersFrom
  refine wpAny_bind (wpAny_load hit (wpAny_pure ?_))
  have nb := nums_back ns (.ref pt) (rawInt 1) old
  generalize hz' : (List.map _ (List.drop 3 _) : List Nat) = numbers
  have ez : numbers = ns := hz'.symm.trans nb
  rw [ez]
  clear hz' nb ez
  unfold itIntField
  refine wpAny_bind (wpAny_bind (wpAny_field hit rfl (x := rawInt 1) rfl (wpAny_pure ?_)))
  show wpAny _ _ (itPoolItems (.ref pt) >>= _) _ _ s
  unfold itPoolItems
  refine wpAny_bind (wpAny_bind (wpAny_seqItems hp rfl (wpAny_pure ?_)))
  show wpAny _ _ (match (_ : Option (List Nat)) with | some i => _ | none => _) _ _ _
  subst hn
  split
  · rename_i i heq
    have e : nxtC acc.size ns = some i := Eq.trans (by kernel_rfl) heq
    rw [hz] at e
    cases e
    refine wpAny_bind ?_
    unfold itSetNumbersFrom
    refine wpAny_updateFields hit rfl ?_ ?_
    · have hit2 : IsCm (s.heap.update it (Obj.mapFields fun fs => fs.extract 0 3 ++ (ix.map fun (n : Nat) => rawInt n).toArray)) it pt 1 old ix := by
        unfold IsCm
        rw [Heap.get?_update_self _ hit rfl]
        show some (Obj.mapFields _ (cmO pt 1 old ns)) = _
        unfold Obj.mapFields
        show some _ = _
        simp only [set_nums]
      have sz : (s.heap.update it (Obj.mapFields fun fs => fs.extract 0 3 ++ (ix.map fun (n : Nat) => rawInt n).toArray)).objs.size = s.heap.objs.size := Heap.size_update ..
      have hp2 : (s.heap.update it (Obj.mapFields fun fs => fs.extract 0 3 ++ (ix.map fun (n : Nat) => rawInt n).toArray)).get? pt = some (poolO acc) := by rw [Heap.get?_update_ne _ _ _ _ hpt]; exact hp
      refine cm_result (acc := acc) (ix := ix) hit2 hp2 hl fun h' h1 h2 h3 => ?_
      rw [sz] at h1 h2
      refine ⟨_, rfl, wpAny_pure ?_⟩
      rw [sz]
      exact hQ h' h1 h2 fun b o hb e => h3 b o hb (by rw [Heap.get?_update_ne _ _ _ _ hb]; exact e)
    · show (_ ++ _ : Array Value).size ≤ _
      rw [set_nums, List.size_toArray, List.length_append, List.length_map, sizeLine_eq]
      show 3 + _ ≤ _
      omega
  · rename_i heq
    have e : nxtC acc.size ns = none := Eq.trans (by kernel_rfl) heq
    rw [hz] at e
    cases e
theorem cm_end {Q : Option Value → Shared → Prop} (hh : A.handled = none) (hit : IsCm s.heap it pt 1 old ns) (hp : s.heap.get? pt = some (poolO acc)) (hn : acc.size = n) (hz : nxtC n ns = none)
    (hQ : ∀ h', (∀ b o, b ≠ it → s.heap.get? b = some o → h'.get? b = some o) → Q none { s with heap := h' }) :
    wpAny (model prog w) A (pyNext (.ref it)) Q E s := by
  have hT : s.TypeIs (.ref it) "itertools.combinations" := ⟨_, hit, rfl⟩
  unfold pyNext
  refine wpAny_bind (wpAny_attempt (wpAny_callSpecial?_slot (name := Str.ofString "__next__") hT slot_cm_next (wpAny_call_entry slot_cm_next hT entry_cm_next ?_ (args_cm_next _))))
  show wpAny _ _ (field (.ref it) 0 >>= _) _ _ s
  refine wpAny_bind (wpAny_field hit rfl (x := .ref pt) rfl ?_)
  show wpAny _ _ (itNumbersFrom (.ref it) 3 >>= _) _ _ s
  refine wpAny_bind ?_
  unfold itNumbersFrom
  refine wpAny_bind (wpAny_load hit (wpAny_pure ?_))
  have nb := nums_back ns (.ref pt) (rawInt 1) old
  generalize hz' : (List.map _ (List.drop 3 _) : List Nat) = numbers
  have ez : numbers = ns := hz'.symm.trans nb
  rw [ez]
  clear hz' nb ez
  unfold itIntField
  refine wpAny_bind (wpAny_bind (wpAny_field hit rfl (x := rawInt 1) rfl (wpAny_pure ?_)))
  show wpAny _ _ (itPoolItems (.ref pt) >>= _) _ _ s
  unfold itPoolItems
  refine wpAny_bind (wpAny_bind (wpAny_seqItems hp rfl (wpAny_pure ?_)))
  show wpAny _ _ (match (_ : Option (List Nat)) with | some i => _ | none => _) _ _ _
  subst hn
  split
  · rename_i i heq
    have e : nxtC acc.size ns = some i := Eq.trans (by kernel_rfl) heq
    rw [hz] at e
    cases e
  · refine wpAny_bind (wpAny_setField hit rfl (by simp) ?_)
    unfold itStop
    simp only [newExc, newTuple]
    refine wpAny_bind ?_
    refine wpAny_bind (wpAny_newObj_type ?_ (by size_fits))
    refine wpAny_bind (m := firstArgMember _ _) (wpAny_of_eq (a := Value.none) (by first | rfl | (simp only [firstArgMember]; rfl)) ?_)
    refine wpAny_newObj_type ?_ (by size_fits)
    simp only [raiseNew]
    refine wpAny_bind (wpAny_handled ?_)
    first | rw [show A.in1.handled = none from hh] | rw [hh]
    refine wpAny_bind (wpAny_pure (wpAny_throw ?_))
    refine wpAny_bind (wpAny_isInstance (T := "StopIteration") (b := true) ⟨_, Heap.get?_push_size _ rfl, rfl⟩ isSubtype_stop ?_)
    refine wpAny_pure (hQ _ fun b o hb e => ?_)
    exact Heap.get?_push_of_some _ (Heap.get?_push_of_some _ (by rw [Heap.get?_update_ne _ _ _ _ hb]; exact e))
theorem cm_over {Q : Option Value → Shared → Prop} (hh : A.handled = none) (hit : IsCm s.heap it pt 2 old ns)
    (hQ : ∀ h', (∀ b o, b ≠ it → s.heap.get? b = some o → h'.get? b = some o) → Q none { s with heap := h' }) :
    wpAny (model prog w) A (pyNext (.ref it)) Q E s := by
  have hT : s.TypeIs (.ref it) "itertools.combinations" := ⟨_, hit, rfl⟩
  unfold pyNext
  refine wpAny_bind (wpAny_attempt (wpAny_callSpecial?_slot (name := Str.ofString "__next__") hT slot_cm_next (wpAny_call_entry slot_cm_next hT entry_cm_next ?_ (args_cm_next _))))
  show wpAny _ _ (field (.ref it) 0 >>= _) _ _ s
  refine wpAny_bind (wpAny_field hit rfl (x := .ref pt) rfl ?_)
  show wpAny _ _ (itNumbersFrom (.ref it) 3 >>= _) _ _ s
  refine wpAny_bind ?_
  unfold itNumbersFrom
  refine wpAny_bind (wpAny_load hit (wpAny_pure ?_))
  unfold itIntField
  refine wpAny_bind (wpAny_bind (wpAny_field hit rfl (x := rawInt 2) rfl (wpAny_pure ?_)))
  refine wpAny_bind (wpAny_rule ?_)
  unfold itStop
  simp only [newExc, newTuple]
  refine wpAny_bind ?_
  refine wpAny_bind (wpAny_newObj_type ?_ (by size_fits))
  refine wpAny_bind (m := firstArgMember _ _) (wpAny_of_eq (a := Value.none) (by first | rfl | (simp only [firstArgMember]; rfl)) ?_)
  refine wpAny_newObj_type ?_ (by size_fits)
  simp only [raiseNew]
  refine wpAny_bind (wpAny_handled ?_)
  first | rw [show A.in1.handled = none from hh] | rw [hh]
  refine wpAny_bind (wpAny_pure (wpAny_throw ?_))
  refine wpAny_bind (wpAny_isInstance (T := "StopIteration") (b := true) ⟨_, Heap.get?_push_size _ rfl, rfl⟩ isSubtype_stop ?_)
  refine wpAny_pure (hQ _ fun b o hb e => ?_)
  exact Heap.get?_push_of_some _ (Heap.get?_push_of_some _ e)
end
end Cm
end
section
open PySem PySem.Spec PySem.Builtin PySem.Builtin.Itertools
namespace Cm
section
variable {prog : Program} {w : World} {A : Around} {E : Value → Shared → Prop} {s : Shared} {it pt r : Addr} {n : Nat} {old : Value} {ns : List Nat} {acc : Array Value} {t u v t2 : Tok}
theorem iter_cm {st : Int} {Q : Value → Shared → Prop} (hit : IsCm s.heap it pt st old ns) (h : Q (.ref it) s) : wpAny (model prog w) A (pyIter (.ref it)) Q E s := by
  have hT : s.TypeIs (.ref it) "itertools.combinations" := ⟨_, hit, rfl⟩
  refine wpAny_pyIter_slot hT slot_cm_iter (wpAny_call_entry slot_cm_iter hT entry_cm_iter ?_ (args_cm_iter _))
  show wpAny _ _ (ret (.ref it)) _ _ s
  exact wpAny_pure ⟨_, rfl, "itertools.combinations", _, hT, slot_cm_next.lookup, h⟩
theorem call_cm {Q : Value → Shared → Prop} (hh : A.handled = none) (hr : IsRange s.heap r 0 (n : Int) 1 t u v) (hsmall : Builtin.Range.small 0 (n : Int) 1 = true) (hn : Builtin.Range.rangeSize 0 (n : Int) 1 = n) (hlen : n ≤ 100)
    (h : ∀ (hm : Heap) (tk : Nat) (acc : Array Value), (∀ b o, s.heap.get? b = some o → hm.get? b = some o) → ItemsOf (fun i v => ∃ t, v = .int (0 + i * 1) t) acc n → Q (.ref (hm.objs.size + 1)) { s with heap := (hm.push (poolO acc)).push (cmO hm.objs.size (if 2 > n then 2 else 0) .none [0, 1]), toks := tk }) :
    wpAny (model prog w) A (call (.type "itertools.combinations") [.ref r, .int 2 t2]) Q E s := by
  have hh1 : A.in1.handled = none := hh
  refine PySem.ks_callType_codesW (Q₁ := fun obj s1 => s1.TypeIs obj "itertools.combinations" ∧ Q obj s1) called_cm (fun {Q'} {E'} hq => wpAny_of_eq (typeCall_cm _ _) hq) F.entry_object_init (code_cm_new hh1 hr hsmall hn hlen fun hm tk acc hk hi => ?_) fun obj s1 h1 => ?_
  · refine ⟨⟨cmO hm.objs.size (if 2 > n then 2 else 0) .none [0, 1], ?_, rfl⟩, h hm tk acc hk hi⟩
    have e1 : (hm.push (poolO acc)).objs.size = hm.objs.size + 1 := by simp [Heap.push]
    rw [← e1]
    exact Heap.get?_push_size _ rfl
  · exact ⟨h1.1, PySem.F.args_object_init_3 obj _ _, object_init_meets called_cm.init.lookup called_cm.made (by decide +kernel) _ _ _ _ _ ⟨h1.1, rfl, h1.2⟩⟩
end
/-! the numbers at each turn -/
def runC (n : Nat) : Nat → List Nat → List (List Nat)
  | 0, ns => [ns]
  | k + 1, ns => ns :: match nxtC n ns with
    | none => []
    | some i => runC n k i
def combsN (n : Nat) : List (List Nat) := if 2 > n then [] else runC n 15 [0, 1]
theorem runC_zero (n : Nat) : ∀ k ns, (runC n k ns)[0]? = some ns
  | 0, _ => rfl
  | _ + 1, _ => rfl
theorem runC_next (n : Nat) : ∀ (k i : Nat) (ns ms : List Nat), (runC n k ns)[i]? = some ms → i < k →
    (match nxtC n ms with | none => (runC n k ns)[i + 1]? = none | some a => (runC n k ns)[i + 1]? = some a)
  | 0, i, ns, ms, _, h => absurd h (Nat.not_lt_zero _)
  | k + 1, 0, ns, ms, e, _ => by
    have e1 : ns = ms := Option.some.inj e
    subst e1
    unfold runC
    cases hn : nxtC n ns with
    | none => rfl
    | some a =>
      show (runC n k a)[0]? = _
      exact runC_zero n k _
  | k + 1, i + 1, ns, ms, e, h => by
    unfold runC at e ⊢
    cases hn : nxtC n ns with
    | none =>
      rw [hn] at e
      simp at e
    | some a =>
      rw [hn] at e
      have e' : (runC n k a)[i]? = some ms := e
      exact runC_next n k i a ms e' (by omega)
def combOk (n : Nat) : Bool := decide ((combsN n).length ≤ 15) && (combsN n).all fun ns => decide (ns.length = 2) && ns.all fun i => decide (i < n)
theorem combOk_small : ∀ n, n ≤ 6 → combOk n = true := by
  intro n hn
  match n, hn with
  | 0, _ => decide +kernel
  | 1, _ => decide +kernel
  | 2, _ => decide +kernel
  | 3, _ => decide +kernel
  | 4, _ => decide +kernel
  | 5, _ => decide +kernel
  | 6, _ => decide +kernel
end Cm
end
section
open Cm
theorem combOk_len {n : Nat} (h : combOk n = true) : (combsN n).length ≤ 15 := by
  unfold combOk at h
  rw [Bool.and_eq_true, decide_eq_true_iff] at h
  exact h.1
theorem combOk_at {n : Nat} (h : combOk n = true) {ns : List Nat} (hn : ns ∈ combsN n) : ns.length = 2 ∧ ∀ i ∈ ns, i < n := by
  unfold combOk at h
  rw [Bool.and_eq_true] at h
  have h2 := List.all_eq_true.mp h.2 ns hn
  rw [Bool.and_eq_true, decide_eq_true_iff] at h2
  exact ⟨h2.1, fun i hi => of_decide_eq_true (List.all_eq_true.mp h2.2 i hi)⟩
/-- the pairs of 0 .. n - 1, each in a new tuple -/
def ItC (n : Nat) : It :=
  ⟨fun i _ => i < (combsN n).length, fun i H v H' => ∃ T ns, v = .ref T ∧ H T = none ∧ H' = upd H T (.tup (ns.map fun (j : Nat) => V.int j)) ∧ (combsN n)[i]? = some ns, fun i _ => (combsN n).length ≤ i⟩
def CmAt (n : Nat) (it pt : Addr) (i : Nat) (h : Heap) : Prop := ∃ (st : Int) (old : Value) (ns : List Nat) (acc : Array Value), IsCm h it pt st old ns ∧ h.get? pt = some (poolO acc) ∧ ItemsOf (fun i v => ∃ t, v = .int (0 + i * 1) t) acc n ∧ it ≠ pt ∧
  ((st = 2 ∧ (combsN n).length = 0) ∨ (i = 0 ∧ st = 0 ∧ (combsN n)[0]? = some ns) ∨ ∃ j, i = j + 1 ∧ st = 1 ∧ (combsN n)[j]? = some ns)
theorem told_relC {n : Nat} {acc : Array Value} (hi : ItemsOf (fun i v => ∃ t, v = .int (0 + i * 1) t) acc n) : ∀ {ix : List Nat}, (∀ i ∈ ix, i < n) → Vals (ix.map fun (j : Nat) => V.int j) (ix.map fun i => acc.getD i .none)
  | [], _ => .nil
  | i :: ix, h => by
    refine .cons ?_ (told_relC hi fun z hz => h z (List.mem_cons_of_mem _ hz))
    have hlt : i < acc.size := by
      rw [hi.1]
      exact h i List.mem_cons_self
    obtain ⟨t, e⟩ := hi.2 i acc[i] (Array.getElem?_eq_getElem hlt)
    refine ⟨t, ?_⟩
    show acc.getD i .none = .int (i : Int) t
    have : acc.getD i .none = acc[i] := by simp [Array.getD, hlt]
    rw [this, e]
    congr 1
    omega
theorem combs_next {n j : Nat} {ns : List Nat} (ok : combOk n = true) (e : (combsN n)[j]? = some ns) :
    (match nxtC n ns with | none => (combsN n)[j + 1]? = none | some a => (combsN n)[j + 1]? = some a) := by
  have hj := (List.getElem?_eq_some_iff.mp e).1
  have := combOk_len ok
  unfold combsN at e ⊢
  by_cases c : 2 > n
  · rw [if_pos c] at e
    simp at e
  · rw [if_neg c] at e ⊢
    exact runC_next n 15 j _ ns e (by omega)
theorem turn_comb {P : Program} {w : World} {K : PySem.W.Frag} {tg : Expr} {n : Nat} (it pt : Addr) (ok : combOk n = true) : Turn P w K tg (ItC n) [it, pt] it (CmAt n it pt) where
  mem := by simp
  obj := fun i h st b hb => by
    obtain ⟨st, old, ns, acc, h1, h2, _⟩ := st
    have e' : b = it ∨ b = pt := by simpa using hb
    rcases e' with z | z
    · rw [z]; exact ⟨_, h1, fun v q => nomatch q⟩
    · rw [z]; exact ⟨_, h2, fun v q => nomatch q⟩
  keep := fun i h h' st k => by
    obtain ⟨st, old, ns, acc, h1, h2, r⟩ := st
    exact ⟨st, old, ns, acc, k it (by simp) _ h1, k pt (by simp) _ h2, r⟩
  item := by
    intro X hP hw hK hc i pins s σ H E I hf st hg
    subst hP hw hK
    obtain ⟨st, old, ns, acc, hit, hp, hi, hne, hcase⟩ := st
    have hg : i < (combsN n).length := hg
    have l15 := combOk_len ok
    have fin : ∀ (ms : List Nat) (h' : Heap), (combsN n)[i]? = some ms → IsCm h' it pt 1 (.ref s.heap.objs.size) ms → h'.get? s.heap.objs.size = some (toldO acc ms) → (∀ b o, b ≠ it → s.heap.get? b = some o → h'.get? b = some o) →
        ∃ u, some (Value.ref s.heap.objs.size) = some u ∧ wpAny (model X.prog X.w) X.A (letOwnedTupleGo tg (.ref it) u) (fun _ s2 => ∃ x H', Inv X pins σ H' s2 ∧ RelV x u ∧ (ItC n).yld i H x H' ∧ CmAt n it pt (i + 1) s2.heap ∧ ∀ b ∈ [it, pt], H' b = none) E { s with heap := h' } := by
      intro ms h' e h1 h2 h3
      have hin := combOk_at ok (List.mem_of_getElem? e)
      refine ⟨_, rfl, go_of (s := { s with heap := h' }) h1 rfl rfl (by decide) ?_⟩
      have new : ObjOk X.prog X.w (upd H s.heap.objs.size (.tup (ms.map fun (j : Nat) => V.int j))) h' s.heap.objs.size (.tup (ms.map fun (j : Nat) => V.int j)) :=
        ⟨by rw [List.length_map, hin.1, sizeLine_eq]; decide, ms.map fun i => acc.getD i .none, told_relC hi hin.2, ⟨_, h2, rfl, _, rfl⟩⟩
      have I1 : Inv X pins σ (upd H s.heap.objs.size (.tup (ms.map fun (j : Nat) => V.int j))) { s with heap := h', toks := s.toks } :=
        I.turnedNew (ch := [it, pt]) (fun b ob hb q => h3 b ob (fun z => hb (by simp [z])) q) hf (Nat.le_refl _) new
      refine ⟨.ref s.heap.objs.size, _, I1, rfl, ⟨_, ms, rfl, I.hok.fresh (Nat.le_refl _), rfl, e⟩, ⟨1, _, ms, acc, h1, h3 pt _ (Ne.symm hne) hp, hi, hne, .inr (.inr ⟨i, rfl, rfl, e⟩)⟩, fun b hb => ?_⟩
      have e' : b = it ∨ b = pt := by simpa using hb
      have hlt : b < s.heap.objs.size := by
        rcases e' with z | z
        · rw [z]; exact Heap.lt_size hit
        · rw [z]; exact Heap.lt_size hp
      rw [upd_ne (Nat.ne_of_lt hlt)]
      exact (hf b hb).1
    rcases hcase with ⟨_, z⟩ | ⟨rfl, rfl, e⟩ | ⟨j, rfl, rfl, e⟩
    · omega
    · have hin := combOk_at ok (List.mem_of_getElem? e)
      exact cm_first hit hp (Ne.symm hne) (by omega) fun h' h1 h2 h3 => fin ns h' e h1 h2 h3
    · have nx := combs_next ok e
      cases hn : nxtC n ns with
      | none =>
        rw [hn] at nx
        have nx : (combsN n)[j + 1]? = none := nx
        rw [List.getElem?_eq_getElem hg] at nx
        cases nx
      | some ix =>
        rw [hn] at nx
        have nx : (combsN n)[j + 1]? = some ix := nx
        have hin := combOk_at ok (List.mem_of_getElem? nx)
        exact cm_more hit hp hi.1 (Ne.symm hne) hn (by omega) fun h' h1 h2 h3 => fin ix h' nx h1 h2 h3
  done := by
    intro X hP hw hK hc i pins s σ H E I hf st hg
    subst hP hw hK
    obtain ⟨st, old, ns, acc, hit, hp, hi, hne, hcase⟩ := st
    have hg : (combsN n).length ≤ i := hg
    obtain ⟨f0, f1, f2, f3, f4, f5⟩ := hf it (by simp)
    rcases hcase with ⟨rfl, z⟩ | ⟨rfl, rfl, e⟩ | ⟨j, rfl, rfl, e⟩
    · exact cm_over (I.ok.hd hc) hit fun h' k => ⟨rfl, I.turned (t' := s.toks) (fun b o hb q => k b o hb q) f0 f1 f3 f4 f5⟩
    · rw [List.getElem?_eq_none_iff.mpr hg] at e
      cases e
    · have nx := combs_next ok e
      cases hn : nxtC n ns with
      | none => exact cm_end (I.ok.hd hc) hit hp hi.1 hn fun h' k => ⟨rfl, I.turned (t' := s.toks) (fun b o hb q => k b o hb q) f0 f1 f3 f4 f5⟩
      | some ix =>
        rw [hn] at nx
        have nx : (combsN n)[j + 1]? = some ix := nx
        rw [List.getElem?_eq_none_iff.mpr hg] at nx
        cases nx
  self := fun A i s Q E st h => by
    obtain ⟨st, old, ns, acc, hit, _⟩ := st
    exact iter_cm hit h
def iComb (te : L2.St → Hp → (Int → Int → Hp → Prop) → Prop) : TI := fun σ H R => te σ H fun a b H1 => ∃ n : Nat, a = 0 ∧ b = (n : Int) ∧ n ≤ 6 ∧ R (ItC n) H1
theorem pi_comb {X : Cx} {tg e : Expr} {te : L2.St → Hp → (Int → Int → Hp → Prop) → Prop} {p pos p3 : Pos} {p2 : Nat} (hc : X.calm = true) (hg : Gl X "combinations") (hm : X.mg "combinations" = some (.type "itertools.combinations")) (he : PRg X e te)
    (na : starEach [e, .Constant (.int 2) p2 p3] X.env = (false, eval e X.env) :: starEach [.Constant (.int 2) p2 p3] X.env := by rfl) (nb : starEach [.Constant (.int 2) p2 p3] X.env = (false, eval (.Constant (.int 2) p2 p3) X.env) :: starEach [] X.env := by rfl) : PI X tg (.Call (.Name "combinations" p) [e, .Constant (.int 2) p2 p3] [] pos) (iComb te) := by
  refine ⟨fun pins s σ H R I h => ?_⟩
  refine Call_ (ld_glob I hg hm (PyProof.Rows.callWith_type1 (PyProof.Rows.args_cons (thn (he pins s σ H _ I h) fun x s1 ⟨r, a, b, t, u, v, H1, ex, hr, I1, n, ea, eb, n6, q⟩ => PyProof.Rows.args_cons (wpAny_Constant_int (PyProof.Rows.args_nil ?_)) nb) na) na rfl))
  subst ex ea eb
  have rs := rangeSize_nat 0 (n : Int)
  rw [show ((n : Int) - 0).toNat = n by omega] at rs
  have I1' : Inv X pins σ H1 { s1 with toks := s1.toks + 1 } := I1.tok _
  refine call_cm (I1.ok.hd hc) hr (small_one (by omega) (by omega) (by omega) (by omega)) rs (by omega) fun hmm tk acc hk hi => ?_
  have I2 : Inv X pins σ H1 { s1 with heap := hmm, toks := tk } := I1.kept hk
  have e1 : (hmm.push (poolO acc)).objs.size = hmm.objs.size + 1 := by simp [Heap.push]
  have hit : ((hmm.push (poolO acc)).push (cmO hmm.objs.size (if 2 > n then 2 else 0) .none [0, 1])).get? (hmm.objs.size + 1) = some (cmO hmm.objs.size (if 2 > n then 2 else 0) .none [0, 1]) := by
    rw [← e1]
    exact Heap.get?_push_size _ rfl
  have hp : ((hmm.push (poolO acc)).push (cmO hmm.objs.size (if 2 > n then 2 else 0) .none [0, 1])).get? hmm.objs.size = some (poolO acc) := Heap.get?_push_of_some _ (Heap.get?_push_size _ rfl)
  have I3 : Inv X pins σ H1 { s1 with heap := (hmm.push (poolO acc)).push (cmO hmm.objs.size (if 2 > n then 2 else 0) .none [0, 1]), toks := tk } := I2.kept fun b o e => Heap.get?_push_of_some _ (Heap.get?_push_of_some _ e)
  refine iter_cm hit ⟨hmm.objs.size + 1, [hmm.objs.size + 1, hmm.objs.size], _, _, H1, rfl, I3, turn_comb _ hmm.objs.size (combOk_small n n6), ⟨_, .none, _, acc, hit, hp, hi, Nat.succ_ne_self _, ?_⟩, fun b hb => ?_, q⟩
  · by_cases c : 2 > n
    · refine .inl ⟨if_pos c, ?_⟩
      unfold combsN
      rw [if_pos c]
      rfl
    · refine .inr (.inl ⟨rfl, if_neg c, ?_⟩)
      unfold combsN
      rw [if_neg c]
      exact runC_zero n 15 _
  · have e' : b = hmm.objs.size + 1 ∨ b = hmm.objs.size := by simpa using hb
    have hle : hmm.objs.size ≤ b := by
      rcases e' with z | z
      · rw [z]; exact Nat.le_add_right _ _
      · rw [z]; exact Nat.le_refl _
    exact I2.fpOk hle (I2.hok.fresh hle)
end
/-! ### for k, v in d.items(), the dict's keys tuples -/
section
open PySem.Spec
variable {X : Cx} {pins : List (Addr × Obj)} {σ : L2.St} {H : Hp} {s : Shared} {d : Addr} {o : Obj}
theorem Inv.frzTv {kvs : List (List L2.Key × V)} (I : Inv X pins σ H s) (h : H d = some (.frz o (.dT kvs))) :
    (d == sysModules) = false ∧ s.heap.get? d = some o ∧ o.ExactDict ∧ ∃ (es : Array DictEntry) (ep : Nat), o.data = .dict es ep ∧ es.size = kvs.length ∧
      ∀ (i : Nat) (k : List L2.Key) (v : V), kvs[i]? = some (k, v) → ∃ (en : DictEntry) (q : Addr), es[i]? = some en ∧ en.key = .ref q ∧ H q = some (.tup (k.map kV)) ∧ RelV v en.val := by
  obtain ⟨hd, z, hs, xs, pr, o', es, ep, ho, hx, hdt, he, _⟩ := I.hok d _ h
  rw [hd] at ho
  cases ho
  refine ⟨hs, hd, hx, es, ep, hdt, ?_, fun i k v e => ?_⟩
  · have l1 : es.size = xs.length := size_of_entries he
    have l2 : kvs.length = xs.length := pr.length
    omega
  · obtain ⟨b, hb, e1, e2, e3⟩ := paired_get pr e
    have q := entry_at he i
    rw [hb] at q
    exact ⟨_, b.2.1, q, rfl, e2, e3⟩
/-- the pairs, each a new tuple -/
def ItiT (d : Addr) (o : Obj) (kvs : List (List L2.Key × V)) : It :=
  ⟨fun i H => H d = some (.frz o (.dT kvs)) ∧ i < kvs.length, fun i H x H' => ∃ (T q : Addr) (k : List L2.Key) (v : V), kvs[i]? = some (k, v) ∧ x = .ref T ∧ H T = none ∧ H q = some (.tup (k.map kV)) ∧ H' = upd H T (.tup [.ref q, v]), fun i H => H d = some (.frz o (.dT kvs)) ∧ kvs.length ≤ i⟩
theorem turn_itemsT {P : Program} {w : World} {K : PySem.W.Frag} {es : Array DictEntry} {ep : Nat} {kvs : List (List L2.Key × V)} {elts : List Expr} {kk : Nat} {tpos : Pos} (it : Addr) (hod : o.data = .dict es ep) :
    Turn P w K (.Tuple elts kk tpos) (ItiT d o kvs) [it] it (fun i h => ∃ ok ov, IsItemIter h it d i kvs.length ep ok ov) where
  mem := by simp
  obj := fun i h st b hb => by
    have e : b = it := by simpa using hb
    subst e
    obtain ⟨ok, ov, e⟩ := st
    exact ⟨_, e, fun v z => nomatch z⟩
  keep := fun i h h' st k => let ⟨ok, ov, e⟩ := st; ⟨ok, ov, k it (by simp) _ e⟩
  item := by
    intro X hP hw hK hc i pins s σ H E I hf st hg
    subst hP hw hK
    obtain ⟨hd, hi⟩ := hg
    obtain ⟨hs, hgd, hx, es', ep', hdt, hsz, ent⟩ := Inv.frzTv I hd
    obtain ⟨rfl, rfl⟩ := dict_ep hod hdt
    obtain ⟨⟨k, v⟩, hkv⟩ : ∃ p, kvs[i]? = some p := ⟨kvs[i], List.getElem?_eq_getElem hi⟩
    obtain ⟨en, q, hen, hkey, hq, rv⟩ := ent i k v hkv
    obtain ⟨ok, ov, he⟩ := st
    rw [← hsz] at he
    have hlt : it < s.heap.objs.size := Heap.lt_size he
    have hie : i < es'.size := by omega
    have een : es'[i] = en := by
      rw [Array.getElem?_eq_getElem hie] at hen
      exact Option.some.inj hen
    refine wpAny_pyNext_items_item_raw he ⟨o, hgd, hx, hdt⟩ hie fun h' ho hT hz hk => ?_
    refine ⟨_, rfl, wpAny_letOwnedTupleGo_items (s := { s with heap := h' }) ho fun h'' he' sb => ?_⟩
    rw [een] at hT
    have hT2 : h''.get? s.heap.objs.size = some { cls := .type "tuple", data := .seq #[en.key, en.val] } := (sb.2 _ (Nat.ne_of_gt hlt)).trans hT
    rw [hkey] at hT2
    have new : ObjOk X.prog X.w (upd H s.heap.objs.size (.tup [.ref q, v])) h'' s.heap.objs.size (.tup [.ref q, v]) :=
      ⟨by show 2 ≤ sizeLine; decide, [.ref q, en.val], .cons rfl (.cons rv .nil), ⟨_, hT2, rfl, _, rfl⟩⟩
    have I1 : Inv X pins σ (upd H s.heap.objs.size (.tup [.ref q, v])) { s with heap := h'' } :=
      I.turnedNew (t' := s.toks) (ch := [it]) (fun b ob hb e => (sb.2 b (by simpa using hb)).trans (hk b ob (by simpa using hb) e)) hf (Nat.le_refl _) new
    refine ⟨.ref s.heap.objs.size, _, I1, rfl, ⟨_, q, k, v, hkv, rfl, I.hok.fresh (Nat.le_refl _), hq, rfl⟩, ⟨es'[i].key, es'[i].val, ?_⟩, fun b hb => ?_⟩
    · rw [← hsz]; exact he'
    · have e : b = it := by simpa using hb
      rw [e, upd_ne (Nat.ne_of_lt hlt)]
      exact (hf it (by simp)).1
  done := by
    intro X hP hw hK hc i pins s σ H E I hf st hg
    subst hP hw hK
    obtain ⟨hd, hi⟩ := hg
    obtain ⟨f0, f1, f2, f3, f4, f5⟩ := hf it (by simp)
    obtain ⟨hs, hgd, hx, es', ep', hdt, hsz, ent⟩ := Inv.frzTv I hd
    obtain ⟨rfl, rfl⟩ := dict_ep hod hdt
    obtain ⟨ok, ov, he⟩ := st
    rw [← hsz] at he
    exact wpAny_pyNext_items_end_raw (I.ok.hd hc) he ⟨o, hgd, hx, hdt⟩ (by omega) fun h' eb => ⟨rfl, I.turned (t' := s.toks) (fun b ob hb e => eb b ob hb e) f0 f1 f3 f4 f5⟩
  self := fun A i s Q E st h => let ⟨_, _, e⟩ := st; PySem.W.kcp_self e h
def iItemsT (td : TE) : TI := fun σ H R => td σ H fun x H1 => ∃ d o kvs, x = .ref d ∧ H1 d = some (.frz o (.dT kvs)) ∧ R (ItiT d o kvs) H1
theorem pi_itemsT {e : Expr} {td : TE} {apos cpos : Pos} {elts : List Expr} {kk : Nat} {tpos : Pos} (he : PE X e td) (hbase : attributeBase e "items" X.env (eval e X.env) = eval e X.env := by rfl) (hline : (apos.endLine == cpos.line) = true := by rfl) :
    PI X (.Tuple elts kk tpos) (.Call (.Attribute e "items" apos) [] [] cpos) (iItemsT td) := by
  refine ⟨fun pins s σ H R I h => ?_⟩
  refine wpAny_Call_method (T := "dict") (id := "dict.items") hbase rfl hline PySem.F.plainAttrs_dict PySem.F.slot_dict_items PySem.F.type_dict_items (thn (he.run pins s σ H _ I h) fun u s1 ⟨x, H1, I1, rx, d, o, kvs, ex, hd, q⟩ => ?_)
  subst ex
  obtain rfl : u = Value.ref d := rx
  obtain ⟨hs, hgd, hx, es, ep, hdt, hsz, ent⟩ := Inv.frzTv I1 hd
  have hraw : s1.heap.DictRaw d es ep := ⟨o, hgd, hx, hdt⟩
  refine ⟨hraw.typeIs, ?_, ?_⟩
  · intro a e
    cases e
    exact ⟨o, hgd, hx.2.1⟩
  have I2 : Inv X pins σ H1 { s1 with heap := s1.heap.push { cls := .type "dict_items", data := .fields #[.ref d] } } := I1.kept (t' := s1.toks) fun b ob q => Heap.get?_push_of_some _ q
  have fin : wpAny (model X.prog X.w) X.A (pyIter (.ref s1.heap.objs.size)) (PIE X pins σ (.Tuple elts kk tpos) R) X.xe { s1 with heap := s1.heap.push { cls := .type "dict_items", data := .fields #[.ref d] } } := by
    refine wpAny_pyIter_items_raw (d := d) ⟨_, Heap.get?_push_size _ rfl, rfl, rfl⟩ (hraw.at fun ob q => Heap.get?_push_of_some _ q) (pi_one (tk := s1.toks) I2 _ (turn_itemsT _ hdt) ⟨.none, .none, ?_⟩ q)
    rw [← hsz]
    exact Heap.get?_push_size _ rfl
  show wpAny _ _ (callWith cpos (.builtin "dict.items") [.ref d] [] []) _ X.xe s1
  exact method_meetsIn PySem.F.slot_dict_items PySem.F.entry_dict_items rfl (PySem.evalArgs_none ⟨rfl, hraw.typeIs, PySem.F.args_dict_items_1 _, _, meets_dict_items_raw d hs, ⟨⟨es, ep, hraw⟩, fin⟩⟩)
end
/-! ### sorted(d), the dict's keys tuples of itx -/
section
open PySem.Spec
variable {P : Program} {w : World} {A : Around} {E : Value → Shared → Prop} {s : Shared}
theorem kdl_rawD {d : Addr} {es : Array DictEntry} {ep : Nat} (lo : (d == sysModules) = false) : PySem.W.KdlSrc P w "dict" d d es.size (fun i v => ∃ hi : i < es.size, v = es[i].key) (fun h => h.DictRaw d es ep) where
  type := fun _ hm => hm.typeIs
  there := fun _ hm => by
    obtain ⟨o, ho, _⟩ := hm
    exact ⟨Heap.lt_size ho, Heap.lt_size ho⟩
  keep := fun _ _ hm hk => hm.at fun o e => hk d (.inl rfl) o e
  notList := by decide
  notTuple := by decide
  hint := fun _ _ _ _ hm hq => PySem.W.kdl_hint_dict hm.typeIs hq
  iter := fun _ s hh hm => ⟨_, _, (fun _ _ hq => wpAny_pyIter_dict_raw lo hm hq), Walks.rawKeys hh _ d (by obtain ⟨o, ho, _⟩ := hm; exact Nat.ne_of_lt (Heap.lt_size ho)) es ep, ⟨⟨_, Heap.get?_push_size _ rfl, rfl, rfl⟩, hm.at fun o e => Heap.get?_push_of_some _ e⟩⟩
theorem paired_getR {α β : Type} {F : α → β → Prop} : ∀ {l₁ : List α} {l₂ : List β} {i : Nat} {b : β}, Paired F l₁ l₂ → l₂[i]? = some b → ∃ a, l₁[i]? = some a ∧ F a b
  | _, _, _, _, .nil, e => by simp at e
  | _, _, 0, _, .cons h _, e => by
    cases e
    exact ⟨_, rfl, h⟩
  | _, _, i + 1, _, .cons _ r, e => paired_getR (i := i) r e
/-- values that are the addresses of rows -/
theorem rows_at : ∀ {vs : List Value} {L : List (Addr × List Int)}, (∀ v ∈ vs, ∃ q ∈ L, v = Value.ref q.1) → ∃ L1 : List (Addr × List Int), vs = L1.map (fun q => Value.ref q.1) ∧ ∀ q ∈ L1, q ∈ L
  | [], _, _ => ⟨[], rfl, fun _ h => nomatch h⟩
  | v :: vs, L, h => by
    obtain ⟨q, hq, e⟩ := h v List.mem_cons_self
    obtain ⟨L1, e1, h1⟩ := rows_at fun u hu => h u (List.mem_cons_of_mem _ hu)
    refine ⟨q :: L1, by rw [e, e1]; rfl, fun r hr => ?_⟩
    rcases List.mem_cons.mp hr with e | hr
    · rw [e]; exact hq
    · exact h1 r hr
theorem keys_all {es : Array DictEntry} {L : List (Addr × List Int)} {acc : Array Value} (hes : es.toList.map (·.key) = L.map fun q => Value.ref q.1) (hacc : ItemsOf (fun i v => ∃ hi : i < es.size, v = es[i].key) acc es.size) : acc.toList = L.map fun q => Value.ref q.1 := by
  rw [← hes]
  refine List.ext_getElem? fun i => ?_
  rw [Array.getElem?_toList, List.getElem?_map, Array.getElem?_toList]
  cases c : acc[i]? with
  | none =>
    have : es.size ≤ i := by rw [← hacc.1]; exact Array.getElem?_eq_none_iff.mp c
    rw [Array.getElem?_eq_none this]
    rfl
  | some v =>
    obtain ⟨hi, e⟩ := hacc.2 i v c
    rw [Array.getElem?_eq_getElem hi, e]
    rfl
theorem sorted_dictT {a : Addr} {L : List (Addr × List Int)} {es : Array DictEntry} {ep : Nat} {Q : Value → Shared → Prop} (lo : (a == sysModules) = false) (hm : s.heap.DictRaw a es ep) (hes : es.toList.map (·.key) = L.map fun q => Value.ref q.1) (hk : ∀ q ∈ L, IsT P w s.heap q.2 q.1)
    (hh : A.handled = none) (few : L.length < 64) {d : Nat} {B : Int} (hd1 : 1 ≤ d) (hB : ∀ p ∈ L, p.2.length = d ∧ TS.Bd B p.2)
    (hQ : ∀ (h1 h' : Heap) (tk : Nat) (out : Array Value) (c : Nat) (L' : List (Addr × List Int)), (∀ b o, s.heap.get? b = some o → h1.get? b = some o) → (∀ b o, h1.get? b = some o → h'.get? b = some o) → h'.get? h1.objs.size = some (seqObj "list" out c) →
      out.toList = L'.map (fun q => Value.ref q.1) → (∀ q ∈ L', q ∈ L) → (L'.map (·.2)).Perm (L.map (·.2)) → L'.Pairwise (fun q r => TS.code B q.2 ≤ TS.code B r.2) → Q (.ref h1.objs.size) { s with heap := h', toks := tk }) :
    wpAny (model P w) A (call (.builtin "sorted") [.ref a]) Q E s := by
  have esz : es.size = L.length := by
    have q := congrArg List.length hes
    rw [List.length_map, List.length_map, Array.length_toList] at q
    exact q
  refine PySem.Calls.call_function_entry kind_sorted plain_sorted entry_sorted (args_sorted1 _) ?_
  unfold Builtin.«sorted»
  refine wpAny_bind (m := checkCount "sorted" 1 1 _) (wpAny_pure ?_)
  refine wpAny_bind (PySem.W.kdu_collect (A := A.in1) (kdl_rawD lo) hh hm (by rw [esz, sizeLine_eq]; omega) fun h1 tk acc kp hacc => ?_)
  have hvs := keys_all hes hacc
  rw [hvs]
  generalize hv : (L.map fun q => Value.ref q.1) = vs
  have hvl : vs.length < 64 := by rw [← hv, List.length_map]; exact few
  refine wpAny_bind (wpAny_newList ?_ (by rw [sizeLine_eq]; omega))
  have hoL : (h1.push (seqObj "list" vs.toArray 0)).get? h1.objs.size = some (seqObj "list" vs.toArray 0) := Heap.get?_push_size _ rfl
  have tks : ∀ q ∈ L, TS.TupInts (h1.push (seqObj "list" vs.toArray 0)) (.ref q.1) q.2 := fun q hq => tupInts_of (P := P) (w := w) (isT_keep (hk q hq) fun b u e => Heap.get?_push_of_some _ (kp b u e))
  have isv : ∀ v ∈ vs, ∃ q ∈ L, v = Value.ref q.1 := fun v hm => by
    rw [← hv] at hm
    obtain ⟨q, hq, e⟩ := List.mem_map.mp hm
    exact ⟨q, hq, e.symm⟩
  have x : TS.TupsOk (h1.push (seqObj "list" vs.toArray 0)) d B vs := fun v hm => by
    obtain ⟨q, hq, e⟩ := isv v hm
    rw [e]
    exact ⟨q.2, tks q hq, (hB q hq).1, (hB q hq).2⟩
  refine wpAny_bind (wpAny_holding (TS.call_sort_tups (s := { s with heap := h1.push (seqObj "list" vs.toArray 0), toks := tk }) hoL hvl hd1 x fun out a1 a2 => ?_))
  obtain ⟨c, hc⟩ := sortedHeap_at (vs := vs) (out := out) hoL
  obtain ⟨L', e', hs'⟩ := rows_at fun v hm => isv v (a1.mem_iff.mp hm)
  have itx : ∀ q ∈ L, TS.intsOf (h1.push (seqObj "list" vs.toArray 0)) (.ref q.1) = q.2 := fun q hq => (tks q hq).ints
  have map2 : ∀ {M : List (Addr × List Int)}, (∀ q ∈ M, q ∈ L) → (M.map fun q => Value.ref q.1).map (TS.intsOf (h1.push (seqObj "list" vs.toArray 0))) = M.map (·.2) := fun {M} hM => by
    rw [List.map_map]
    exact List.map_congr_left fun q hq => itx q (hM q hq)
  have pm : (L'.map (·.2)).Perm (L.map (·.2)) := by
    rw [← map2 hs', ← map2 (fun q h => h), ← e', hv]
    exact a1.map _
  have pw : L'.Pairwise (fun q r => TS.code B q.2 ≤ TS.code B r.2) := by
    rw [e'] at a2
    refine List.Pairwise.imp_of_mem (fun {q r} hq hr hle => ?_) (List.pairwise_map.mp a2)
    rw [← itx q (hs' q hq), ← itx r (hs' r hr)]
    exact hle
  refine wpAny_pure ⟨_, rfl, hQ h1 (sortedHeap (h1.push (seqObj "list" vs.toArray 0)) h1.objs.size vs out) tk out c L' kp (fun b u e => ?_) hc e' hs' pm pw⟩
  have hlt := Heap.lt_size e
  rw [sortedHeap_old (Nat.ne_of_lt hlt) (by rw [size_push']; exact Nat.lt_succ_of_lt hlt)]
  exact Heap.get?_push_of_some _ e
/-- sorted(d): the keys are tuples of d ints in [0, B) -/
def rSortedD (K : PySem.W.Frag) (dd : Nat) (B : Int) : List V → Hp → VK → Prop := fun vs H Q => ∃ (a : Addr) (kvs : List (List L2.Key × V)) (gs : List (List Int)), vs = [V.ref a] ∧ H a = some (.dT kvs) ∧ kvs.map (·.1) = gs.map (fun g => g.map (Sum.inl (β := Str))) ∧ gs.length < 64 ∧
  (∀ g ∈ gs, g.length = dd ∧ TS.Bd B g) ∧
  ∀ (L' : List (Addr × List Int)) (p : Addr), (∀ q ∈ L', H q.1 = some (.tup (q.2.map V.int))) → (L'.map (·.2)).Perm gs → L'.Pairwise (fun q r => TS.code B q.2 ≤ TS.code B r.2) → H p = none → Q (.ref p) (upd H p (.lst (L'.map fun q => V.ref q.1)))
/-- the keys of a dict of tuples, as they lie -/
theorem dT_rows {X : Cx} {pins : List (Addr × Obj)} {σ : L2.St} {H : Hp} {s : Shared} {a : Addr} {kvs : List (List L2.Key × V)} {gs : List (List Int)} (I : Inv X pins σ H s) (ha : H a = some (.dT kvs)) (hkg : kvs.map (·.1) = gs.map (fun g => g.map (Sum.inl (β := Str)))) :
    ∃ (L : List (Addr × List Int)) (es : Array DictEntry) (ep : Nat), (a == sysModules) = false ∧ s.heap.DictRaw a es ep ∧ es.toList.map (·.key) = L.map (fun q => Value.ref q.1) ∧ L.map (·.2) = gs ∧ ∀ p ∈ L, H p.1 = some (.tup (p.2.map V.int)) := by
  obtain ⟨z, lo, xs, pr, o, es, ep, ho, hx, hdt, he, _⟩ := I.hok a _ ha
  have lx : kvs.length = xs.length := pr.length
  have lg : kvs.length = gs.length := by
    have q := congrArg List.length hkg
    rw [List.length_map, List.length_map] at q
    exact q
  have lz : (xs.map fun x => x.2.1).length = gs.length := by rw [List.length_map]; omega
  have hL1 : ((xs.map fun x => x.2.1).zip gs).map (·.1) = xs.map fun x => x.2.1 := List.map_fst_zip (by omega)
  have hL2 : ((xs.map fun x => x.2.1).zip gs).map (·.2) = gs := List.map_snd_zip (by omega)
  generalize (xs.map fun x => x.2.1).zip gs = L at hL1 hL2
  refine ⟨L, es, ep, lo, ⟨o, ho, hx, hdt⟩, ?_, hL2, ?_⟩
  · have : (L.map fun q => Value.ref q.1) = (L.map (·.1)).map Value.ref := by rw [List.map_map]; rfl
    rw [this, hL1, he, List.map_map, List.map_map]
    rfl
  · intro p hp
    obtain ⟨i, hi, e⟩ := List.getElem_of_mem hp
    have e1 : (xs.map fun x => x.2.1)[i]? = some p.1 := by rw [← hL1, List.getElem?_map, List.getElem?_eq_getElem hi, e]; rfl
    have e2 : gs[i]? = some p.2 := by rw [← hL2, List.getElem?_map, List.getElem?_eq_getElem hi, e]; rfl
    rw [List.getElem?_map] at e1
    obtain ⟨x, ex, e1⟩ := Option.map_eq_some_iff.mp e1
    obtain ⟨y, ey, r1, r2, _⟩ := paired_getR pr ex
    have e3 : (gs.map (fun g => g.map (Sum.inl (β := Str))))[i]? = some y.1 := by rw [← hkg, List.getElem?_map, ey]; rfl
    rw [List.getElem?_map, e2] at e3
    have e4 : p.2.map Sum.inl = y.1 := Option.some.inj e3
    rw [← e4, List.map_map] at r2
    rw [← e1]
    exact r2
theorem cr_sortedD {X : Cx} {dd : Nat} {B : Int} (hc : X.calm = true) (h1 : 1 ≤ dd) : CallR X (.builtin "sorted") (rSortedD X.K dd B) := by
  intro pins s σ H vs us Q I r h
  obtain ⟨a, kvs, gs, rfl, ha, hkg, few, hB, q⟩ := h
  rw [Vals.ref1 r]
  obtain ⟨L, es, ep, lo, raw, hes, hL2, sq⟩ := dT_rows I ha hkg
  refine sorted_dictT (P := X.prog) (w := X.w) (L := L) lo raw hes (fun p hp => I.isT (SqT.of (sq p hp))) (I.ok.hd hc) (by have := congrArg List.length hL2; rw [List.length_map] at this; omega) h1 (fun p hp => hB p.2 (by rw [← hL2]; exact List.mem_map.mpr ⟨p, hp, rfl⟩)) fun hm h' tk out c L' k1 k2 hg hout hs' pm pw => ?_
  rw [hL2] at pm
  have I1 : Inv X pins σ H { s with heap := hm } := I.kept (t' := s.toks) k1
  have hn : H hm.objs.size = none := I1.hok.fresh (Nat.le_refl _)
  have hlen : (L'.map fun q => V.ref q.1).length ≤ sizeLine := by
    have := pm.length_eq
    rw [List.length_map] at this
    rw [List.length_map, sizeLine_eq]
    omega
  have hv : Vals (L'.map fun q => V.ref q.1) out.toList := by rw [hout]; exact vals_of_refs L'
  have J : Inv X pins σ (upd H hm.objs.size (.lst (L'.map fun q => V.ref q.1))) { s with heap := h', toks := tk } := I1.laid (t' := tk) k2 (Nat.le_refl _) ⟨hlen, out.toList, c, hv, hg⟩
  exact ⟨.ref hm.objs.size, _, J, rfl, q L' _ (fun p hp => sq p (hs' p hp)) pm pw hn⟩
/-- list(d): its keys, tuples of ints -/
def rListD : List V → Hp → VK → Prop := fun vs H Q => ∃ (a : Addr) (kvs : List (List L2.Key × V)) (gs : List (List Int)), vs = [V.ref a] ∧ H a = some (.dT kvs) ∧ kvs.map (·.1) = gs.map (fun g => g.map (Sum.inl (β := Str))) ∧ gs.length ≤ 1000 ∧
  ∀ (L : List (Addr × List Int)) (p : Addr), (∀ q ∈ L, H q.1 = some (.tup (q.2.map V.int))) → L.map (·.2) = gs → H p = none → Q (.ref p) (upd H p (.lst (L.map fun q => V.ref q.1)))
theorem cr_listD {X : Cx} (hc : X.calm = true) : CallR X (.type "list") rListD := by
  intro pins s σ H vs us Q I r h
  obtain ⟨a, kvs, gs, rfl, ha, hkg, few, q⟩ := h
  rw [Vals.ref1 r]
  obtain ⟨L, es, ep, lo, raw, hes, hL2, sq⟩ := dT_rows I ha hkg
  have esz : es.size = L.length := by
    have q := congrArg List.length hes
    rw [List.length_map, List.length_map, Array.length_toList] at q
    exact q
  have lL : L.length = gs.length := by rw [← hL2, List.length_map]
  refine PySem.W.kdl_call (kdl_rawD lo) (I.ok.hd hc) raw (by rw [esz, sizeLine_eq]; omega) fun h' tk acc c kp hg hacc => ?_
  have hvs := keys_all hes hacc
  have hn : H s.heap.objs.size = none := I.hok.fresh (Nat.le_refl _)
  have hv : Vals (L.map fun q => V.ref q.1) acc.toList := by rw [hvs]; exact vals_of_refs L
  have J : Inv X pins σ (upd H s.heap.objs.size (.lst (L.map fun q => V.ref q.1))) { s with heap := h', toks := tk } := I.laid (t' := tk) kp (Nat.le_refl _) ⟨by rw [List.length_map, sizeLine_eq]; omega, acc.toList, c, hv, by rw [Array.toArray_toList]; exact hg⟩
  exact ⟨.ref s.heap.objs.size, _, J, rfl, q L _ sq hL2 hn⟩
end
section
/-- what e makes is locked for good -/
theorem pe_frz {X : Cx} {e : Expr} {t : TE} (h : PE X e t) : PE X e (fun σ H Q => t σ H fun x H1 => ∃ d u, x = .ref d ∧ H1 d = some u ∧ Mut (some u) ∧ ∀ od, Q x (upd H1 d (.frz od u))) := by
  constructor
  intro pins s σ H Q I hw
  refine thn (h.run pins s σ H _ I hw) fun v s1 got => ?_
  obtain ⟨x, H1, I1, r, d, u, ex, hd, mu, q⟩ := got
  obtain ⟨od, I2⟩ := I1.lock hd mu
  exact ⟨x, _, I2, r, q od⟩
end
/-! ### isinstance(e, (A, B, ..)) of the exception that an except suite holds: a rule of our own -/
/-- e, the classes in a tuple -/
def rExT (K : PySem.W.Frag) (D a : Addr) : List V → Hp → VK → Prop := fun xs H Q =>
  ∃ (tp : Addr) (cs : List V) (us : List Value) (b : Bool), xs = [.ref a, .ref tp] ∧ H tp = some (.tup cs) ∧ Paired ClsV cs us ∧ PySem.W.kitAny K (.ref D) us = some b ∧ Q (.bl b) H
theorem held_at {oe : Obj} {a D : Addr} {h : Heap} (got : h.get? a = some oe) (z : Zc (.ref D) none oe) (f : ∃ vs, oe.data = .fields vs) : PySem.W.InstAt h a oe D none := by
  obtain ⟨vs, fv⟩ := f
  obtain ⟨c0, d0, data0, s0⟩ := oe
  have z1 : c0 = .ref D := z.1
  have z2 : d0 = none := z.2
  have z3 : data0 = .fields vs := fv
  subst z1
  subst z2
  subst z3
  exact ⟨got, rfl, rfl, trivial⟩
theorem call_exT {X : Cx} {a D : Addr} {oe : Obj} {pn : List (Addr × Obj)} (C : ExcC X.K D) (z : Zc (.ref D) none oe) (f : ∃ vs, oe.data = .fields vs) : CallR (X.suite a ((a, oe) :: pn)) (.builtin "isinstance") (rExT X.K D a) := by
  intro pins s σ H xs us Q I r h
  obtain ⟨tp, cs, ws, b, rfl, hT, k, e, q⟩ := h
  obtain ⟨u1, u2, rfl, r1, r2⟩ := vals2 r
  cases (show u1 = Value.ref a from r1)
  cases (show u2 = Value.ref tp from r2)
  have got := (I.pin (a, oe) (List.mem_append.mpr (.inl List.mem_cons_self))).1
  obtain ⟨_, its, rv, ⟨oc, od, dt, sl⟩, g1, g2, n, g3⟩ := (show ObjOk X.prog X.w H s.heap tp (.tup cs) from I.hok tp _ hT)
  have same := ClsV.all k rv
  subst same
  have c1 : oc = .type "tuple" := g2
  have c2 : dt = .seq its.toArray n := g3
  subst c1
  subst c2
  exact PySem.W.kia_tup (PySem.W.handS_kitx_exc C.hg C.hk C.hs C.hd C.ha C.hn C.ht C.hm) I.kIn (held_at got z f) g1 e (fun z => nomatch z) fun tk => ⟨.bl b, H, I.tok tk, rfl, q⟩
/-- an own error without an __init__ of its own, at C -/
structure OwnE (K : PySem.W.Frag) (mg : Str → Option Value) (x : Str) (C : Addr) : Prop where
  g : mg x = some (.ref C)
  k : PySem.W.keepIn K (.ref C) = true
  x : PySem.W.excIn K C [.type "ValueError", .type "Exception", .type "BaseException", .type "object"] "ValueError.__new__" = true
  b : PySem.W.subIn K (.ref C) (.type "BaseException") = some true
  t : PySem.W.typeIn K (.ref C) = some (.type "type")
theorem app_fits {a b : Str} (h1 : a.length ≤ 1000) (h2 : b.length ≤ 1921) : (a ++ b).length ≤ sizeLine := by
  have e : (a ++ b).length = a.length + b.length := by
    show (a.cps ++ b.cps).size = a.cps.size + b.cps.size
    rw [Array.size_append]
  rw [e]
  exact Nat.le_trans (show a.length + b.length ≤ 2921 by omega) (by decide)
theorem app_le {a b : Str} {m n : Nat} (h1 : a.length ≤ m) (h2 : b.length ≤ n) : (a ++ b).length ≤ m + n := by
  have e : (a ++ b).length = a.length + b.length := by
    show (a.cps ++ b.cps).size = a.cps.size + b.cps.size
    rw [Array.size_append]
  omega
theorem line4k {n : Nat} (h : n ≤ 9000) : n ≤ sizeLine := Nat.le_trans h (by decide)
theorem log_small {n : Int} (h : n.natAbs ≤ 2000000) : n.natAbs.log2 < 1920 := by
  by_cases c : n.natAbs = 0
  · rw [c]
    decide
  · exact (Nat.log2_lt c).mpr (Nat.lt_of_le_of_lt h (by decide))
theorem int_len {n : Int} (h : n.natAbs.log2 < 1920) : (Str.ofString (toString n)).length ≤ 1921 := by
  have e := int_text_length_le (k := 1920) (by decide) h
  rw [PySem.ofString_length]
  omega
theorem fitA {a b : Str} {m n : Nat} (h1 : a.length ≤ m) (h2 : b.length ≤ n) (h : m + n ≤ 9000) : (a ++ b).length ≤ sizeLine := Nat.le_trans (app_le h1 h2) (line4k h)
/-! ### an error that is caught and looked at: isinstance(e, (six others)), then isinstance(e, its own) and isinstance(e, ValueError) -/
theorem FnOk.or {P : Program} {w : World} {K : PySem.W.Frag} {mg : Str → Option Value} {base : Heap} {CX : CXT} {k : Nat} {f : Addr} {fd : FuncData} {ps : List Str} {sp sq : Sp} (F : FnOk P w K mg base CX k f fd ps sp) (G : FnOk P w K mg base CX k f fd ps sq) : FnOk P w K mg base CX k f fd ps (fun vs H Q E => sp vs H Q E ∨ sq vs H Q E) :=
  ⟨fun vs H Q E h => h.elim (F.len vs H Q E) (G.len vs H Q E), fun A outer s H args us vs Q E hr e b v h => h.elim (F.run A outer s H args us vs Q E hr e b v) (G.run A outer s H args us vs Q E hr e b v)⟩
theorem pss_given {X : Cx} {ss : List Stmt} {t : TS} {p : Prop} (h : p → PSs X ss t) : PSs X ss (fun D σ H => p ∧ t D σ H) := ⟨fun pins s σ H D I hh => (h hh.1).run pins s σ H D I hh.2⟩
structure RefG (K : PySem.W.Frag) (mg : Str → Option Value) (xE x1 x2 x3 x4 x5 x6 : Str) (CL CE c1 c2 c3 c4 c5 c6 : Addr) : Prop where
  gL : mg "LongError" = some (.ref CL)
  ex : PySem.W.exmOne K (.ref CE) (.ref CL) = some true
  N : OwnE K mg xE CE
  E : ExcC K CE
  g1 : mg x1 = some (.ref c1)
  g2 : mg x2 = some (.ref c2)
  g3 : mg x3 = some (.ref c3)
  g4 : mg x4 = some (.ref c4)
  g5 : mg x5 = some (.ref c5)
  g6 : mg x6 = some (.ref c6)
  no : PySem.W.kitAny K (.ref CE) [.ref c1, .ref c2, .ref c3, .ref c4, .ref c5, .ref c6] = some false
  yes : PySem.W.kitOne K (.ref CE) (.ref CE) = some true
  val : PySem.W.kitOne K (.ref CE) (.type "ValueError") = some true
  mi : mg "isinstance" = none
  mv : mg "ValueError" = none
def t_suiteG (K : PySem.W.Frag) (i : Nat) (CE c1 c2 c3 c4 c5 c6 : Addr) (a : Addr) : TS :=
  tSeq (tIfS (tB (tCB (rExT K CE a) (tCons (tVar i) (tCons (tTup (tCons (tC (.ref c1)) (tCons (tC (.ref c2)) (tCons (tC (.ref c3)) (tCons (tC (.ref c4)) (tCons (tC (.ref c5)) (tCons (tC (.ref c6)) tNil))))))) tNil)))) (tRet (tC (.bl false))) tNext)
    (tRet (tAndV (tCB (rIsE K CE a) (tCons (tVar i) (tCons (tC (.ref CE)) tNil))) (tCB (rIsE K CE a) (tCons (tVar i) (tCons (tC (.ty "ValueError")) tNil)))))
/-- what the suite comes to -/
theorem suiteG {K : PySem.W.Frag} {mg : Str → Option Value} {xE x1 x2 x3 x4 x5 x6 : Str} {CL CE c1 c2 c3 c4 c5 c6 a : Addr} (R : RefG K mg xE x1 x2 x3 x4 x5 x6 CL CE c1 c2 c3 c4 c5 c6) {i : Nat} {D : Ends} {σ : L2.St} {H : Hp} (hi : σ[i]? = some (some (.ref a)))
    (q : ∀ p o, H p = none → D.rt (.bl true) (upd H p o)) : t_suiteG K i CE c1 c2 c3 c4 c5 c6 a D σ H := by
  refine ⟨.ref a, hi, (by show 6 ≤ sizeLine; decide), fun tp ntp => ?_⟩
  refine ⟨tp, _, _, false, rfl, upd_same, .cons (.own _) (.cons (.own _) (.cons (.own _) (.cons (.own _) (.cons (.own _) (.cons (.own _) .nil))))), R.no, false, rfl, iteF ?_⟩
  refine ⟨.ref a, hi, .ref CE, _, true, rfl, (fun u r => r), R.yes, true, rfl, iteT ?_⟩
  exact ⟨.ref a, hi, .ty "ValueError", _, true, rfl, (fun u r => r), R.val, q _ _ ntp⟩
def goK (f : List Int) (p : Int) : Int := f.getD p.toNat 0
theorem rise_same : ∀ {xs ys : List Int}, xs.Pairwise (· < ·) → ys.Pairwise (· < ·) → (∀ k, k ∈ xs ↔ k ∈ ys) → xs = ys
  | [], [], _, _, _ => rfl
  | [], y :: ys, _, _, h => by have := (h y).mpr List.mem_cons_self; simp at this
  | x :: xs, [], _, _, h => by have := (h x).mp List.mem_cons_self; simp at this
  | x :: xs, y :: ys, hx, hy, h => by
    obtain ⟨x1, x2⟩ := List.pairwise_cons.mp hx
    obtain ⟨y1, y2⟩ := List.pairwise_cons.mp hy
    have e : x = y := by
      rcases List.mem_cons.mp ((h x).mp List.mem_cons_self) with a | a
      · exact a
      · rcases List.mem_cons.mp ((h y).mpr List.mem_cons_self) with b | b
        · exact b.symm
        · have := y1 x a
          have := x1 y b
          omega
    subst e
    rw [rise_same x2 y2 fun k => ⟨fun hk => ?_, fun hk => ?_⟩]
    · rcases List.mem_cons.mp ((h k).mp (List.mem_cons_of_mem _ hk)) with a | a
      · have := x1 k hk
        omega
      · exact a
    · rcases List.mem_cons.mp ((h k).mpr (List.mem_cons_of_mem _ hk)) with a | a
      · have := y1 k hk
        omega
      · exact a
/-! ### what is the same in all these texts: heaps -/
/-- all that is tracked, but at d, is as it was -/
def Gr (d : Addr) (H H' : Hp) : Prop := ∀ b o, b ≠ d → H b = some o → H' b = some o
theorem Gr.refl (d : Addr) (H : Hp) : Gr d H H := fun _ _ _ e => e
theorem Gr.trans {d : Addr} {H H1 H2 : Hp} (a : Gr d H H1) (b : Gr d H1 H2) : Gr d H H2 := fun c o n e => b c o n (a c o n e)
theorem Gr.new {d : Addr} {H H1 : Hp} {p : Addr} {o : HO} (a : Gr d H H1) (h : H1 p = none) : Gr d H (upd H1 p o) := fun b u n e => by
  have q := a b u n e
  rw [upd_ne (ne_of_none q h)]
  exact q
theorem Gr.off {d : Addr} {H H1 H2 : Hp} (a : Gr d H H1) (h : ∀ b, b ≠ d → H2 b = H1 b) : Gr d H H2 := fun b u n e => by
  rw [h b n]
  exact a b u n e
theorem same_new {H : Hp} {p : Addr} {o : HO} (h : H p = none) : Same H (upd H p o) := fun b x e => by
  rw [upd_ne (ne_of_none e h)]
  exact e
theorem Gr.of_same {d : Addr} {H H' : Hp} (s : Same H H') : Gr d H H' := fun b o _ e => s b o e
/-- the dice at d -/
def dl (s0 : Int) (l : Addr) (k big : Int) : List V := [.int s0, .ref l, .int k, .int big]
theorem map_int_dl {ns : List Int} {s0 k big : Int} {l : Addr} : ns.map V.int ≠ dl s0 l k big := by
  intro e
  have h : (ns.map V.int)[1]? = some (V.ref l) := by rw [e]; rfl
  rw [List.getElem?_map] at h
  cases q : ns[1]? with
  | none => rw [q] at h; cases h
  | some z => rw [q] at h; cases h
/-- a list that is known ahead of p's making, and p's writing -/
theorem seq_put {K : PySem.W.Frag} {H0 H : Hp} {l p : Addr} {xs : List V} {o : HO} (h0 : SqL K H0 l xs) (n0 : H0 p = none) (h : SqL K H l xs) : SqL K (upd H p o) l xs := by
  have ne : Rd H0 l (.lst xs) → l ≠ p := fun r => by
    rcases r with r | ⟨o', r⟩
    · exact ne_of_none r n0
    · exact ne_of_none r n0
  rcases h0 with r0 | k
  · have n := ne r0
    rcases h with (h | ⟨o', h⟩) | h
    · exact .inl (.inl (by rw [upd_ne n]; exact h))
    · exact .inl (.inr ⟨o', by rw [upd_ne n]; exact h⟩)
    · exact .inr h
  · exact .inr k
/-- the script stands when the dice turns -/
theorem seq_turn {K : PySem.W.Frag} {H H' : Hp} {d l l' : Addr} {ns : List Int} {s0 k big : Int} (hd : H d = some (.lst (dl s0 l' k big))) (h : SqL K H l (ns.map V.int)) (q : ∀ b, b ≠ d → H' b = H b) : SqL K H' l (ns.map V.int) := by
  rcases h with (h | ⟨o, h⟩) | h
  · refine .inl (.inl ?_)
    rw [q]
    · exact h
    · intro z
      rw [z, hd] at h
      injection h with h
      injection h with h
      exact map_int_dl h.symm
  · refine .inl (.inr ⟨o, ?_⟩)
    rw [q]
    · exact h
    · intro z
      rw [z, hd] at h
      cases h
  · exact .inr h
def Dc (K : PySem.W.Frag) (l : Addr) (ns : List Int) (H : Hp) (d : Addr) : Prop := ∃ (s0 k big : Int), H d = some (.lst (dl s0 l k big)) ∧ SqL K H l (ns.map V.int) ∧ ns.length ≤ 63 ∧ 0 ≤ s0 ∧ s0 < 2147483647 ∧ 0 ≤ k ∧ 0 ≤ big
theorem Dc.same {K : PySem.W.Frag} {H H' : Hp} {l d : Addr} {ns : List Int} (s : Same H H') (h : Dc K l ns H d) : Dc K l ns H' d := by
  obtain ⟨s0, k, big, h1, h2, h3⟩ := h
  exact ⟨s0, k, big, s _ _ h1, s.seq h2, h3⟩
theorem Dc.seq {K : PySem.W.Frag} {H : Hp} {l d : Addr} {ns : List Int} (h : Dc K l ns H d) : SqL K H l (ns.map V.int) := by
  obtain ⟨s0, k, big, h1, h2, h3⟩ := h
  exact h2
theorem Dc.new {K : PySem.W.Frag} {H : Hp} {l d p : Addr} {ns : List Int} {o : HO} (h : Dc K l ns H d) (n : H p = none) : Dc K l ns (upd H p o) d := h.same (same_new n)
theorem Dc.some {K : PySem.W.Frag} {H : Hp} {l d : Addr} {ns : List Int} (h : Dc K l ns H d) : ∃ s0 k big, H d = Option.some (HO.lst (dl s0 l k big)) := by
  obtain ⟨s0, k, big, h1, _⟩ := h
  exact ⟨s0, k, big, h1⟩
theorem Dc.ne {K : PySem.W.Frag} {H : Hp} {l d p : Addr} {ns : List Int} (h : Dc K l ns H d) (n : H p = none) : p ≠ d := by
  obtain ⟨s0, k, big, e⟩ := h.some
  exact (ne_of_none e n).symm
/-- the dice is a list that begins with an int and a ref: no other list that we know -/
theorem Dc.ne_of {K : PySem.W.Frag} {H : Hp} {l d p : Addr} {ns : List Int} {u : HO} (h : Dc K l ns H d) (n : H p = Option.some u) (q : ∀ s0 l k big, u ≠ .lst (dl s0 l k big)) : p ≠ d := by
  obtain ⟨s0, k, big, e⟩ := h.some
  intro z
  rw [z, e] at n
  exact q _ _ _ _ (Option.some.inj n).symm
/-- another list is written, one that is newer than the script -/
theorem Dc.turn {K : PySem.W.Frag} {H0 H : Hp} {l d d0 p : Addr} {ns : List Int} {o : HO} (h : Dc K l ns H d) (h0 : Dc K l ns H0 d0) (n0 : H0 p = none) (n : p ≠ d) : Dc K l ns (upd H p o) d := by
  obtain ⟨s0, k, big, h1, h2, h3⟩ := h
  refine ⟨s0, k, big, ?_, seq_put h0.seq n0 h2, h3⟩
  rw [upd_ne n.symm]
  exact h1
/-! ### a chain's data -/
abbrev Mv := Int × List Int
def GoodRow (many : Nat) (row : List Int) : Prop := row.length = many ∧ ∀ x ∈ row, 0 ≤ x ∧ x < (many : Int)
def GoodMv (many : Nat) (m : Mv) : Prop := 1 ≤ m.1 ∧ m.1 ≤ 99 ∧ GoodRow many m.2
structure Good (many : Nat) (ms : List Mv) : Prop where
  m1 : 1 ≤ many
  m6 : many ≤ 6
  l1 : 1 ≤ ms.length
  l8 : ms.length ≤ 8
  mv : ∀ m ∈ ms, GoodMv many m
def MoveAt (H : Hp) (v : V) (m : Mv) : Prop := ∃ a q, v = .ref a ∧ H a = some (.tup [.int m.1, .ref q]) ∧ H q = some (.tup (m.2.map V.int))
abbrev MovesAt (H : Hp) : List V → List Mv → Prop := Paired (MoveAt H)
theorem MoveAt.same {H H' : Hp} {v : V} {m : Mv} (s : ∀ b xs, H b = some (.tup xs) → H' b = some (.tup xs)) (h : MoveAt H v m) : MoveAt H' v m := by
  obtain ⟨a, q, e, h1, h2⟩ := h
  exact ⟨a, q, e, s _ _ h1, s _ _ h2⟩
theorem MovesAt.same {H H' : Hp} (s : ∀ b xs, H b = some (.tup xs) → H' b = some (.tup xs)) : ∀ {vs : List V} {ms : List Mv}, MovesAt H vs ms → MovesAt H' vs ms
  | _, _, .nil => .nil
  | _, _, .cons h t => .cons (h.same s) (MovesAt.same s t)
theorem MovesAt.snoc {H : Hp} {v : V} {m : Mv} (h : MoveAt H v m) : ∀ {vs : List V} {ms : List Mv}, MovesAt H vs ms → MovesAt H (vs ++ [v]) (ms ++ [m])
  | _, _, .nil => .cons h .nil
  | _, _, .cons q t => .cons q (MovesAt.snoc h t)
theorem MovesAt.get {H : Hp} : ∀ {vs : List V} {ms : List Mv} {i : Nat} {m : Mv}, MovesAt H vs ms → ms[i]? = some m → ∃ v, vs[i]? = some v ∧ MoveAt H v m
  | _, _, _, _, .nil, e => by simp at e
  | _, _, 0, _, .cons h _, e => by
    simp at e
    subst e
    exact ⟨_, rfl, h⟩
  | _, _, i + 1, m, .cons _ t, e => by
    obtain ⟨v, h1, h2⟩ := MovesAt.get (i := i) (m := m) t (by simpa using e)
    exact ⟨v, by simpa using h1, h2⟩
theorem MovesAt.get' {H : Hp} : ∀ {vs : List V} {ms : List Mv} {i : Nat} {v : V}, MovesAt H vs ms → vs[i]? = some v → ∃ m, ms[i]? = some m ∧ MoveAt H v m
  | _, _, _, _, .nil, e => by simp at e
  | _, _, 0, _, .cons h _, e => by
    simp at e
    subst e
    exact ⟨_, rfl, h⟩
  | _, _, i + 1, v, .cons _ t, e => by
    obtain ⟨m, h1, h2⟩ := MovesAt.get' (i := i) (v := v) t (by simpa using e)
    exact ⟨m, by simpa using h1, h2⟩
/-- a told chain: (many, moves) at t, the moves' list at m -/
def ToldAt (H : Hp) (t m : Addr) (many : Nat) (vs : List V) (ms : List Mv) : Prop := H t = some (.tup [.int (many : Int), .ref m]) ∧ H m = some (.lst vs) ∧ MovesAt H vs ms
theorem Gr.tups {d l : Addr} {ns : List Int} {H H' : Hp} {K : PySem.W.Frag} (hd : Dc K l ns H d) (g : Gr d H H') : ∀ b xs, H b = some (.tup xs) → H' b = some (.tup xs) := fun b xs e =>
  g b _ (hd.ne_of e fun _ _ _ _ q => nomatch q) e
theorem Same.tups {H H' : Hp} (g : Same H H') : ∀ b xs, H b = some (.tup xs) → H' b = some (.tup xs) := fun b xs e => g b _ e
theorem ifD {c A B : Prop} [Decidable c] (hc : c) (h : A) : if decide c = true then A else B := by
  rw [decide_eq_true hc]
  exact iteT h
theorem small8 {n : Nat} (h : n ≤ 8) : n < sizeLine := Nat.lt_of_le_of_lt h (by decide)
section
variable {P : Program} {w : World} {K : PySem.W.Frag} {mg : Str → Option Value} {base : Heap}
/-! ### _law_cell -/
theorem scCell : FnScope ["_law_script", "_law_k"] ["_law_script", "_law_k"] (defScope sCell) := ⟨rfl, rfl, rfl, by decide +kernel, rfl, by decide +kernel, by decide +kernel⟩
def spCell (K : PySem.W.Frag) : Sp := fun vs H Q _ => ∃ (l : Addr) (ns : List Int) (j : Int), vs = [.ref l, .int j] ∧ SqL K H l (ns.map V.int) ∧ 0 ≤ j ∧ ∀ x : Int, Q (.int x) H
theorem ok_cell {f : Addr} {fd : FuncData} {k : Nat} (F : Fun K "_law_cell" "_law_cell" sCell f fd) (ml : mg "len" = none) : FnOk P w K mg base CX0 (k + 1) f fd ["_law_script", "_law_k"] (spCell K) := by
  refine F.ok scCell (fun vs H Q E h => ?_) (fun cdv A outer s H vs Q E hr h => ?_)
  · obtain ⟨l, ns, j, rfl, _⟩ := h
    rfl
  · obtain ⟨l, ns, j, rfl, hS, hj, q⟩ := h
    refine ⟨_, pss_cons (ps_if (pt_cmpR op_lt (pv 1) (pe_callB call_len_seq (by rfl) ml PySem.boot_len (pa_cons (pv 0) pa_nil)) (nomark _))
        (pss_one (ps_ret (pe_ix ix_list (pv 0) (pv 1) (fun _ _ => rfl)))) pss_nil)
      (pss_one (ps_ret pe_int)), ?_⟩
    refine ⟨.int j, rfl, .ref l, rfl, l, ns.map V.int, rfl, .inl hS, j, _, rfl, rfl, _, rfl, ite2 (fun e => ?_) (fun e => ?_)⟩
    · have e1 : j < ((ns.map V.int).length : Int) := of_decide_eq_true e
      rw [List.length_map] at e1
      have hn : j.toNat < ns.length := by omega
      have ej : j = ((j.toNat : Nat) : Int) := by omega
      have g : (ns.map V.int)[j.toNat]? = some (.int ns[j.toNat]) := by
        rw [List.getElem?_map, List.getElem?_eq_getElem hn]
        rfl
      exact ⟨.ref l, rfl, .int j, rfl, l, _, j, _, rfl, rfl, hS, at_of ej g, q _⟩
    · exact q 0
/-! ### _law_dice -/
theorem scDice : FnScope ["_law_script", "_law_k", "_law_cell_here"] ["_law_script", "_law_k"] (defScope sDice) := ⟨rfl, rfl, rfl, by decide +kernel, rfl, by decide +kernel, by decide +kernel⟩
def spDice (K : PySem.W.Frag) : Sp := fun vs H Q _ => ∃ (l : Addr) (ns : List Int) (j : Int), vs = [.ref l, .int j] ∧ SqL K H l (ns.map V.int) ∧ ns.length ≤ 63 ∧ 0 ≤ j ∧ ∀ H' d, Same H H' → H d = none → Dc K l ns H' d → Q (.ref d) H'
theorem abs_nn (x : Int) : 0 ≤ (if x < 0 then -x else x) := by
  split <;> omega
theorem ok_dice {f fC : Addr} {fd fdC : FuncData} (F : Fun K "_law_dice" "_law_dice" sDice f fd) (FC : Fun K "_law_cell" "_law_cell" sCell fC fdC) (bC : Binds K fdC ["_law_script", "_law_k"] []) (gC : mg "_law_cell" = some (.ref fC))
    (ml : mg "len" = none) (ma : mg "abs" = none) (mi : mg "int" = none) : FnOk P w K mg base CX0 2 f fd ["_law_script", "_law_k"] (spDice K) := by
  have GC : FnOk P w K mg base CX0 1 fC fdC ["_law_script", "_law_k"] (spCell K) := ok_cell FC ml
  refine F.ok scDice (fun vs H Q E h => ?_) (fun cdv A outer s H vs Q E hr h => ?_)
  · obtain ⟨l, ns, j, rfl, _⟩ := h
    rfl
  · obtain ⟨l, ns, j, rfl, hS, hl, hj, q⟩ := h
    refine ⟨_, pss_cons (ps_set (i := 2) scDice.nd rfl (.inl rfl) (pe_callB call_abs (by rfl) ma (by decide +kernel) (pa_cons (pe_call GC hr (by rfl) gC FC.kp bC .nil pass0 (pa_cons (pv 0) (pa_cons (pv 1) pa_nil))) pa_nil)))
      (pss_one (ps_ret (pe_lst (pa_cons (pe_op op_mod (pv 2) pe_int) (pa_cons (pv 0) (pa_cons (pe_op op_add (pv 1) pe_int)
        (pa_cons (pe_op op_mul (pe_callTy call_int1 (by rfl) mi (by decide +kernel) (pa_cons (pe_cmpR op_ge (pv 2) (pe_op op_pow pe_int pe_int) (nomark _)) pa_nil)) (pv 2)) pa_nil))))))), ?_⟩
    refine ⟨.ref l, rfl, .int j, rfl, l, ns, j, rfl, hS, hj, fun x => ?_⟩
    refine ⟨x, rfl, ?_⟩
    have ha := abs_nn x
    generalize (if x < 0 then -x else x) = c at ha ⊢
    have m0 : 0 ≤ c % 2147483647 := Int.emod_nonneg _ (by decide)
    have m1 : c % 2147483647 < 2147483647 := Int.emod_lt_of_pos _ (by decide)
    refine ⟨.int c, rfl, c, 2147483647, rfl, rfl, (by show (0 : Int) < 2147483647; decide), .ref l, rfl, .int j, rfl, j, 1, rfl, rfl, ?_⟩
    refine ⟨.int c, rfl, 10, 18, rfl, rfl, ⟨by decide, by decide, by decide⟩, c, _, rfl, rfl, .inr ⟨_, rfl, ?_⟩⟩
    refine ⟨.int c, rfl, _, c, rfl, rfl, .inl ?_, ?_⟩
    · split <;> decide
    · refine ⟨by show 4 ≤ sizeLine; decide, fun d nd => ?_⟩
      refine q _ d (same_new nd) nd ⟨_, _, _, upd_same, (same_new nd).seq hS, hl, m0, m1, by omega, ?_⟩
      split
      · omega
      · omega
/-! ### _law_off -/
theorem scOff : FnScope ["_law_d", "_law_most", "_law_found", "_law_more"] ["_law_d", "_law_most"] (defScope sOff) := ⟨rfl, rfl, rfl, by decide +kernel, rfl, by decide +kernel, by decide +kernel⟩
def spOff (K : PySem.W.Frag) : Sp := fun vs H Q _ => ∃ (d l : Addr) (ns : List Int) (most : Int), vs = [.ref d, .int most] ∧ Dc K l ns H d ∧ 1 ≤ most ∧ most ≤ 1000000 ∧ ∀ (r : Nat) H', (r : Int) < most → Dc K l ns H' d → (∀ b, b ≠ d → H' b = H b) → Q (.int (r : Int)) H'
theorem max1 (x : Int) (h : 0 ≤ x) : 1 ≤ (if x > 1 then x else 1) := by
  split <;> omega
theorem ok_off {f fC : Addr} {fd fdC : FuncData} (F : Fun K "_law_off" "_law_off" sOff f fd) (FC : Fun K "_law_cell" "_law_cell" sCell fC fdC) (bC : Binds K fdC ["_law_script", "_law_k"] []) (gC : mg "_law_cell" = some (.ref fC))
    (ml : mg "len" = none) (ma : mg "abs" = none) (mm : mg "max" = none) : FnOk P w K mg base CX0 2 f fd ["_law_d", "_law_most"] (spOff K) := by
  have GC : FnOk P w K mg base CX0 1 fC fdC ["_law_script", "_law_k"] (spCell K) := ok_cell FC ml
  refine F.ok scOff (fun vs H Q E h => ?_) (fun cdv A outer s H vs Q E hr h => ?_)
  · obtain ⟨d, l, ns, most, rfl, _⟩ := h
    rfl
  · obtain ⟨d, l, ns, most, rfl, ⟨s0, k, big, hD, hS, hl, z0, z1, hk, hb⟩, hm1, hm2, q⟩ := h
    refine ⟨_, pss_cons (ps_if (pt_cmpR op_gt (pe_ix ix_list (pv 0) pe_int (fun _ _ => rfl)) pe_int (nomark _))
        (pss_cons (ps_set (i := 2) scOff.nd rfl (.inl rfl) (pe_op op_mod (pe_ix ix_list (pv 0) pe_int (fun _ _ => rfl)) (pv 1)))
          (pss_cons (ps_asg (pe_op op_fdiv (pe_ix ix_list (pv 0) pe_int (fun _ _ => rfl)) (pv 1)) (pg_sub (pv 0) pe_int set_list))
            (pss_one (ps_ret (pv 2))))) pss_nil)
      (pss_cons (ps_set (i := 3) scOff.nd rfl (.inl rfl) (pe_callB call_abs (by rfl) ma (by decide +kernel) (pa_cons (pe_call GC hr (by rfl) gC FC.kp bC .nil pass0
          (pa_cons (pe_ix ix_list (pv 0) pe_int (fun _ _ => rfl)) (pa_cons (pe_op op_mod (pe_ix ix_list (pv 0) pe_int (fun _ _ => rfl))
            (pe_callB (call_max2 rfl) (by rfl) mm (by decide +kernel) (pa_cons pe_int (pa_cons (pe_callB call_len_seq (by rfl) ml PySem.boot_len (pa_cons (pe_ix ix_list (pv 0) pe_int (fun _ _ => rfl)) pa_nil)) pa_nil)))) pa_nil))) pa_nil)))
      (pss_cons (ps_asg (pe_op op_add (pe_ix ix_list (pv 0) pe_int (fun _ _ => rfl)) pe_int) (pg_sub (pv 0) pe_int set_list))
      (pss_cons (ps_asg (pe_op op_mod (pe_op op_add (pe_op op_add (pe_op op_mul (pe_ix ix_list (pv 0) pe_int (fun _ _ => rfl)) pe_int) pe_int) (pv 3)) pe_int) (pg_sub (pv 0) pe_int set_list))
      (pss_one (ps_ret (pe_op op_mod (pe_op op_fdiv (pe_ix ix_list (pv 0) pe_int (fun _ _ => rfl)) pe_int) (pv 1)))))))
      , ?_⟩
    have hD0 : SqL K H d (dl s0 l k big) := SqL.of hD
    refine ⟨.ref d, rfl, d, _, 3, _, rfl, rfl, hD0, atI_nat (j := 3) rfl, big, 0, rfl, rfl, _, rfl, ite2 (fun e => ?_) (fun e => ?_)⟩
    · have e1 : 0 < big := of_decide_eq_true e
      refine ⟨.ref d, rfl, d, _, 3, _, rfl, rfl, hD0, atI_nat (j := 3) rfl, .int most, rfl, big, most, rfl, rfl, (by show 0 < most; omega), ?_⟩
      refine ⟨.ref d, rfl, d, _, 3, _, rfl, rfl, hD0, atI_nat (j := 3) rfl, .int most, rfl, big, most, rfl, rfl, ⟨by show 0 < most; omega, by show most < 1073741824; omega⟩, ?_⟩
      refine ⟨.ref d, rfl, d, _, 3, 3, rfl, rfl, hD, rfl, ?_⟩
      have r0 : 0 ≤ big % most := Int.emod_nonneg _ (by omega)
      have r1 : big % most < most := Int.emod_lt_of_pos _ (by omega)
      have er : big % most = (((big % most).toNat : Nat) : Int) := by omega
      refine ⟨.int (big % most), rfl, ?_⟩
      rw [er]
      refine q _ _ (by omega) ⟨s0, k, big / most, upd_same, seq_turn hD hS (fun b hb => upd_ne hb), hl, z0, z1, hk, Int.ediv_nonneg hb (by omega)⟩ (fun b hb => upd_ne hb)
    · refine ⟨.ref d, rfl, d, _, 1, _, rfl, rfl, hD0, atI_nat (j := 1) rfl, .ref d, rfl, d, _, 2, _, rfl, rfl, hD0, atI_nat (j := 2) rfl, ?_⟩
      refine ⟨.ref d, rfl, d, _, 1, _, rfl, rfl, hD0, atI_nat (j := 1) rfl, l, _, rfl, .inl hS, 1, _, rfl, ?_⟩
      have hx := max1 (((ns.map V.int).length : Nat) : Int) (by omega)
      generalize (if (((ns.map V.int).length : Nat) : Int) > 1 then (((ns.map V.int).length : Nat) : Int) else 1) = mx at hx ⊢
      refine ⟨k, mx, rfl, rfl, (by show 0 < mx; omega), l, ns, k % mx, rfl, hS, Int.emod_nonneg _ (by omega), fun x => ⟨x, rfl, ?_⟩⟩
      have ha := abs_nn x
      generalize (if x < 0 then -x else x) = c at ha ⊢
      -- d[2] = d[2] + 1
      refine ⟨.ref d, rfl, d, _, 2, _, rfl, rfl, hD0, atI_nat (j := 2) rfl, k, 1, rfl, rfl, .ref d, rfl, d, _, 2, 2, rfl, rfl, hD, rfl, ?_⟩
      have g1 : (upd H d (.lst (dl s0 l (k + 1) big))) d = some (.lst (dl s0 l (k + 1) big)) := upd_same
      have g2 : SqL K (upd H d (.lst (dl s0 l (k + 1) big))) d (dl s0 l (k + 1) big) := SqL.of g1
      refine ⟨.ref d, rfl, d, _, 0, _, rfl, rfl, g2, atI_nat (j := 0) rfl, s0, 48271, rfl, rfl, .inl ⟨by omega, by omega⟩, s0 * 48271, 11, rfl, rfl, .int c, rfl, s0 * 48271 + 11, c, rfl, rfl, s0 * 48271 + 11 + c, 2147483647, rfl, rfl, (by show (0 : Int) < 2147483647; decide), ?_⟩
      have m0 : 0 ≤ (s0 * 48271 + 11 + c) % 2147483647 := Int.emod_nonneg _ (by decide)
      have m1 : (s0 * 48271 + 11 + c) % 2147483647 < 2147483647 := Int.emod_lt_of_pos _ (by decide)
      refine ⟨.ref d, rfl, d, _, 0, 0, rfl, rfl, g1, rfl, ?_⟩
      rw [upd_upd]
      have g3 : (upd H d (.lst (dl ((s0 * 48271 + 11 + c) % 2147483647) l (k + 1) big))) d = some (.lst (dl ((s0 * 48271 + 11 + c) % 2147483647) l (k + 1) big)) := upd_same
      have g4 : SqL K (upd H d (.lst (dl ((s0 * 48271 + 11 + c) % 2147483647) l (k + 1) big))) d (dl ((s0 * 48271 + 11 + c) % 2147483647) l (k + 1) big) := SqL.of g3
      refine ⟨.ref d, rfl, d, _, 0, _, rfl, rfl, g4, atI_nat (j := 0) rfl, ((s0 * 48271 + 11 + c) % 2147483647), 64, rfl, rfl, ⟨by decide, by decide⟩, .int most, rfl, ((s0 * 48271 + 11 + c) % 2147483647) / 64, most, rfl, rfl, (by show 0 < most; omega), ?_⟩
      have r0 : 0 ≤ ((s0 * 48271 + 11 + c) % 2147483647) / 64 % most := Int.emod_nonneg _ (by omega)
      have r1 : ((s0 * 48271 + 11 + c) % 2147483647) / 64 % most < most := Int.emod_lt_of_pos _ (by omega)
      have er : ((s0 * 48271 + 11 + c) % 2147483647) / 64 % most = (((((s0 * 48271 + 11 + c) % 2147483647) / 64 % most).toNat : Nat) : Int) := by omega
      show Q (.int (((s0 * 48271 + 11 + c) % 2147483647) / 64 % most)) _
      rw [er]
      exact q _ _ (by omega) ⟨((s0 * 48271 + 11 + c) % 2147483647), k + 1, big, g3, seq_turn hD hS (fun b hb => upd_ne hb), hl, m0, m1, by omega, hb⟩ (fun b hb => upd_ne hb)
end
section
variable {P : Program} {w : World} {K : PySem.W.Frag} {mg : Str → Option Value} {base : Heap}
/-! ### _law_chain -/
def nChain : List Str := ["_law_d", "_law_most", "_law_many", "_law_way", "_law_moves", "_law_k", "_law_row", "_law_weight", "_law_place"]
theorem scChain : FnScope ["_law_d", "_law_most", "_law_many", "_law_way", "_law_moves", "_law_k", "_law_row", "_law_weight", "_law_place"] ["_law_d", "_law_most"] (defScope sChain) := ⟨rfl, rfl, rfl, by decide +kernel, rfl, by decide +kernel, by decide +kernel⟩
def spChain (K : PySem.W.Frag) : Sp := fun vs H Q _ => ∃ (d l : Addr) (ns : List Int) (most : Nat), vs = [.ref d, .int (most : Int)] ∧ Dc K l ns H d ∧ 1 ≤ most ∧ most ≤ 6 ∧
  ∀ (t m : Addr) (many : Nat) (ws : List V) (ms : List Mv) H', Good many ms → many ≤ most → ToldAt H' t m many ws ms → Dc K l ns H' d → Gr d H H' → Q (.ref t) H'
/-- what the law's texts call -/
structure LawTxt (K : PySem.W.Frag) (mg : Str → Option Value) (fC fD fO : Addr) (fdC fdD fdO : FuncData) : Prop where
  FC : Fun K "_law_cell" "_law_cell" sCell fC fdC
  bC : Binds K fdC ["_law_script", "_law_k"] []
  gC : mg "_law_cell" = some (.ref fC)
  FD : Fun K "_law_dice" "_law_dice" sDice fD fdD
  bD : Binds K fdD ["_law_script", "_law_k"] []
  gD : mg "_law_dice" = some (.ref fD)
  FO : Fun K "_law_off" "_law_off" sOff fO fdO
  bO : Binds K fdO ["_law_d", "_law_most"] []
  gO : mg "_law_off" = some (.ref fO)
  ml : mg "len" = none
  ma : mg "abs" = none
  mm : mg "max" = none
  mn : mg "min" = none
  mi : mg "int" = none
  mr : mg "range" = none
  ms : mg "sorted" = none
  mt : mg "tuple" = none
section
variable {fC fD fO : Addr} {fdC fdD fdO : FuncData}
theorem LawTxt.off (T : LawTxt K mg fC fD fO fdC fdD fdO) : FnOk P w K mg base CX0 2 fO fdO ["_law_d", "_law_most"] (spOff K) := ok_off T.FO T.FC T.bC T.gC T.ml T.ma T.mm
theorem LawTxt.dice (T : LawTxt K mg fC fD fO fdC fdD fdO) : FnOk P w K mg base CX0 2 fD fdD ["_law_script", "_law_k"] (spDice K) := ok_dice T.FD T.FC T.bC T.gC T.ml T.ma T.mi
theorem perm_row {many : Nat} {xs ys : List Int} (p : ys.Perm xs) (h : GoodRow many xs) : GoodRow many ys := ⟨p.length_eq.trans h.1, fun x hx => h.2 x (p.mem_iff.mp hx)⟩
theorem clamp (m x : Int) (h : 0 ≤ m) : 0 ≤ (if (if x < m then x else m) > 0 then (if x < m then x else m) else 0) ∧ (if (if x < m then x else m) > 0 then (if x < m then x else m) else 0) < m + 1 := by
  split <;> split at * <;> omega
theorem ok_chain {f : Addr} {fd : FuncData} (F : Fun K "_law_chain" "_law_chain" sChain f fd) (T : LawTxt K mg fC fD fO fdC fdD fdO) : FnOk P w K mg base CX0 3 f fd ["_law_d", "_law_most"] (spChain K) := by
  have GO : FnOk P w K mg base CX0 2 fO fdO ["_law_d", "_law_most"] (spOff K) := T.off
  refine F.ok scChain (fun vs H Q E h => ?_) (fun cdv A outer s H vs Q E hr h => ?_)
  · obtain ⟨d, l, ns, most, rfl, _⟩ := h
    rfl
  · obtain ⟨d, l, ns, most, rfl, hD, hm1, hm6, q⟩ := h
    refine ⟨_, pss_cons (ps_set (i := 2) scChain.nd rfl (.inr rfl) (pe_op op_add pe_int (pe_call GO hr (by rfl) T.gO T.FO.kp T.bO .nil pass0 (pa_cons (pv 0) (pa_cons (pv 1) pa_nil)))))
      (pss_cons (ps_set (i := 3) scChain.nd rfl (.inl rfl) (pe_call GO hr (by rfl) T.gO T.FO.kp T.bO .nil pass0 (pa_cons (pv 0) (pa_cons pe_int pa_nil))))
      (pss_cons (ps_set (i := 4) scChain.nd rfl (.inl rfl) (pe_lst pa_nil))
      (pss_cons (ps_for PassesOwn.never rfl (pi_range1 (by rfl) T.mr (pa_cons (pe_op op_add pe_int (pe_call GO hr (by rfl) T.gO T.FO.kp T.bO .nil pass0 (pa_cons (pv 0)
            (pa_cons (pe_ix ix_list (pe_lst (pa_cons pe_int (pa_cons pe_int (pa_cons pe_int pa_nil)))) (pe_call GO hr (by rfl) T.gO T.FO.kp T.bO .nil pass0 (pa_cons (pv 0) (pa_cons pe_int pa_nil))) (fun _ _ => rfl)) pa_nil)))) pa_nil))
          (pg_name (i := 5) scChain.nd rfl (.inl rfl))
          (pss_cons (ps_setLc (i := 6) (own := [("_law_place", 8)]) (g := gName 8) (tt := tYes) rfl scChain.nd rfl rfl (sw_true rfl rfl rfl (by decide +kernel)) (pi_range1 (by rfl) T.mr (pa_cons (pv 2) pa_nil)) (blkOk_by (N := nChain) (sc := defScope sChain) (by decide +kernel))
              (fun _ _ _ _ _ => pg_name (i := 8) scChain.nd rfl (.inl rfl)) (fun _ _ _ _ _ => pts_nil)
              (fun _ _ _ _ _ => pe_call GO hr (by rfl) T.gO T.FO.kp T.bO .nil pass0 (pa_cons (pv 0) (pa_cons (pv 2) pa_nil))))
          (C8.pss_cut (ps_if (pt_cmpR op_eq (pv 3) pe_int (nomark _)) (pss_one (ps_set (i := 6) scChain.nd rfl (.inl rfl) (pe_callB cr_sorted (by rfl) T.ms (by decide +kernel) (pa_cons (pv 6) pa_nil)))) pss_nil)
          (C8.pss_cut (ps_if (pt_cmpR op_eq (pv 3) pe_int (nomark _)) (pss_one
              (ps_setLc (i := 6) (own := [("_law_place", 8)]) (g := gName 8) (tt := tYes) rfl scChain.nd rfl rfl (sw_true rfl rfl rfl (by decide +kernel)) (pi_range1 (by rfl) T.mr (pa_cons (pv 2) pa_nil)) (blkOk_by (N := nChain) (sc := defScope sChain) (by decide +kernel))
              (fun _ _ _ _ _ => pg_name (i := 8) scChain.nd rfl (.inl rfl)) (fun _ _ _ _ _ => pts_nil)
              (fun _ _ _ _ _ => pe_callB (call_max2 rfl) (by rfl) T.mm (by decide +kernel) (pa_cons pe_int (pa_cons (pe_callB (call_min2 rfl) (by rfl) T.mn (by decide +kernel) (pa_cons (pe_op op_sub (pv 2) pe_int) (pa_cons
                (pe_op op_sub (pe_op op_add (pv 8) (pe_call GO hr (by rfl) T.gO T.FO.kp T.bO .nil pass0 (pa_cons (pv 0) (pa_cons pe_int pa_nil)))) pe_int) pa_nil))) pa_nil))))) pss_nil)
          (pss_cons (ps_set (i := 7) scChain.nd rfl (.inl rfl) (pe_ix ix_list (pe_lst (pa_cons pe_int (pa_cons (pe_op op_add pe_int (pe_call GO hr (by rfl) T.gO T.FO.kp T.bO .nil pass0 (pa_cons (pv 0) (pa_cons pe_int pa_nil))))
              (pa_cons (pe_op op_add pe_int (pe_call GO hr (by rfl) T.gO T.FO.kp T.bO .nil pass0 (pa_cons (pv 0) (pa_cons pe_int pa_nil)))) pa_nil)))) (pe_call GO hr (by rfl) T.gO T.FO.kp T.bO .nil pass0 (pa_cons (pv 0) (pa_cons pe_int pa_nil))) (fun _ _ => rfl)))
          (pss_one (ps_expr (pe_bm PySem.F.plainAttrs_list PySem.F.slot_list_append PySem.F.type_list_append mt_append (pv 4) (pa_cons (pe_tup (pa_cons (pv 7) (pa_cons (pe_callTy call_tuple_of (by rfl) T.mt (by decide +kernel) (pa_cons (pv 6) pa_nil)) pa_nil))) pa_nil)))))))))
      (pss_one (ps_ret (pe_tup (pa_cons (pv 2) (pa_cons (pv 4) pa_nil)))))))), ?_⟩
    -- many, way, moves
    refine ⟨.ref d, rfl, .int most, rfl, d, l, ns, _, rfl, hD, by omega, by omega, fun r H1 hr1 hD1 o1 => ?_⟩
    refine ⟨1, r, rfl, rfl, .ref d, rfl, d, l, ns, _, rfl, hD1, by omega, by omega, fun way H2 hr2 hD2 o2 => ?_⟩
    obtain ⟨many, em⟩ : ∃ many : Nat, many = 1 + r := ⟨_, rfl⟩
    have em2 : (1 : Int) + (r : Int) = (many : Int) := by omega
    have g2 : Gr d H H2 := ((Gr.refl d H).off o1).off o2
    refine ⟨Nat.zero_le _, fun m nm => ?_⟩
    have hD3 : Dc K l ns (upd H2 m (.lst [])) d := hD2.new nm
    have g3 : Gr d H (upd H2 m (.lst [])) := g2.new nm
    have hm3 : (upd H2 m (.lst [])) m = some (.lst []) := upd_same
    -- the loop's range
    refine ⟨.ref d, rfl, (by show 3 ≤ sizeLine; decide), fun L nL => ?_⟩
    have hD4 := hD3.new (o := .lst [.int 4, .int 4, .int 8]) nL
    have g4 : Gr d H (upd (upd H2 m (.lst [])) L (.lst [.int 4, .int 4, .int 8])) := g3.new nL
    have nLm : L ≠ m := fun z => by rw [z, upd_same] at nL; cases nL
    have hm4 : (upd (upd H2 m (.lst [])) L (.lst [.int 4, .int 4, .int 8])) m = some (.lst []) := by rw [upd_ne (Ne.symm nLm)]; exact hm3
    have hL4 : (upd (upd H2 m (.lst [])) L (.lst [.int 4, .int 4, .int 8])) L = some (.lst [.int 4, .int 4, .int 8]) := upd_same
    generalize (upd (upd H2 m (.lst [])) L (.lst [.int 4, .int 4, .int 8])) = H4 at hD4 g4 hm4 hL4 ⊢
    refine ⟨.ref d, rfl, d, l, ns, _, rfl, hD4, by omega, by omega, fun r3 H5 hr3 hD5 o5 => ?_⟩
    have nmd : m ≠ d := hD2.ne nm
    have nLd : L ≠ d := hD3.ne nL
    have hL5 : H5 L = some (.lst [.int 4, .int 4, .int 8]) := by rw [o5 _ nLd]; exact hL4
    have hm5 : H5 m = some (.lst []) := by rw [o5 _ nmd]; exact hm4
    have g5 : Gr d H H5 := g4.off o5
    obtain ⟨c, hc4, hc8, hc⟩ : ∃ c : Int, 4 ≤ c ∧ c ≤ 8 ∧ ([.int 4, .int 4, .int 8] : List V)[r3]? = some (.int c) := by
      have h3 : r3 < 3 := by omega
      match r3, h3 with
      | 0, _ => exact ⟨4, by decide, by decide, rfl⟩
      | 1, _ => exact ⟨4, by decide, by decide, rfl⟩
      | 2, _ => exact ⟨8, by decide, by decide, rfl⟩
    refine ⟨L, _, _, _, rfl, rfl, SqL.of hL5, atI_nat hc, d, l, ns, _, rfl, hD5, by omega, by omega, fun cnt H6 hr6 hD6 o6 => ?_⟩
    have hm6' : H6 m = some (.lst []) := by rw [o6 _ nmd]; exact hm5
    have g6 : Gr d H H6 := g5.off o6
    refine ⟨1, cnt, rfl, rfl, _, rfl, by omega, by omega, ?_⟩
    have en : ((1 : Int) + (cnt : Int)).toNat = 1 + cnt := by omega
    refine for_range (lo := 0) (n := ((1 : Int) + (cnt : Int)).toNat)
      (fun i σ H' => ∃ y5 y6 y7 ms ws, σ = [some (.ref d), some (.int (most : Int)), some (.int ((1 : Int) + (r : Int))), some (.int (way : Int)), some (.ref m), y5, y6, y7, none] ∧
        Dc K l ns H' d ∧ Gr d H H' ∧ H' m = some (.lst ws) ∧ MovesAt H' ws ms ∧ ms.length = i ∧ ∀ mv ∈ ms, GoodMv many mv)
      ⟨none, none, none, [], [], rfl, hD6, g6, hm6', .nil, rfl, fun _ z => nomatch z⟩ ?_ ?_
    · rintro i σ H7 hi ⟨y5, y6, y7, ms, ws, rfl, hD7, g7, hm7, hM7, hl7, hg7⟩
      rw [en] at hi
      -- row = [off(d, many) for place in range(many)]
      refine ⟨_, rfl, _, rfl, by omega, by omega, fun D nD => ?_⟩
      have nDd : D ≠ d := hD7.ne nD
      have er : ((1 : Int) + (r : Int)).toNat = many := by omega
      refine lc_range (lo := 0) (n := ((1 : Int) + (r : Int)).toNat)
        (fun j H' => ∃ row : List Int, H' D = some (.lst (row.map V.int)) ∧ row.length = j ∧ (∀ x ∈ row, 0 ≤ x ∧ x < (many : Int)) ∧ Dc K l ns H' d ∧ Gr d H7 H')
        ⟨[], upd_same, rfl, (fun _ z => nomatch z), hD7.new nD, (Gr.refl d H7).new nD⟩ ?_ ?_
      · rintro j H8 hj ⟨row, hrow, hrl, hrx, hD8, g8⟩
        refine ⟨rfl, .ref d, rfl, _, rfl, d, l, ns, _, rfl, hD8, by omega, by omega, fun x H9 hx hD9 o9 => ?_⟩
        have hrow9 : H9 D = some (.lst (row.map V.int)) := by rw [o9 _ nDd]; exact hrow
        refine ⟨_, hrow9, ?_, row ++ [(x : Int)], ?_, ?_, ?_, hD9.turn hD7 nD nDd, ?_⟩
        · rw [List.length_map, hrl]
          exact small8 (by omega)
        · rw [upd_same, List.map_append]
          rfl
        · rw [List.length_append, hrl]
          rfl
        · intro z hz
          rcases List.mem_append.mp hz with hz | hz
          · exact hrx z hz
          · have e : z = (x : Int) := by simpa using hz
            omega
        · intro b o nb e
          have e8 := g8.off o9 b o nb e
          rw [upd_ne (ne_of_none e nD)]
          exact e8
      · rintro H8 ⟨row, hrow, hrl, hrx, hD8, g8⟩
        have hR : GoodRow many row := ⟨hrl.trans er, hrx⟩
        let Mid : L2.St → Hp → Prop := fun σ H9 => ∃ D9 row, σ = [some (.ref d), some (.int (most : Int)), some (.int ((1 : Int) + (r : Int))), some (.int (way : Int)), some (.ref m), some (.int (0 + (i : Int))), some (.ref D9), y7, none] ∧
          H9 D9 = some (.lst (row.map V.int)) ∧ GoodRow many row ∧ Dc K l ns H9 d ∧ Gr d H7 H9
        have mid0 : Mid [some (.ref d), some (.int (most : Int)), some (.int ((1 : Int) + (r : Int))), some (.int (way : Int)), some (.ref m), some (.int (0 + (i : Int))), some (.ref D), y7, none] H8 := ⟨D, row, rfl, hrow, hR, hD8, g8⟩
        refine ⟨Mid, ⟨_, rfl, rfl, _, rfl, ite2 (fun e => ?_) (fun e => mid0)⟩, ?_⟩
        · -- row = sorted(row)
          refine ⟨_, rfl, D, row, rfl, SqL.of hrow, by omega, fun ns' p hp _ np => ?_⟩
          exact ⟨p, ns', rfl, upd_same, perm_row hp hR, hD8.new np, g8.new np⟩
        · rintro σ9 H9 ⟨D9, row9, rfl, hrow9, hR9, hD9, g9⟩
          refine ⟨Mid, ⟨_, rfl, rfl, _, rfl, ite2 (fun e => ?_) (fun e => ⟨D9, row9, rfl, hrow9, hR9, hD9, g9⟩)⟩, ?_⟩
          · -- row = [max(0, min(many - 1, ..)) ..]
            refine ⟨_, rfl, _, rfl, by omega, by omega, fun D' nD' => ?_⟩
            have nDd' : D' ≠ d := hD9.ne nD'
            refine lc_range (lo := 0) (n := ((1 : Int) + (r : Int)).toNat)
              (fun j H' => ∃ row : List Int, H' D' = some (.lst (row.map V.int)) ∧ row.length = j ∧ (∀ x ∈ row, 0 ≤ x ∧ x < (many : Int)) ∧ Dc K l ns H' d ∧ Gr d H9 H')
              ⟨[], upd_same, rfl, (fun _ z => nomatch z), hD9.new nD', (Gr.refl d H9).new nD'⟩ ?_ ?_
            · rintro j H10 hj ⟨row', hrow', hrl', hrx', hD10, g10⟩
              refine ⟨rfl, _, rfl, _, _, rfl, rfl, _, rfl, .ref d, rfl, d, l, ns, _, rfl, hD10, by omega, by omega, fun x H11 hx hD11 o11 => ?_⟩
              refine ⟨_, _, rfl, rfl, _, _, rfl, rfl, _, _, rfl, _, _, rfl, ?_⟩
              have cl := clamp ((1 : Int) + (r : Int) - 1) (0 + (j : Int) + (x : Int) - 1) (by omega)
              generalize (if (if 0 + (j : Int) + (x : Int) - 1 < (1 : Int) + (r : Int) - 1 then 0 + (j : Int) + (x : Int) - 1 else (1 : Int) + (r : Int) - 1) > 0 then
                (if 0 + (j : Int) + (x : Int) - 1 < (1 : Int) + (r : Int) - 1 then 0 + (j : Int) + (x : Int) - 1 else (1 : Int) + (r : Int) - 1) else 0) = z at cl ⊢
              have hrow9 : H11 D' = some (.lst (row'.map V.int)) := by rw [o11 _ nDd']; exact hrow'
              refine ⟨_, hrow9, ?_, row' ++ [z], ?_, ?_, ?_, hD11.turn hD9 nD' nDd', ?_⟩
              · rw [List.length_map, hrl']
                exact small8 (by omega)
              · rw [upd_same, List.map_append]
                rfl
              · rw [List.length_append, hrl']
                rfl
              · intro y hy
                rcases List.mem_append.mp hy with hy | hy
                · exact hrx' y hy
                · have e : y = z := by simpa using hy
                  omega
              · intro b o nb e
                have e8 := g10.off o11 b o nb e
                rw [upd_ne (ne_of_none e nD')]
                exact e8
            · rintro H10 ⟨row', hrow', hrl', hrx', hD10, g10⟩
              exact ⟨D', row', rfl, hrow', ⟨hrl'.trans er, hrx'⟩, hD10, g9.trans g10⟩
          · rintro σ10 H10 ⟨D10, row, rfl, hrow, hR, hD10, g10⟩
            -- weight = [1, 1 + off(d, 4), 1 + off(d, 99)][off(d, 3)]
            have g10' : Gr d H H10 := g7.trans g10
            refine ⟨.ref d, rfl, d, l, ns, _, rfl, hD10, by omega, by omega, fun x1 H11 hx1 hD11 o11 => ?_⟩
            refine ⟨1, x1, rfl, rfl, .ref d, rfl, d, l, ns, _, rfl, hD11, by omega, by omega, fun x2 H12 hx2 hD12 o12 => ?_⟩
            refine ⟨1, x2, rfl, rfl, (by show 3 ≤ sizeLine; decide), fun W nW => ?_⟩
            have hD13 := hD12.new (o := .lst [.int 1, .int (1 + (x1 : Int)), .int (1 + (x2 : Int))]) nW
            have nWd : W ≠ d := hD12.ne nW
            have g13 : Gr d H10 (upd H12 W (.lst [.int 1, .int (1 + (x1 : Int)), .int (1 + (x2 : Int))])) := (((Gr.refl d H10).off o11).off o12).new nW
            have hW13 : (upd H12 W (.lst [.int 1, .int (1 + (x1 : Int)), .int (1 + (x2 : Int))])) W = some (.lst [.int 1, .int (1 + (x1 : Int)), .int (1 + (x2 : Int))]) := upd_same
            refine ⟨.ref d, rfl, d, l, ns, _, rfl, hD13, by omega, by omega, fun x3 H14 hx3 hD14 o14 => ?_⟩
            have hW14 : H14 W = some (.lst [.int 1, .int (1 + (x1 : Int)), .int (1 + (x2 : Int))]) := by rw [o14 _ nWd]; exact hW13
            have g14 : Gr d H10 H14 := g13.off o14
            obtain ⟨wt, hw1, hw9, hw⟩ : ∃ c : Int, 1 ≤ c ∧ c ≤ 99 ∧ ([.int 1, .int (1 + (x1 : Int)), .int (1 + (x2 : Int))] : List V)[x3]? = some (.int c) := by
              have h3 : x3 < 3 := by omega
              match x3, h3 with
              | 0, _ => exact ⟨1, by decide, by decide, rfl⟩
              | 1, _ => exact ⟨1 + (x1 : Int), by omega, by omega, rfl⟩
              | 2, _ => exact ⟨1 + (x2 : Int), by omega, by omega, rfl⟩
            refine ⟨W, _, _, _, rfl, rfl, SqL.of hW14, atI_nat hw, ?_⟩
            -- moves.append((weight, tuple(row)))
            have nm' : ∀ {H'}, Dc K l ns H' d → H' m = H' m := fun _ => rfl
            have hm14 : H14 m = some (.lst ws) := (g10.trans g14) m _ nmd hm7
            have nD10 : D10 ≠ d := hD10.ne_of hrow fun s0 l k big z => by
              injection z with z
              exact map_int_dl z
            have hrow14 : H14 D10 = some (.lst (row.map V.int)) := g14 D10 _ nD10 hrow
            refine ⟨.ref m, rfl, .inl ⟨rfl, _, SqL.of hm14⟩, .int wt, rfl, .ref D10, rfl, D10, _, rfl, .inl ⟨SqL.of hrow14, fun tq ntq => ?_⟩⟩
            refine ⟨by show 2 ≤ sizeLine; decide, fun tp ntp => ?_⟩
            have g16 : Same H14 (upd (upd H14 tq (.tup (row.map V.int))) tp (.tup [.int wt, .ref tq])) := (same_new ntq).trans (same_new ntp)
            have htp : (upd (upd H14 tq (.tup (row.map V.int))) tp (.tup [.int wt, .ref tq])) tp = some (.tup [.int wt, .ref tq]) := upd_same
            have htq : (upd (upd H14 tq (.tup (row.map V.int))) tp (.tup [.int wt, .ref tq])) tq = some (.tup (row.map V.int)) := by
              rw [upd_ne (ne_of_none upd_same ntp)]
              exact upd_same
            have hD16 := hD14.same g16
            generalize (upd (upd H14 tq (.tup (row.map V.int))) tp (.tup [.int wt, .ref tq])) = H16 at g16 htp htq hD16 ⊢
            have hm16 := g16 m _ hm14
            have gt : Gr d H7 H16 := (g10.trans g14).trans (Gr.of_same g16)
            have hM16 : MovesAt H16 ws ms := hM7.same (gt.tups (K := K) hD7)
            have hl := hM16.length
            refine ⟨m, _, _, rfl, rfl, hm16, by rw [hl]; exact small8 (by omega), ?_⟩
            refine ⟨some (.int (0 + (i : Int))), some (.ref D10), some (.int wt), ms ++ [(wt, row)], ws ++ [.ref tp], rfl, hD16.turn hD2 nm nmd, ?_, upd_same, ?_, by rw [List.length_append, hl7]; rfl, ?_⟩
            · intro b o nb e
              by_cases hb : b = m
              · rw [hb] at e nb
                have z := g2 m o nb e
                rw [nm] at z
                cases z
              · rw [upd_ne hb]
                exact (g7.trans gt) b o nb e
            · refine MovesAt.same (H := H16) ?_ (MovesAt.snoc ⟨tp, tq, rfl, htp, htq⟩ hM16)
              intro b xs e
              rw [upd_ne]
              · exact e
              · intro z
                rw [z, hm16] at e
                cases e
            · intro mv hmv
              rcases List.mem_append.mp hmv with hmv | hmv
              · exact hg7 mv hmv
              · have e : mv = (wt, row) := by simpa using hmv
                subst e
                exact ⟨hw1, hw9, hR⟩
    · rintro σ7 H7 ⟨y5, y6, y7, ms, ws, rfl, hD7, g7, hm7, hM7, hl7, hg7⟩
      refine ⟨_, rfl, .ref m, rfl, (by show 2 ≤ sizeLine; decide), fun t nt => ?_⟩
      refine q t m many ws ms _ ⟨by omega, by omega, by omega, by omega, hg7⟩ (by omega) ⟨?_, same_new nt _ _ hm7, hM7.same (Same.tups (same_new nt))⟩ (hD7.new nt) (g7.new nt)
      rw [← em2]
      exact upd_same
end
end
/-! ### all(x in range(y) for x in a tuple of ints): a rule of our own -/
/-- the element: x in range(y), y a captured int -/
def eltR (x y : Str) (p1 p2 p3 p4 p5 : Pos) : Expr := .Compare (.Name x p1) [.In] [.Call (.Name "range" p2) [.Name y p3] [] p4] p5
def inR (n z : Int) : Bool := decide (0 ≤ z ∧ z < n)
theorem elt_range {prog : Program} {w : World} {cenv : Env} {A : Around} {E : Value → Shared → Prop} {x y : Str} {p1 p2 p3 p4 p5 : Pos} {s : Shared} {m mg mb : Str → Option Value} {cc : Addr} {z n : Int} {t u : Tok}
    (kf : cenv.scope.kind = .function) (kx : cenv.kindOf x = some .local) (ky : cenv.kindOf y = some .free) (kr : cenv.kindOf "range" = some .globalImplicit) (hm : s.heap.Ns cenv.locals m) (ex : m x = some (.int z t))
    (hc : cenv.cells.lookup y = some cc) (ec : s.heap.IsCell cc (some (.int n u))) (hg : s.heap.Ns cenv.globals mg) (nr : mg "range" = none) (hb : s.heap.Ns cenv.builtins mb) (br : mb "range" = some (.type "range"))
    (dx : (x == ("__debug__" : Str)) = false) (dy : (y == ("__debug__" : Str)) = false) (cy : (y == ("__classdict__" : Str)) = false) :
    wpAny (model prog w) A (eval (eltR x y p1 p2 p3 p4 p5) cenv) (fun v s' => v = .bool (inR n z) ∧ Keeps s s') E s := by
  refine wpAny_Compare1 (wpAny_Name (wpAny_loadName_local kf kx hm ex ?_) dx) (by rfl)
  refine wpAny_Call_Name_kw (Calls.Name_function_global kf kr (Calls.loadGlobal_builtin hg nr hb br ?_) (by decide))
  refine PyProof.Rows.callWith_type1 (Calls.spliced_cons (wpAny_Name (wpAny_loadName_free kf ky hc ec ?_ cy) dy)) (by rfl) (by rfl)
  refine Calls.spliced_nil (call_range_1 ?_)
  have ho := Heap.get?_push_size s.heap (o := { cls := .type "range", data := .fields #[.int 0 s.toks, .int n u, .int 1 (s.toks + 1)] }) rfl
  show wpAny _ _ (do return Value.bool (← contains (Value.ref s.heap.objs.size) (Value.int z t))) _ _ _
  refine wpAny_bind (wpAny_contains_slot (T := "range") ⟨_, ho, rfl⟩ F.slot_range_contains (call_meets F.slot_range_contains ⟨_, ho, rfl⟩ F.entry_range_contains (F.args_range_contains_2 _ _) (q_contains s.heap.objs.size 0 n z s.toks u (s.toks + 1) t) ⟨ho, ?_⟩))
  refine wpAny_truthy_bool (wpAny_pure ⟨?_, _, _, rfl, fun b o e => Heap.get?_push_of_some _ e⟩)
  rw [place1]
  rfl
open GxR in
/-- the walk that all(..) makes, once the generator stands at g -/
def AllReady (X : Cx) (pins : List (Addr × Obj)) (σ : L2.St) (H1 : Hp) (P : Addr) (bs : List Bool) (g : Addr) (s5 : Shared) : Prop :=
  ∃ (fp wr : List Addr) (G : Array GenState → Array GenState → Prop) (F : Nat → Value → Prop) (St : Nat → Shared → Prop) (tr : Nat → Bool),
    WalksS X.prog X.w X.A.in1 g fp wr G bs.length F St ∧ St 0 s5 ∧ TruthOf X.prog X.w X.A.in1 F tr ∧ (∀ j b, bs[j]? = some b → tr j = b) ∧
    ∀ s', Moved wr G s5 s' → ∃ H2, Tabbed P H1 H2 ∧ Inv X pins σ H2 s'
theorem clo_one {cells : List (Str × Addr)} : ∀ (names : List (Str × NameKind)) (acc : List (Str × Addr)) (y : Str) (cc : Addr), (∀ p ∈ names, p.2 = .free → cells.lookup p.1 = some ((cells.lookup p.1).getD 0)) → cells.lookup y = some cc →
    ((y, NameKind.free) ∈ names ∨ acc.lookup y = some cc) → (cloFrom cells names acc).lookup y = some cc := by
  intro names
  induction names with
  | nil =>
    intro acc y cc _ _ h
    rcases h with h | h
    · cases h
    · exact h
  | cons p r ih =>
    intro acc y cc hf hy h
    obtain ⟨n, kd⟩ := p
    unfold cloFrom
    have hf' : ∀ p ∈ r, p.2 = .free → cells.lookup p.1 = some ((cells.lookup p.1).getD 0) := fun p hp => hf p (List.mem_cons_of_mem _ hp)
    by_cases hk : (kd == NameKind.free) = true
    · rw [if_pos hk]
      refine ih _ y cc hf' hy ?_
      by_cases hn : y = n
      · subst hn
        refine .inr ?_
        rw [List.lookup_cons_self, hy]
        rfl
      · rcases h with h | h
        · rcases List.mem_cons.mp h with e | e
          · injection e with e1 _
            exact absurd e1 hn
          · exact .inl e
        · refine .inr ?_
          rw [List.lookup_cons, show (y == n) = false from by simpa using hn]
          exact h
    · rw [if_neg hk]
      refine ih _ y cc hf' hy ?_
      rcases h with h | h
      · rcases List.mem_cons.mp h with e | e
        · injection e with _ e2
          exact absurd (by rw [← e2]; rfl) hk
        · exact .inl e
      · exact .inr h
/-- the generator's code object: there already, or made and put into the table -/
theorem gen_code {M : Model} {A : Around} {env : Env} {c P : Addr} {gpos : Pos} {q : Str} {scope : Scope} {E : Value → Shared → Prop} {Q : Value → Shared → Prop} {s : Shared} {ps : Array Value} (hcode : env.code = .ref c) (cd : PySem.W.CodeHd s.heap c P)
    (hP : s.heap.get? P = some { cls := .none, data := .fields ps }) (ht : TriplesOk ps.toList)
    (h : ∀ (code : Value) (h3 : Heap) (tk : Nat) (more : Array Value), Heap.ExtBut P s.heap h3 → s.heap.objs.size ≤ h3.objs.size → h3.get? P = some { cls := .none, data := .fields (ps ++ more) } → TriplesOk (ps ++ more).toList → Q code { s with heap := h3, toks := tk }) :
    wpAny M A (genexprCode env gpos q scope) Q E s := by
  match hf : codeAmong gpos ps.toList with
  | some cv => exact wpAny_genexprCode_hit hcode (cd.code hP ht) hf (h cv s.heap s.toks #[] (Heap.ExtBut.refl _ _) (Nat.le_refl _) (by rw [Array.append_empty]; exact hP) (by rw [Array.append_empty]; exact ht))
  | none =>
    refine wpAny_genexprCodeX hcode (cd.code hP ht) (cd.tab hP) hf fun c' h' tk hx hge hlt hco _ htab _ => h _ h' tk _ hx (Nat.le_trans hge (Nat.le_of_lt hlt)) htab.2 ?_
    obtain ⟨_, _, _, _, _, _, _, _, _, _, _, _, _, _, _, _, _, _, _, htr, _⟩ := hco
    exact htr
section
variable {X : Cx} {pins : List (Addr × Obj)} {σ : L2.St} {H : Hp} {s : Shared}
open GxR in
theorem gen_range {c P : Addr} {iter : Expr} {x y : Str} {px gpos p1 p2 p3 p4 p5 : Pos} {scope : Scope} {te : TE} {k i : Nat} {Q' : Value → Shared → Prop} {R : List Int → Int → Hp → Prop}
    (hr : Room k X.A) (TB : TabB X.base X.mg c P) (hcode : X.env.code = .ref c) (S : GenS X.env scope x) (hi : PE X iter te) (hy : X.N[i]? = some y) (vy : X.env.kindOf y = some .cell) (fy : (y, NameKind.free) ∈ scope.names) (ly : scope.names.lookup y = some .free)
    (lr : scope.names.lookup ("range" : Str) = some .globalImplicit) (nr : X.mg "range" = none) (dx : (x == ("__debug__" : Str)) = false) (dy : (y == ("__debug__" : Str)) = false) (cy : (y == ("__classdict__" : Str)) = false)
    (hs : ∀ v, genFold iter X.env v = pure v) (I : Inv X pins σ H s) (h : te σ H fun v H1 => ∃ (a : Addr) (ns : List Int) (n : Int), v = .ref a ∧ SqT X.K H1 a (ns.map V.int) ∧ TabG H1 P ∧ σ[i]? = some (some (.int n)) ∧ R ns n H1)
    (hQ : ∀ ns n H1 g s5, R ns n H1 → AllReady X pins σ H1 P (ns.map (inR n)) g s5 → Q' (.ref g) s5) :
    wpAny (model X.prog X.w) X.A (eval (.GeneratorExp (eltR x y p1 p2 p3 p4 p5) [⟨.Name x px, iter, [], 0⟩] scope gpos) X.env) Q' X.xe s := by
  refine wpAny_GeneratorExp_walksQ hr.hd S.co (closure_ok S.free) S.cell S.dot S.loc S.kind (by have := hr.dp; omega) ?_ hs
  refine thn (hi.run pins s σ H _ I h) fun xv s1 ⟨v, H1, I1, r1, a, ns, n, ev, hT, hTab, hn, hR⟩ => ?_
  subst ev
  obtain rfl : xv = Value.ref a := r1
  obtain ⟨its, rv, hTup, hz⟩ := I1.tuple hT
  have tupAt : s1.heap.IsTuple a its.toArray := hTup
  -- the captured int
  obtain ⟨cc, u, hcc, hcell⟩ : ∃ (cc : Addr) (u : Tok), X.env.cells.lookup y = some cc ∧ s1.heap.IsCell cc (some (.int n u)) := by
    obtain ⟨m, _, hl⟩ := I1.loc
    obtain ⟨uv, ru, lk⟩ := hl i y (.int n) hy hn (.inr (.inl vy))
    obtain ⟨u, eu⟩ := ru
    subst eu
    rcases lk with ⟨k1, _⟩ | ⟨_, cc, e1, e2⟩
    · rw [vy] at k1
      cases k1
    · exact ⟨cc, u, e1, e2⟩
  obtain ⟨mb, bb1, bb2⟩ := I1.mod.blt
  have lenI : its.toArray.size = ns.length := by
    have e := rv.length
    rw [List.length_map] at e
    simp only [List.size_toArray]
    omega
  obtain ⟨ps, hP, hps⟩ := hTab
  refine wpAny_pyIter_tuple tupAt ?_
  -- it: the iterator's object
  let it : Obj := { cls := .type "tuple_iterator", data := .fields #[.ref a, .int 0 0] }
  have atP : s1.heap.get? P = some { cls := .none, data := .fields ps } := I1.hok P _ hP
  have ltP : P < s1.heap.objs.size := Heap.lt_size atP
  have limI : (s1.heap.push it).NoLimit := I1.nolimit.push it
  have keepI : ∀ b o, s1.heap.get? b = some o → (s1.heap.push it).get? b = some o := fun b o e => Heap.get?_push_of_some _ e
  have codeI : PySem.W.CodeHd (s1.heap.push it) c P := TB.code.keeps fun b o e => keepI b o (I1.bk b o e)
  have ltS : cStatics < s1.heap.objs.size := let ⟨_, q, _⟩ := I1.nolimit; q.lt
  have neS : cStatics ≠ P := fun e => by
    obtain ⟨_, ⟨o', es, ep, g1, g2, _⟩, _⟩ := I1.nolimit
    rw [e, atP] at g1
    cases g1
    cases g2
  have szI : (s1.heap.push it).objs.size = s1.heap.objs.size + 1 := Heap.size_push ..
  have iterI : (s1.heap.push it).IsTupleIter s1.heap.objs.size a 0 := ⟨_, Heap.get?_push_size _ rfl, rfl, rfl⟩
  have tupI : (s1.heap.push it).IsTuple a its.toArray := by
    obtain ⟨o, e, r⟩ := tupAt
    exact ⟨o, keepI _ _ e, r⟩
  have neIt : a ≠ s1.heap.objs.size := by
    obtain ⟨o, e, _⟩ := tupAt
    exact Nat.ne_of_lt (Heap.lt_size e)
  have neAP : a ≠ P := fun e => by
    obtain ⟨o, g, _, nn, dd⟩ := tupAt
    rw [e, atP] at g
    cases g
    cases dd
  have Wk : ∀ A' : Around, A'.handled = none → Walks X.prog X.w A' s1.heap.objs.size [s1.heap.objs.size, a] [s1.heap.objs.size] its.toArray.size (fun j v => its.toArray[j]? = some v) (fun j hp => hp.IsTupleIter s1.heap.objs.size a j ∧ hp.IsTuple a its.toArray) :=
    fun A' hA => Walks.tuple hA s1.heap.objs.size a neIt its.toArray
  refine ⟨limI, gen_code hcode codeI (keepI _ _ atP) hps fun code h3 tk more hx hge hP3 ht3 => ?_⟩
  have hge2 : s1.heap.objs.size + 1 ≤ h3.objs.size := by
    rw [← szI]
    exact hge
  have keep3 : ∀ b o, b ≠ P → s1.heap.get? b = some o → h3.get? b = some o := fun b o nb e => hx b o nb (keepI b o e)
  obtain ⟨bm, ob, f1, f2, f3, f4, f5, f6, f7, f8⟩ := TB.bm
  have glob3 : h3.Ns X.env.globals X.mg := by
    rw [I1.ok.glob]
    exact ((I1.mod.glob.keeps I1.bk).push it).extBut hx TB.gP
  refine wpAny_builtinsFor (m := X.mg) glob3 f1 f2 (keep3 _ _ f4 (I1.bk _ _ f5)) f6 f7 f8 ?_
  refine ⟨s1.heap.objs.size, [s1.heap.objs.size, a], [s1.heap.objs.size], its.toArray.size, fun j v => its.toArray[j]? = some v, _, fun _ => true, fun j v => ∃ z, ns[j]? = some z ∧ v = .bool (inR n z), rfl, Wk, ?_, ?_, limI.extBut hx neS, ?_, ?_, ?_⟩
  · refine ⟨?_, ?_⟩
    · obtain ⟨o, e, r⟩ := iterI
      exact ⟨o, hx _ _ (Nat.ne_of_gt ltP) e, r⟩
    · obtain ⟨o, e, r⟩ := tupI
      exact ⟨o, hx _ _ neAP e, r⟩
  · intro b hb
    show b < h3.objs.size
    rcases List.mem_cons.mp hb with e | e
    · rw [e]
      exact Nat.lt_of_succ_le hge2
    · have e2 : b = a := by simpa using e
      obtain ⟨o, g, _⟩ := tupAt
      have lta := Heap.lt_size g
      rw [e2]
      exact Nat.lt_of_lt_of_le lta (by omega)
  · intro hmem
    have e : cStatics = s1.heap.objs.size := by simpa using hmem
    rw [e] at ltS
    exact Nat.lt_irrefl _ ltS
  · intro href hhref
    refine ⟨fun A' E' j v s₂ m₂ hA hPv ha2 hb2 hk => ?_, fun A' E' j v s₂ m₂ hA hPv _ ha2 hb2 hk => ?_⟩
    · simp only [List.forIn_nil]
      exact wpAny_pure ⟨rfl, s₂.heap, s₂.toks, rfl, fun _ _ e => e⟩
    · -- what stood ahead of the generator stands
      have old : ∀ b o, b ≠ P → s1.heap.get? b = some o → s₂.heap.get? b = some o := fun b o nb e => by
        refine hk b (List.mem_range.mpr ?_) (fun z => ?_) o (hhref b o (keep3 b o nb e))
        · exact Nat.lt_of_lt_of_le (Heap.lt_size e) (by show s1.heap.objs.size ≤ h3.objs.size; omega)
        · have e2 : b = s1.heap.objs.size := by simpa using z
          exact Nat.ne_of_lt (Heap.lt_size e) e2
      have nPb : ∀ b o, X.base.get? b = some o → b ≠ P := fun b o e z => by
        have q := (I1.bs b o e).2
        rw [z, hP] at q
        cases q
      have hjv : its[j]? = some v := by simpa using hPv
      obtain ⟨zv, ez, rz⟩ : ∃ z, ns[j]? = some z ∧ RelV (.int z) v := by
        have hj : j < ns.length := by
          obtain ⟨h, _⟩ := List.getElem?_eq_some_iff.mp hjv
          simpa [lenI] using (show j < its.toArray.size by simpa using h)
        obtain ⟨uu, g1, g2⟩ := rv.get (i := j) (x := .int ns[j]) (by rw [List.getElem?_map, List.getElem?_eq_getElem hj]; rfl)
        rw [hjv] at g1
        cases g1
        exact ⟨_, List.getElem?_eq_getElem hj, g2⟩
      obtain ⟨tz, rfl⟩ := rz
      have cellS : s₂.heap.IsCell cc (some (.int n u)) := by
        obtain ⟨o, e, d⟩ := hcell
        refine ⟨o, old _ _ (fun z => ?_) e, d⟩
        rw [z, atP] at e
        cases e
        cases d
      have gS : s₂.heap.Ns mainGlobals X.mg := by
        obtain ⟨o, es, ep, e, r⟩ := I1.mod.glob
        exact ⟨o, es, ep, old _ _ (nPb _ _ e) (I1.bk _ _ e), r⟩
      have bS : s₂.heap.Ns builtinsNs mb := by
        obtain ⟨o, es, ep, e, r⟩ := bb1
        exact ⟨o, es, ep, old _ _ (nPb _ _ e) (I1.bk _ _ e), r⟩
      have hclo : (cloFrom X.env.cells scope.names []).lookup y = some cc := clo_one _ _ _ _ (fun p hp hf => by
        obtain ⟨c', ec'⟩ := S.free p hp hf
        rw [ec']
        rfl) hcc (.inl fy)
      refine thn (elt_range (x := x) (y := y) S.kind S.loc ly lr ha2 hb2 hclo cellS (mg := X.mg) (by show s₂.heap.Ns X.env.globals X.mg; rw [I1.ok.glob]; exact gS) nr bS ((bb2 "range" (by decide)).trans (by decide +kernel)) dx dy cy) fun v' s3 hv => ⟨⟨zv, ez, hv.1⟩, hv.2⟩
  · intro g h5 tk5 gs hbare hag hsz5 hk5 W5 hat
    have e0 : passing (fun _ => true) its.toArray.size 0 = List.range its.toArray.size := GxR.passing_true _
    rw [e0] at W5
    rw [List.length_range, lenI] at W5
    have oldA : ∀ b o, s1.heap.get? b = some o → b ∉ h3.objs.size :: [s1.heap.objs.size] := fun b o e hb => by
      have l0 := Heap.lt_size e
      rcases List.mem_cons.mp hb with z | z
      · rw [z] at l0
        exact absurd (Nat.lt_of_lt_of_le l0 (Nat.le_of_succ_le hge2)) (Nat.lt_irrefl _)
      · have z2 : b = s1.heap.objs.size := by simpa using z
        exact Nat.ne_of_lt l0 z2
    have W6 := W5.in4_1
    rw [show ns.length = (ns.map (inR n)).length from (List.length_map _).symm] at W6
    rw [lenI, show ns.length = (ns.map (inR n)).length from (List.length_map _).symm] at hat
    refine hQ ns n H1 g _ hR ⟨_, _, _, _, _, fun j => (ns.map (inR n)).getD j false, W6, hat, ?_, fun j b hb => by show (ns.map (inR n)).getD j false = b; rw [List.getD_eq_getElem?_getD, hb]; rfl, fun s' hm => ?_⟩
    · intro j yv sj Qj Ej hy hQj
      obtain ⟨i', hij, z, hz', rfl⟩ := hy
      obtain ⟨hj, ej⟩ := List.getElem?_eq_some_iff.mp hij
      rw [List.getElem_range] at ej
      subst ej
      refine wpAny_truthy_bool ?_
      have eb : (ns.map (inR n)).getD j false = inR n z := by
        rw [List.getD_eq_getElem?_getD, List.getElem?_map, hz']
        rfl
      have hQj' : Qj ((ns.map (inR n)).getD j false) sj := hQj
      rw [eb] at hQj'
      exact hQj'
    · have J := inv_tab (more := more) (h' := s'.heap) (g' := s'.gens) (d' := s'.drawn) (t' := s'.toks) I1 hP (fun b o nb e => hm.heap b o (oldA b o e) (hk5 b o (keep3 b o nb e))) (hm.heap P _ (oldA P _ atP) (hk5 P _ hP3)) (AllBare.movedS (I1.bare.push hbare) hm)
      rw [sh_eta s1 s' hm.os] at J
      exact ⟨upd H1 P (.tbl (ps ++ more)), ⟨⟨ps ++ more, upd_same, ht3⟩, fun b hb => upd_ne hb⟩, J⟩
/-- all(x in range(y) for x in e): e a tuple of ints, y an int in slot i -/
def tAllR (K : PySem.W.Frag) (P : Addr) (i : Nat) (te : TE) : TE := fun σ H Q => te σ H fun v H1 => ∃ (a : Addr) (ns : List Int) (n : Int), v = .ref a ∧ SqT K H1 a (ns.map V.int) ∧ GxR.TabG H1 P ∧ σ[i]? = some (some (.int n)) ∧
  ∀ H2, GxR.Tabbed P H1 H2 → Q (.bl (ns.all (inR n))) H2
theorem all_tr : ∀ (bs : List Bool) (tr : Nat → Bool), (∀ j b, bs[j]? = some b → tr j = b) → (List.range bs.length).all tr = bs.all id := by
  intro bs tr h
  rw [Bool.eq_iff_iff, List.all_eq_true, List.all_eq_true]
  constructor
  · intro g b hb
    obtain ⟨j, hj, e⟩ := List.getElem_of_mem hb
    have q := g j (List.mem_range.mpr hj)
    rw [h j b (by rw [List.getElem?_eq_getElem hj, e])] at q
    exact q
  · intro g j hj
    have hj' := List.mem_range.mp hj
    rw [h j bs[j] (List.getElem?_eq_getElem hj')]
    exact g _ (List.getElem_mem hj')
theorem pe_allR {c P : Addr} {iter : Expr} {x y : Str} {px p pos gpos p1 p2 p3 p4 p5 : Pos} {scope : Scope} {te : TE} {k i : Nat}
    (hr : Room k X.A) (hg : Gl X "all") (hm : X.mg "all" = none) (TB : GxR.TabB X.base X.mg c P) (hcode : X.env.code = .ref c) (S : GxR.GenS X.env scope x) (hi : PE X iter te) (hy : X.N[i]? = some y) (vy : X.env.kindOf y = some .cell) (fy : (y, NameKind.free) ∈ scope.names) (ly : scope.names.lookup y = some .free)
    (lr : scope.names.lookup ("range" : Str) = some .globalImplicit) (nr : X.mg "range" = none) (dx : (x == ("__debug__" : Str)) = false) (dy : (y == ("__debug__" : Str)) = false) (cy : (y == ("__classdict__" : Str)) = false)
    (hs : ∀ v, genFold iter X.env v = pure v)
    (he : starEach [.GeneratorExp (eltR x y p1 p2 p3 p4 p5) [⟨.Name x px, iter, [], 0⟩] scope gpos] X.env = (false, eval (.GeneratorExp (eltR x y p1 p2 p3 p4 p5) [⟨.Name x px, iter, [], 0⟩] scope gpos) X.env) :: starEach [] X.env := by rfl) :
    PE X (.Call (.Name "all" p) [.GeneratorExp (eltR x y p1 p2 p3 p4 p5) [⟨.Name x px, iter, [], 0⟩] scope gpos] [] pos) (tAllR X.K P i te) := by
  refine ⟨fun pins s σ H Q I h => wpAny_Call_Name_kw (ld_blt I hg hm (by decide +kernel) (PyProof.Rows.callWith_builtin1 (id := "all") ?_ he (by rfl)))⟩
  rw [he]
  show wpAny _ _ (spliced (_ :: backTo pos (starEach [] X.env))) _ _ s
  refine Calls.spliced_cons (gen_range (R := fun ns n H1 => ∀ H2, GxR.Tabbed P H1 H2 → Q (.bl (ns.all (inR n))) H2) hr TB hcode S hi hy vy fy ly lr nr dx dy cy hs I h fun ns n H1 g s5 hR ⟨fp, wr, G, F, St', tr, W, hst, htr, hb, hI⟩ => Calls.spliced_nil ?_)
  refine call_all_walkS (W.self 0 _ _ _ hst ⟨g, fp, wr, G, _, F, St', _, rfl, W, hst, htr, fun s' hmv => ?_⟩)
  obtain ⟨H2, hT, J⟩ := hI s' hmv
  refine ⟨.bl _, H2, J, rfl, ?_⟩
  rw [all_tr _ tr hb, List.all_map]
  exact hR H2 hT
end
/-! ### a def of the text whose code object is known -/
structure FunT (K : PySem.W.Frag) (x qual : Str) (st : Stmt) (f : Addr) (fd : FuncData) (c : Addr) : Prop where
  ex : ∃ (oc : Value) (od : Option Addr) (kV doc pm : Value) (an : Option Addr) (ct : Value) (osl : Array (Option Value)),
    fd = PySem.W.fnOf x qual (defArgs st) (defBody st) (defScope st) .none kV doc pm an (.ref c) ct ∧ K.lookup f = some ⟨oc, od, .func fd, osl⟩ ∧ PySem.W.codeIn K (.ref c) qual = true
  kp : PySem.W.keepIn K (.ref f) = true
/-- x not in range(..) -/
theorem op_notIn_rng {X : Cx} : OpR X (compareOp .NotIn) (fun x y H Q => ∃ i a lo hi, x = V.int i ∧ y = V.ref a ∧ H a = some (.rng lo hi) ∧ Q (.bl (!decide (lo ≤ i ∧ i < hi))) H) := by
  intro pins s σ H x y v u Q I rx ry ⟨i, a, lo, hi, ex, ey, ha, q⟩
  subst ex ey
  obtain ⟨k, rfl⟩ := rx
  have e2 : u = Value.ref a := ry
  subst e2
  obtain ⟨t1, t2, t3, ho⟩ := I.hok a _ ha
  show wpAny _ _ (do return Value.bool (!(← contains (Value.ref a) (Value.int i k)))) _ _ s
  refine wpAny_bind (wpAny_contains_slot (T := "range") ⟨_, ho, rfl⟩ F.slot_range_contains (call_meets F.slot_range_contains ⟨_, ho, rfl⟩ F.entry_range_contains (F.args_range_contains_2 _ _) (q_contains a lo hi i t1 t2 t3 k) ⟨ho, wpAny_truthy_bool ?_⟩))
  refine wpAny_pure ⟨.bl _, H, I, rfl, ?_⟩
  rw [place1]
  exact q
section
variable {P : Program} {w : World} {K : PySem.W.Frag} {mg : Str → Option Value} {base : Heap}
/-! ### _is_move -/
theorem scIsMove : FnScope ["many", "move", "weight", "whither"] ["many", "move"] (defScope sIsMove) := ⟨rfl, rfl, rfl, by decide +kernel, rfl, by decide +kernel, by decide +kernel⟩
def isMv (many : Int) (m : Mv) : Bool := decide (1 ≤ m.1 ∧ m.1 < 100) && decide ((m.2.length : Int) = many) && m.2.all (inR many)
def spIsMove (T : Addr) : Sp := fun vs H Q _ => ∃ (many : Int) (v : V) (m : Mv), vs = [.int many, v] ∧ MoveAt H v m ∧ GxR.TabG H T ∧ ∀ H', Gr T H H' → GxR.TabG H' T → Q (.bl (isMv many m)) H'
/-- the program's names that a chain leans on -/
structure ChTxt (K : PySem.W.Frag) (mg : Str → Option Value) (fM cM tM : Addr) (fdM : FuncData) (C fI : Addr) (fdI : FuncData) : Prop where
  FM : FunT K "_is_move" "_is_move" sIsMove fM fdM cM
  bM : Binds K fdM ["many", "move"] []
  gM : mg "_is_move" = some (.ref fM)
  FI : Fun K "__init__" "Chain.__init__" (inClass cChain 0) fI fdI
  bI : Binds K fdI ["self", "many", "moves"] []
  mC : Mk K C fI
  cl : Cls K C
  nM : NoAttr K C "_many"
  nV : NoAttr K C "_moves"
  gC : mg "Chain" = some (.ref C)
  gP : ∃ t, mg "MOST_PLACES" = some (.int 6 t)
  gV : ∃ t, mg "MOST_MOVES" = some (.int 8 t)
  gW : ∃ t, mg "MOST_WEIGHT" = some (.int 99 t)
  ml : mg "len" = none
  mi : mg "isinstance" = none
  mt : mg "tuple" = none
  mr : mg "range" = none
  ma : mg "all" = none
  me : mg "enumerate" = none
  mL : mg "list" = none
section
variable {fM cM tM : Addr} {fdM : FuncData} {C fI : Addr} {fdI : FuncData}
theorem genS_move {L f : Addr} {cdv : Value} {scope : Scope} (hs : scope.names = [((".0" : Str), .local), (("place" : Str), .local), (("many" : Str), .free), (("range" : Str), .globalImplicit)]) (hk : scope.kind = .function) (hc : scope.isCoroutine = false) (ha : (envOfC "_is_move" (defScope sIsMove) L f cdv).cells.lookup ("many" : Str) ≠ none) :
    GxR.GenS (envOfC "_is_move" (defScope sIsMove) L f cdv) scope "place" := by
  refine ⟨hk, hc, ?_, ?_, ?_, ?_⟩
  · rw [hs]
    decide +kernel
  · rw [hs]
    decide +kernel
  · rw [hs]
    decide +kernel
  · intro y hy hf
    rw [hs] at hy
    have e : y.1 = ("many" : Str) := by
      rcases List.mem_cons.mp hy with e | hy
      · rw [e] at hf
        cases hf
      rcases List.mem_cons.mp hy with e | hy
      · rw [e] at hf
        cases hf
      rcases List.mem_cons.mp hy with e | hy
      · rw [e]
      rcases List.mem_cons.mp hy with e | hy
      · rw [e] at hf
        cases hf
      · cases hy
    rw [e]
    cases q : (envOfC "_is_move" (defScope sIsMove) L f cdv).cells.lookup ("many" : Str) with
    | none => exact absurd q ha
    | some c => exact ⟨c, rfl⟩
theorem ok_ismove (T : ChTxt K mg fM cM tM fdM C fI fdI) (TB : GxR.TabB base mg cM tM) : FnOk P w K mg base CX0 1 fM fdM ["many", "move"] (spIsMove tM) := by
  obtain ⟨oc, od, kV, doc, pm, an, ct, osl, efd, lk, hcd⟩ := T.FM.ex
  subst efd
  obtain ⟨tw, gW⟩ := T.gW
  refine fn_of (N := ["many", "move", "weight", "whither"]) lk hcd scIsMove (fun vs H Q E h => ?_) (fun A outer s H vs Q E hr h => ?_)
  · obtain ⟨many, v, m, rfl, _⟩ := h
    rfl
  · obtain ⟨many, v, m, rfl, ⟨a, b, rfl, ha, hb⟩, hTab, q⟩ := h
    refine ⟨_, pss_cons (ps_if (PW.pt (pw_or (pt_not (pt_val (pe_callB RZ.call_isTy (by rfl) T.mi (by decide +kernel) (pa_cons (pv 1) (pa_cons (pe_bltn (v := .ty "tuple") (by rfl) T.mt (by decide +kernel) rfl) pa_nil)))))
          (pw_or1 (pt_cmpR op_ne (pe_callB call_len_seq (by rfl) T.ml PySem.boot_len (pa_cons (pv 1) pa_nil)) pe_int (nomark _))))) (pss_one (ps_ret pe_bl)) pss_nil)
      (pss_cons (ps_asg (pv 1) (pg_tup rfl (pgs_cons (pg_name (i := 2) scIsMove.nd rfl (.inl rfl)) (pgs_cons (pg_name (i := 3) scIsMove.nd rfl (.inl rfl)) pgs_nil))))
      (pss_cons (ps_if (pt_cmpR op_notIn_rng (pv 2) (pe_callTy cr_range2 (by rfl) T.mr (by decide +kernel) (pa_cons pe_int (pa_cons (pe_op op_add (pe_glob (v := .int 99) (by rfl) gW ⟨_, rfl⟩) pe_int) pa_nil))) rfl) (pss_one (ps_ret pe_bl)) pss_nil)
      (pss_cons (ps_if (PW.pt (pw_or (pt_not (pt_val (pe_callB RZ.call_isTy (by rfl) T.mi (by decide +kernel) (pa_cons (pv 3) (pa_cons (pe_bltn (v := .ty "tuple") (by rfl) T.mt (by decide +kernel) rfl) pa_nil)))))
          (pw_or1 (pt_cmpR op_ne (pe_callB call_len_seq (by rfl) T.ml PySem.boot_len (pa_cons (pv 3) pa_nil)) (pv 0) (nomark _))))) (pss_one (ps_ret pe_bl)) pss_nil)
      (pss_one (ps_ret (pe_allR (k := 0) (x := "place") (y := "many") (i := 0) hr (by rfl) T.ma TB rfl (genS_move (by rfl) rfl rfl ?hcell) (pv 3) rfl rfl (by decide +kernel) (by decide +kernel) (by decide +kernel) T.mr (by decide) (by decide) (by decide) (fun _ => rfl) (by rfl))))))), ?_⟩
    case hcell =>
      intro z
      have q : ((envOfC "_is_move" (defScope sIsMove) s.heap.objs.size fM (.ref cM)).cells.lookup ("many" : Str)).isSome = true := PySem.W.cellsFrom_some _ _ _ (.inl (by decide +kernel))
      rw [z] at q
      cases q
    have neT : ∀ {p : Addr}, H p = none → p ≠ tM := fun np z => by
      obtain ⟨ps, e, _⟩ := hTab
      rw [z, e] at np
      cases np
    refine ⟨.ref a, rfl, .ref a, "tuple", rfl, .tup ha, true, rfl, ?_⟩
    refine ⟨.ref a, rfl, a, _, rfl, .inr (SqT.of ha), rfl, _, rfl, iteNS rfl ?_⟩
    refine ⟨.ref a, rfl, a, _, rfl, SqT.of ha, rfl, .int m.1, [.ref b], rfl, .ref b, [], rfl, rfl, ?_⟩
    refine ⟨.int m.1, rfl, 99, 1, rfl, rfl, 1, 100, rfl, fun r nr => ⟨m.1, r, 1, 100, rfl, rfl, upd_same, _, rfl, ?_⟩⟩
    have g1 : Same H (upd H r (.rng 1 100)) := same_new nr
    have tab1 : GxR.TabG (upd H r (.rng 1 100)) tM := by
      obtain ⟨ps, e, t⟩ := hTab
      exact ⟨ps, g1 _ _ e, t⟩
    have hb1 := g1 _ _ hb
    by_cases h1 : 1 ≤ m.1 ∧ m.1 < 100
    · refine iteNS h1 ?_
      refine ⟨.ref b, rfl, .ref b, "tuple", rfl, .tup hb1, true, rfl, ?_⟩
      refine ⟨.ref b, rfl, b, _, rfl, .inr (SqT.of hb1), .int many, rfl, rfl, _, rfl, ?_⟩
      by_cases h2 : (((m.2.map V.int).length : Nat) : Int) = many
      · refine iteNS (congrArg V.int h2) ?_
        refine ⟨.ref b, rfl, b, m.2, many, rfl, SqT.of hb1, tab1, rfl, fun H2 ⟨t2, k2⟩ => ?_⟩
        have e : isMv many m = m.2.all (inR many) := by
          unfold isMv
          rw [List.length_map] at h2
          rw [decide_eq_true h1, decide_eq_true h2, Bool.true_and, Bool.true_and]
        have q2 := q H2 (fun x o nx ex => by rw [k2 x nx]; exact g1 _ _ ex) t2
        rw [e] at q2
        exact q2
      · have e : isMv many m = false := by
          unfold isMv
          rw [List.length_map] at h2
          rw [decide_eq_false h2, Bool.and_false, Bool.false_and]
        have q2 := q _ (Gr.of_same g1) tab1
        rw [e] at q2
        have h3 : ¬ V.int (((m.2.map V.int).length : Nat) : Int) = V.int many := fun z => h2 (V.int.inj z)
        show if (!decide (V.int (((m.2.map V.int).length : Nat) : Int) = V.int many)) = true then _ else _
        rw [decide_eq_false h3]
        exact q2
    · have e : isMv many m = false := by
        unfold isMv
        rw [decide_eq_false h1, Bool.false_and, Bool.false_and]
      have q2 := q _ (Gr.of_same g1) tab1
      rw [e] at q2
      rw [decide_eq_false h1]
      exact q2
end
end
def rLenSq (K : PySem.W.Frag) : List V → Hp → VK → Prop := fun xs H Q => ∃ p ys, xs = [V.ref p] ∧ (SqL K H p ys ∨ SqT K H p ys) ∧ Q (.int ((ys.length : Nat) : Int)) H
section
variable {P : Program} {w : World} {K : PySem.W.Frag} {mg : Str → Option Value} {base : Heap}
variable {fM cM tM : Addr} {fdM : FuncData} {C fI : Addr} {fdI : FuncData}
/-! ### class Chain -/
theorem scInit : FnScope ["self", "many", "moves", "number", "move"] ["self", "many", "moves"] (defScope (inClass cChain 0)) := ⟨rfl, rfl, rfl, by decide +kernel, rfl, by decide +kernel, by decide +kernel⟩
def chF (many : Int) (a : Addr) : List (Str × V) := putF "_moves" (.ref a) (putF "_many" (.int many) [])
theorem ne_mm : ¬ (("_many" : Str) = "_moves") := by decide +kernel
theorem chF_many (many : Int) (a : Addr) : (chF many a).lookup ("_many" : Str) = some (.int many) := by
  unfold chF
  rw [lookup_putF, if_neg ne_mm, lookup_putF, if_pos rfl]
theorem chF_moves (many : Int) (a : Addr) : (chF many a).lookup ("_moves" : Str) = some (.ref a) := by
  unfold chF
  rw [lookup_putF, if_pos rfl]
theorem chF_no (many : Int) (a : Addr) {m : Str} (h1 : ¬ m = "_many") (h2 : ¬ m = "_moves") : (chF many a).lookup m = none := by
  unfold chF
  rw [lookup_putF, if_neg h2, lookup_putF, if_neg h1]
  all_goals rfl
def ChainAt (C : Addr) (H : Hp) (x : Addr) (many : Nat) (ms : List Mv) : Prop := ∃ dx a ws, H x = some (.ins C dx (chF (many : Int) a)) ∧ H a = some (.lst ws) ∧ MovesAt H ws ms
theorem ChainAt.same {C : Addr} {H H' : Hp} {x : Addr} {many : Nat} {ms : List Mv} (s : Same H H') (h : ChainAt C H x many ms) : ChainAt C H' x many ms := by
  obtain ⟨dx, a, ws, h1, h2, h3⟩ := h
  exact ⟨dx, a, ws, s _ _ h1, s _ _ h2, h3.same (Same.tups s)⟩
theorem moves_no_dl {H : Hp} {ws : List V} {ms : List Mv} (h : MovesAt H ws ms) (s0 : Int) (l : Addr) (k big : Int) : HO.lst ws ≠ .lst (dl s0 l k big) := by
  intro z
  injection z with z
  subst z
  cases h with
  | cons a _ =>
    obtain ⟨_, _, e, _⟩ := a
    cases e
theorem ChainAt.gr {C d l : Addr} {ns : List Int} {H H' : Hp} {x : Addr} {many : Nat} {ms : List Mv} (hd : Dc K l ns H d) (s : Gr d H H') (h : ChainAt C H x many ms) : ChainAt C H' x many ms := by
  obtain ⟨dx, a, ws, h1, h2, h3⟩ := h
  exact ⟨dx, a, ws, s _ _ (hd.ne_of h1 fun _ _ _ _ z => nomatch z) h1, s _ _ (hd.ne_of h2 (moves_no_dl h3)) h2, h3.same (s.tups hd)⟩
/-- all that is tracked, but at x and t, is as it was -/
def Gr2 (x t : Addr) (H H' : Hp) : Prop := ∀ b o, b ≠ x → b ≠ t → H b = some o → H' b = some o
/-- a chain that has just been made: its list of moves is its own -/
def ChainNew (C : Addr) (H H' : Hp) (x : Addr) (many : Nat) (ms : List Mv) : Prop := ∃ dx a ws, H' x = some (.ins C dx (chF (many : Int) a)) ∧ H' a = some (.lst ws) ∧ MovesAt H' ws ms ∧ H a = none
theorem ChainNew.at {C : Addr} {H H' : Hp} {x : Addr} {many : Nat} {ms : List Mv} (h : ChainNew C H H' x many ms) : ChainAt C H' x many ms := by
  obtain ⟨dx, a, ws, h1, h2, h3, _⟩ := h
  exact ⟨dx, a, ws, h1, h2, h3⟩
def spInitG (C T : Addr) : Sp := fun vs H Q _ => ∃ (x dx l : Addr) (many : Nat) (ws : List V) (ms : List Mv), vs = [.ref x, .int (many : Int), .ref l] ∧ H x = some (.ins C dx []) ∧ H l = some (.lst ws) ∧ MovesAt H ws ms ∧ Good many ms ∧ GxR.TabG H T ∧
  ∀ H', ChainNew C H H' x many ms → Gr2 x T H H' → GxR.TabG H' T → Q .non H'
theorem isMv_good {many : Nat} {m : Mv} (h : GoodMv many m) : isMv (many : Int) m = true := by
  obtain ⟨h1, h2, h3, h4⟩ := h
  unfold isMv
  rw [decide_eq_true (show 1 ≤ m.1 ∧ m.1 < 100 from ⟨h1, by omega⟩), decide_eq_true (show (m.2.length : Int) = (many : Int) by rw [h3]), Bool.true_and, Bool.true_and, List.all_eq_true]
  intro x hx
  unfold inR
  exact decide_eq_true (h4 x hx)
theorem ok_initG (T : ChTxt K mg fM cM tM fdM C fI fdI) (TB : GxR.TabB base mg cM tM) : FnOk P w K mg base CX0 2 fI fdI ["self", "many", "moves"] (spInitG C tM) := by
  have GM : FnOk P w K mg base CX0 1 fM fdM ["many", "move"] (spIsMove tM) := ok_ismove T TB
  obtain ⟨tp, gP⟩ := T.gP
  obtain ⟨tv, gV⟩ := T.gV
  refine T.FI.ok scInit (fun vs H Q E h => ?_) (fun cdv A outer s H vs Q E hr h => ?_)
  · obtain ⟨x, dx, l, many, ws, ms, rfl, _⟩ := h
    rfl
  · obtain ⟨x, dx, l, many, ws, ms, rfl, hx, hl, hM, G, hTab, q⟩ := h
    have lenW := hM.length
    refine ⟨_, pss_cons (ps_if (pt_not (pt_chain op_le op_le pe_int (pv 1) (pe_glob (v := .int 6) (by rfl) gP ⟨_, rfl⟩))) pss_never pss_nil)
      (pss_cons (ps_if (pt_not (pt_chain op_le op_le pe_int (pe_callB call_len_seq (by rfl) T.ml PySem.boot_len (pa_cons (pv 2) pa_nil)) (pe_glob (v := .int 8) (by rfl) gV ⟨_, rfl⟩))) pss_never pss_nil)
      (pss_cons (ps_for PassesOwn.never rfl (pi_enum (by rfl) T.me (pa_cons (pv 2) pa_nil)) (pg_tup rfl (pgs_cons (pg_name (i := 3) scInit.nd rfl (.inl rfl)) (pgs_cons (pg_name (i := 4) scInit.nd rfl (.inl rfl)) pgs_nil)))
          (pss_one (ps_if (pt_not (pt_val (pe_call GM hr (by rfl) T.gM T.FM.kp T.bM .nil pass0 (pa_cons (pv 1) (pa_cons (pv 4) pa_nil))))) pss_never pss_nil)))
      (pss_cons (ps_fld (pv 0) (pv 1) rfl)
      (pss_one (ps_fld (pv 0) (pe_callTy call_list_of (by rfl) T.mL (by decide +kernel) (pa_cons (pv 2) pa_nil)) rfl))))), ?_⟩
    have G1 := G.m1
    have G2 := G.m6
    have G3 := G.l1
    have G4 := G.l8
    refine ⟨.int (many : Int), rfl, 1, (many : Int), rfl, rfl, _, rfl, ifD (by omega) ⟨_, _, rfl, rfl, _, rfl, iteNS (by omega) ?_⟩⟩
    have hS : SqL K H l ws := SqL.of hl
    refine ⟨.ref l, rfl, l, ws, rfl, .inl hS, 1, _, rfl, rfl, _, rfl, ifD (by omega) ⟨_, _, rfl, rfl, _, rfl, iteNS (by omega) ?_⟩⟩
    -- for number, move in enumerate(moves)
    have nxT : x ≠ tM := fun z => by
      obtain ⟨ps, e, _⟩ := hTab
      rw [z, e] at hx
      cases hx
    have nlT : l ≠ tM := fun z => by
      obtain ⟨ps, e, _⟩ := hTab
      rw [z, e] at hl
      cases hl
    have nxl : x ≠ l := ne_of hx hl (fun z => nomatch z)
    have tupK : ∀ {H'}, Gr tM H H' → ∀ b xs, H b = some (.tup xs) → H' b = some (.tup xs) := fun {H'} g b xs e => g b _ (fun z => by
      obtain ⟨ps, e2, _⟩ := hTab
      rw [z, e2] at e
      cases e) e
    refine ⟨.ref l, rfl, l, ws, rfl, hS, for_it (walk_enum (K := K) (a := l) (xs := ws)) (fun i σ H' => ∃ y3 y4, σ = [some (.ref x), some (.int (many : Int)), some (.ref l), y3, y4] ∧ Gr tM H H' ∧ GxR.TabG H' tM)
      ⟨none, none, rfl, Gr.refl _ _, hTab⟩ (fun i σ H' hi ⟨y3, y4, e, g, t⟩ => SqL.of (g l _ nlT hl)) ?_ ?_⟩
    · rintro i z σ H1 H2 hi ⟨y3, y4, rfl, g1, t1⟩ ⟨Tp, u, v, rfl, nT, rfl, eu, ev⟩
      have g2 : Gr tM H (upd H1 Tp (.tup [u, v])) := g1.new nT
      have t2 : GxR.TabG (upd H1 Tp (.tup [u, v])) tM := by
        obtain ⟨ps, e, t⟩ := t1
        exact ⟨ps, (same_new nT) _ _ e, t⟩
      refine ⟨Tp, [u, v], rfl, SqT.of upd_same, rfl, u, [v], rfl, v, [], rfl, rfl, ?_⟩
      obtain ⟨m, em, hm⟩ := hM.get' ev
      have hgood := G.mv m (List.mem_of_getElem? em)
      have hm2 : MoveAt (upd H1 Tp (.tup [u, v])) v m := hm.same (tupK g2)
      refine ⟨.int (many : Int), rfl, v, rfl, (many : Int), v, m, rfl, hm2, t2, fun H3 g3 t3 => ?_⟩
      rw [isMv_good hgood]
      refine ⟨true, rfl, ?_⟩
      exact ⟨some u, some v, rfl, g2.trans g3, t3⟩
    · rintro σ H1 ⟨y3, y4, rfl, g1, t1⟩
      have hx1 := g1 x _ nxT hx
      have hl1 := g1 l _ nlT hl
      refine ⟨.int (many : Int), rfl, .ref x, rfl, x, C, dx, [], rfl, hx1, T.cl, T.nM, (by show 0 < 1000; decide), ?_⟩
      have hx2 : (upd H1 x (.ins C dx (putF "_many" (.int (many : Int)) []))) x = some (.ins C dx (putF "_many" (.int (many : Int)) [])) := upd_same
      have hl2 : (upd H1 x (.ins C dx (putF "_many" (.int (many : Int)) []))) l = some (.lst ws) := by
        rw [upd_ne (Ne.symm nxl)]
        exact hl1
      refine ⟨.ref l, rfl, l, ws, rfl, .inl (SqL.of hl2), fun a na => ?_⟩
      have nxa : x ≠ a := ne_of_none hx2 na
      refine ⟨.ref x, rfl, x, C, dx, _, rfl, (by rw [upd_ne nxa]; exact hx2), T.cl, T.nV, (by show 1 < 1000; decide), ?_⟩
      have naH1 : H1 a = none := by
        rw [upd_ne (Ne.symm nxa)] at na
        exact na
      have keepT : ∀ b o, b ≠ x → H1 b = some o → (upd (upd (upd H1 x (.ins C dx (putF "_many" (.int (many : Int)) []))) a (.lst ws)) x (.ins C dx (chF (many : Int) a))) b = some o := fun b o nb e => by
        rw [upd_ne nb, upd_ne (ne_of_none e naH1), upd_ne nb]
        exact e
      have ntx : ∀ xs, H1 x ≠ some (.tup xs) := fun xs z => by
        rw [hx1] at z
        cases z
      have naH : H a = none := by
        cases h : H a with
        | none => rfl
        | some o =>
          have nat : a ≠ tM := fun z => by
            obtain ⟨ps, e, _⟩ := t1
            rw [z, e] at naH1
            cases naH1
          rw [g1 a o nat h] at naH1
          cases naH1
      refine q _ ⟨dx, a, ws, upd_same, ?_, hM.same (fun b xs e => ?_), naH⟩ (fun b o nb nt e => keepT b o nb (g1 b o nt e)) ?_
      · rw [upd_ne (Ne.symm nxa)]
        exact upd_same
      · have e1 := tupK g1 b xs e
        refine keepT b _ (fun z => ?_) e1
        rw [z] at e1
        exact ntx xs e1
      · obtain ⟨ps, e, t⟩ := t1
        exact ⟨ps, keepT _ _ (Ne.symm nxT) e, t⟩
/-! ### places, told -/
theorem scPlaces : FnScope ["self"] ["self"] (defScope (inClass cChain 1)) := ⟨rfl, rfl, rfl, by decide +kernel, rfl, by decide +kernel, by decide +kernel⟩
theorem scTold : FnScope ["self"] ["self"] (defScope (inClass cChain 2)) := ⟨rfl, rfl, rfl, by decide +kernel, rfl, by decide +kernel, by decide +kernel⟩
def spPlaces (C : Addr) : Sp := fun vs H Q _ => ∃ (x : Addr) (many : Nat) (ms : List Mv), vs = [.ref x] ∧ ChainAt C H x many ms ∧ Q (.int (many : Int)) H
def spTold (C : Addr) : Sp := fun vs H Q _ => ∃ (x : Addr) (many : Nat) (ms : List Mv), vs = [.ref x] ∧ ChainAt C H x many ms ∧ ∀ (l : Addr) (ws : List V), H l = none → MovesAt (upd H l (.lst ws)) ws ms → Q (.ref l) (upd H l (.lst ws))
theorem ok_places {f : Addr} {fd : FuncData} {k : Nat} (F : Fun K "places" "Chain.places" (inClass cChain 1) f fd) (cl : Cls K C) (nM : NoAttr K C "_many") : FnOk P w K mg base CX0 (k + 1) f fd ["self"] (spPlaces C) := by
  refine F.ok scPlaces (fun vs H Q E h => ?_) (fun cdv A outer s H vs Q E hr h => ?_)
  · obtain ⟨x, many, ms, rfl, _⟩ := h
    rfl
  · obtain ⟨x, many, ms, rfl, ⟨dx, a, ws, h1, h2, h3⟩, q⟩ := h
    exact ⟨_, pss_one (ps_ret (pe_fld (pv 0) rfl)), .ref x, rfl, x, C, dx, _, _, rfl, h1, cl, nM, chF_many _ _, q⟩
theorem ok_told {f : Addr} {fd : FuncData} {k : Nat} (F : Fun K "told" "Chain.told" (inClass cChain 2) f fd) (cl : Cls K C) (nV : NoAttr K C "_moves") (mL : mg "list" = none) : FnOk P w K mg base CX0 (k + 1) f fd ["self"] (spTold C) := by
  refine F.ok scTold (fun vs H Q E h => ?_) (fun cdv A outer s H vs Q E hr h => ?_)
  · obtain ⟨x, many, ms, rfl, _⟩ := h
    rfl
  · obtain ⟨x, many, ms, rfl, ⟨dx, a, ws, h1, h2, h3⟩, q⟩ := h
    exact ⟨_, pss_one (ps_ret (pe_callTy call_list_of (by rfl) mL (by decide +kernel) (pa_cons (pe_fld (pv 0) rfl) pa_nil))), .ref x, rfl, x, C, dx, _, _, rfl, h1, cl, nV, chF_moves _ _, a, ws, rfl, .inl (SqL.of h2), fun l nl => q l ws nl (h3.same (Same.tups (same_new nl)))⟩
/-! ### _law_made -/
theorem scMade : FnScope ["_law_told"] ["_law_told"] (defScope sMade) := ⟨rfl, rfl, rfl, by decide +kernel, rfl, by decide +kernel, by decide +kernel⟩
def spMade (C T : Addr) : Sp := fun vs H Q _ => ∃ (t m : Addr) (many : Nat) (ws : List V) (ms : List Mv), vs = [.ref t] ∧ ToldAt H t m many ws ms ∧ Good many ms ∧ GxR.TabG H T ∧ ∀ H' x, ChainAt C H' x many ms → H x = none → Gr T H H' → GxR.TabG H' T → Q (.ref x) H'
theorem ok_made {f : Addr} {fd : FuncData} (F : Fun K "_law_made" "_law_made" sMade f fd) (T : ChTxt K mg fM cM tM fdM C fI fdI) (TB : GxR.TabB base mg cM tM) : FnOk P w K mg base CX0 4 f fd ["_law_told"] (spMade C tM) := by
  have GI : FnOk P w K mg base CX0 2 fI fdI ["self", "many", "moves"] (spInitG C tM) := ok_initG T TB
  refine F.ok scMade (fun vs H Q E h => ?_) (fun cdv A outer s H vs Q E hr h => ?_)
  · obtain ⟨t, m, many, ws, ms, rfl, _⟩ := h
    rfl
  · obtain ⟨t, m, many, ws, ms, rfl, ⟨h1, h2, h3⟩, G, ⟨ps, hT, htr⟩, q⟩ := h
    refine ⟨_, pss_one (ps_ret (pe_make T.mC GI hr (by rfl) T.gC T.bI .nil pass0 (pa_cons (pe_ix ix_tup (pv 0) pe_int (fun _ _ => rfl)) (pa_cons (pe_callTy call_list_of (by rfl) T.mL (by decide +kernel) (pa_cons (pe_ix ix_tup (pv 0) pe_int (fun _ _ => rfl)) pa_nil)) pa_nil)))), ?_⟩
    refine ⟨.ref t, rfl, t, _, 0, _, rfl, rfl, SqT.of h1, atI_nat (j := 0) rfl, .ref t, rfl, t, _, 1, _, rfl, rfl, SqT.of h1, atI_nat (j := 1) rfl, m, ws, rfl, .inl (SqL.of h2), fun l nl x dx nx ndx nxd => ?_⟩
    have s1 : Same H (upd H l (.lst ws)) := same_new nl
    have s2 : Same (upd H l (.lst ws)) (upd (upd H l (.lst ws)) dx (.own x)) := same_new ndx
    have nx' : (upd (upd H l (.lst ws)) dx (.own x)) x = none := by
      rw [upd_ne (Ne.symm nxd)]
      exact nx
    have s3 := same_new (o := .ins C dx []) nx'
    have s := (s1.trans s2).trans s3
    refine ⟨x, dx, l, many, ws, ms, rfl, upd_same, (s2.trans s3) _ _ upd_same, h3.same (Same.tups s), G, ⟨ps, s _ _ hT, htr⟩, fun H' hc g t' => ⟨rfl, ?_⟩⟩
    exact q H' x hc.at (s1.free nx) (fun b o nb e => g b o (ne_of_none (s1 _ _ e) nx) nb (s _ _ e)) t'
end
/-- a def of the module, named -/
structure Df (K : PySem.W.Frag) (mg : Str → Option Value) (x : Str) (st : Stmt) (ps : List Str) (f : Addr) (fd : FuncData) : Prop where
  F : Fun K x x st f fd
  b : Binds K fd ps []
  g : mg x = some (.ref f)
def spLaw (K : PySem.W.Frag) (T : Addr) : Sp := fun vs H Q _ => ∃ (a : Addr) (ns : List Int), vs = [.ref a] ∧ SqL K H a (ns.map V.int) ∧ ns.length ≤ 63 ∧ GxR.TabG H T ∧ ∀ H', Q (.bl true) H'
theorem Same.put {H H1 : Hp} {p : Addr} {o : HO} (s : Same H H1) (n : H p = none) : Same H (upd H1 p o) := fun b u e => by
  rw [upd_ne (ne_of_none e n)]
  exact s b u e
theorem ToldAt.same {H H' : Hp} {t m : Addr} {many : Nat} {ws : List V} {ms : List Mv} (s : Same H H') (h : ToldAt H t m many ws ms) : ToldAt H' t m many ws ms := ⟨s _ _ h.1, s _ _ h.2.1, h.2.2.same (Same.tups s)⟩
theorem ToldAt.gr {K : PySem.W.Frag} {d l : Addr} {ns : List Int} {H H' : Hp} {t m : Addr} {many : Nat} {ws : List V} {ms : List Mv} (hd : Dc K l ns H d) (g : Gr d H H') (h : ToldAt H t m many ws ms) : ToldAt H' t m many ws ms :=
  ⟨g.tups hd _ _ h.1, g _ _ (hd.ne_of h.2.1 (moves_no_dl h.2.2)) h.2.1, h.2.2.same (g.tups hd)⟩
/-- a table stands while the dice turns -/
theorem tab_gr {K : PySem.W.Frag} {d l : Addr} {ns : List Int} {H H' : Hp} {T : Addr} (hd : Dc K l ns H d) (g : Gr d H H') (h : GxR.TabG H T) : GxR.TabG H' T := by
  obtain ⟨ps, e, t⟩ := h
  exact ⟨ps, g _ _ (hd.ne_of e fun _ _ _ _ z => nomatch z) e, t⟩
theorem tab_same {H H' : Hp} {T : Addr} (s : Same H H') (h : GxR.TabG H T) : GxR.TabG H' T := by
  obtain ⟨ps, e, t⟩ := h
  exact ⟨ps, s _ _ e, t⟩
/-- what is no table stands while the table grows -/
theorem Gr.tab {T p : Addr} {H H' : Hp} {o : HO} (hT : GxR.TabG H T) (g : Gr T H H') (n : ∀ qs, o ≠ .tbl qs) (h : H p = some o) : H' p = some o := g p o (fun z => by
  obtain ⟨ps, e, _⟩ := hT
  rw [z, e] at h
  exact n ps (Option.some.inj h).symm) h
theorem ToldAt.tab {T t m : Addr} {H H' : Hp} {many : Nat} {ws : List V} {ms : List Mv} (hT : GxR.TabG H T) (g : Gr T H H') (h : ToldAt H t m many ws ms) : ToldAt H' t m many ws ms :=
  ⟨g.tab hT (fun _ z => nomatch z) h.1, g.tab hT (fun _ z => nomatch z) h.2.1, h.2.2.same fun _ _ e => g.tab hT (fun _ z => nomatch z) e⟩
theorem Dc.tabT {K : PySem.W.Frag} {T d l : Addr} {ns : List Int} {H H' : Hp} (hT : GxR.TabG H T) (g : Gr T H H') (h : Dc K l ns H d) : Dc K l ns H' d := by
  obtain ⟨s0, k, big, h1, h2, h3⟩ := h
  refine ⟨s0, k, big, g.tab hT (fun _ z => nomatch z) h1, ?_, h3⟩
  rcases h2 with (h | ⟨o, h⟩) | h
  · exact .inl (.inl (g.tab hT (fun _ z => nomatch z) h))
  · exact .inl (.inr ⟨o, g.tab hT (fun _ z => nomatch z) h⟩)
  · exact .inr h
theorem Gr.put {d : Addr} {H H1 : Hp} {p : Addr} {o : HO} (a : Gr d H H1) (h : H p = none) : Gr d H (upd H1 p o) := fun b u n e => by
  rw [upd_ne (ne_of_none e h)]
  exact a b u n e
theorem Gr.free {d : Addr} {H H1 : Hp} {p : Addr} (a : Gr d H H1) (n : H1 p = none) (h : p ≠ d) : H p = none := by
  cases e : H p with
  | none => rfl
  | some o =>
    rw [a p o h e] at n
    cases n
theorem paired_drop {α β : Type} {F : α → β → Prop} : ∀ {l₁ : List α} {l₂ : List β} (n : Nat), Paired F l₁ l₂ → Paired F (l₁.drop n) (l₂.drop n)
  | _, _, 0, h => h
  | _, _, _ + 1, .nil => .nil
  | _, _, n + 1, .cons _ t => paired_drop n t
theorem paired_take {α β : Type} {F : α → β → Prop} : ∀ {l₁ : List α} {l₂ : List β} (n : Nat), Paired F l₁ l₂ → Paired F (l₁.take n) (l₂.take n)
  | _, _, 0, _ => .nil
  | _, _, _ + 1, .nil => .nil
  | _, _, n + 1, .cons h t => .cons h (paired_take n t)
theorem paired_app {α β : Type} {F : α → β → Prop} : ∀ {l₁ : List α} {l₂ : List β} {k₁ : List α} {k₂ : List β}, Paired F l₁ l₂ → Paired F k₁ k₂ → Paired F (l₁ ++ k₁) (l₂ ++ k₂)
  | _, _, _, _, .nil, h => h
  | _, _, _, _, .cons q t, h => .cons q (paired_app t h)
theorem paired_rep {α β : Type} {F : α → β → Prop} {a : α} {b : β} (h : F a b) : ∀ n, Paired F (List.replicate n a) (List.replicate n b)
  | 0 => .nil
  | n + 1 => .cons h (paired_rep h n)
theorem filter_snoc {l : List Int} {i : Nat} {x : Int} {F : Int → Bool} (h : l[i]? = some x) : (l.take (i + 1)).filter F = (l.take i).filter F ++ (if F x = true then [x] else []) := by
  rw [List.take_add_one, h, List.filter_append]
  cases hk : F x with
  | true => simp [hk]
  | false => simp [hk]
theorem paired_get {α β : Type} {F : α → β → Prop} : ∀ {l₁ : List α} {l₂ : List β} {i : Nat} {b : β}, Paired F l₁ l₂ → l₂[i]? = some b → ∃ a, l₁[i]? = some a ∧ F a b
  | _, _, _, _, .nil, e => by simp at e
  | _, _, 0, _, .cons h _, e => by
    simp at e
    subst e
    exact ⟨_, rfl, h⟩
  | _, _, i + 1, b, .cons _ t, e => by
    obtain ⟨a, h1, h2⟩ := paired_get (i := i) (b := b) t (by simpa using e)
    exact ⟨a, by simpa using h1, h2⟩
theorem paired_end {α β : Type} {F : α → β → Prop} {a : α} {b : β} (h : F a b) : ∀ {l₁ : List α} {l₂ : List β}, Paired F l₁ l₂ → Paired F (l₁ ++ [a]) (l₂ ++ [b])
  | _, _, .nil => .cons h .nil
  | _, _, .cons q t => .cons q (paired_end h t)
theorem take_snoc {α : Type} {l : List α} {i : Nat} {x : α} (h : l[i]? = some x) : l.take (i + 1) = l.take i ++ [x] := by
  rw [List.take_add_one, h]
  rfl
theorem small1k {n : Nat} (h : n ≤ 1001) : n < sizeLine := Nat.lt_of_le_of_lt h (by decide)
section
variable {P : Program} {w : World} {K : PySem.W.Frag} {mg : Str → Option Value} {base : Heap} {C : Addr}
/-- range(n) as a value -/
theorem cr_range1 {X : Cx} : CallR X (.type "range") (fun vs H Q => ∃ n, vs = [V.int n] ∧ ∀ p, H p = none → Q (.ref p) (upd H p (.rng 0 n))) := by
  intro pins s σ H vs us Q I r ⟨n, ev, q⟩
  subst ev
  cases r with
  | cons rn rr =>
    cases rr
    obtain ⟨t, rfl⟩ := rn
    refine call_range_1 ⟨.ref s.heap.objs.size, upd H s.heap.objs.size (.rng 0 n), I.laid (t' := s.toks + 1 + 1) (fun b o e => Heap.get?_push_of_some _ e) (Nat.le_refl _) ?_, rfl, q _ (I.hok.fresh (Nat.le_refl _))⟩
    exact ⟨s.toks, t, s.toks + 1, Heap.get?_push_size _ rfl⟩
/-! ### steps_of -/
structure ChM (K : PySem.W.Frag) (C fP fT : Addr) (fdP fdT : FuncData) : Prop where
  FP : Fun K "places" "Chain.places" (inClass cChain 1) fP fdP
  bP : Binds K fdP ["self"] []
  hP : Meth K C "places" fP
  FT : Fun K "told" "Chain.told" (inClass cChain 2) fT fdT
  bT : Binds K fdT ["self"] []
  hT : Meth K C "told" fT
  cl : Cls K C
  nM : NoAttr K C "_many"
  nV : NoAttr K C "_moves"
theorem ch_no {many : Int} {a : Addr} : (chF many a).lookup ("places" : Str) = none := chF_no _ _ (by decide +kernel) (by decide +kernel)
theorem ch_noT {many : Int} {a : Addr} : (chF many a).lookup ("told" : Str) = none := chF_no _ _ (by decide +kernel) (by decide +kernel)
theorem rg_ends (n : Nat) : rgV 0 (n : Int) = ((List.range n).map fun (i : Nat) => (i : Int)).map V.int := by
  unfold rgV
  rw [List.map_map]
  have e : ((n : Int) - 0).toNat = n := by omega
  rw [e]
  refine List.map_congr_left fun i _ => ?_
  show V.int (0 + (i : Int)) = V.int (i : Int)
  rw [Int.zero_add]
end
/-! ### data that are compared -/
def Sh (n : Nat) (d : PyData) : Prop := d.canLay0 = true ∧ d.depth ≤ n
theorem canAll : ∀ {ds : List PyData}, (∀ d ∈ ds, d.canLay0 = true) → PyData.canLayAll0 ds = true
  | [], _ => rfl
  | d :: ds, h => by
    show (d.canLay0 && PyData.canLayAll0 ds) = true
    rw [h d List.mem_cons_self, canAll fun z hz => h z (List.mem_cons_of_mem _ hz)]
    rfl
theorem depAll {n : Nat} : ∀ {ds : List PyData}, (∀ d ∈ ds, d.depth ≤ n) → PyData.depthAll ds ≤ n
  | [], _ => Nat.zero_le _
  | d :: ds, h => by
    show max d.depth (PyData.depthAll ds) ≤ n
    exact Nat.max_le.mpr ⟨h d List.mem_cons_self, depAll fun z hz => h z (List.mem_cons_of_mem _ hz)⟩
theorem Sh.int {n : Nat} (i : Int) : Sh n (.int i) := ⟨rfl, Nat.zero_le _⟩
theorem Sh.bool {n : Nat} (b : Bool) : Sh n (.bool b) := ⟨rfl, Nat.zero_le _⟩
theorem Sh.none {n : Nat} : Sh n .none := ⟨rfl, Nat.zero_le _⟩
theorem Sh.tuple {n : Nat} {ds : List PyData} (h : ∀ d ∈ ds, Sh n d) : Sh (n + 1) (.tuple ds) := ⟨canAll fun d hd => (h d hd).1, Nat.succ_le_succ (depAll fun d hd => (h d hd).2)⟩
theorem Sh.list {n : Nat} {ds : List PyData} (h : ∀ d ∈ ds, Sh n d) : Sh (n + 1) (.list ds) := ⟨canAll fun d hd => (h d hd).1, Nat.succ_le_succ (depAll fun d hd => (h d hd).2)⟩
theorem Sh.mono {n m : Nat} {d : PyData} (h : Sh n d) (le : n ≤ m) : Sh m d := ⟨h.1, Nat.le_trans h.2 le⟩
theorem Sh.shaped {n : Nat} {d : PyData} (h : Sh n d) (le : n ≤ 64) : SeqAt.shaped d = true := by
  unfold SeqAt.shaped
  rw [h.1, decide_eq_true (Nat.le_trans h.2 le)]
  rfl
theorem Sh.refl {n : Nat} {d : PyData} (h : Sh n d) : PyData.eqv d d = true := SeqAt.eqv_refl d h.1
theorem Sh.ints {n : Nat} (ns : List Int) : ∀ d ∈ ns.map PyData.int, Sh n d := fun d hd => by
  obtain ⟨i, _, rfl⟩ := List.mem_map.mp hd
  exact .int i
def mvD (m : Mv) : PyData := .tuple [.int m.1, .tuple (m.2.map PyData.int)]
theorem Sh.mv (m : Mv) : Sh 2 (mvD m) := Sh.tuple fun d hd => by
  rcases List.mem_cons.mp hd with rfl | hd
  · exact .int _
  rcases List.mem_cons.mp hd with rfl | hd
  · exact Sh.tuple (Sh.ints _)
  · cases hd
theorem Sh.mvs (ms : List Mv) : Sh 3 (.list (ms.map mvD)) := Sh.list fun d hd => by
  obtain ⟨m, _, rfl⟩ := List.mem_map.mp hd
  exact .mv m
theorem dp_ints (K : PySem.W.Frag) (H : Hp) : ∀ ns : List Int, DpAll K H (ns.map V.int) (ns.map PyData.int)
  | [] => .nil
  | n :: ns => .cons (.int n) (dp_ints K H ns)
theorem dp_lst {K : PySem.W.Frag} {H : Hp} {a : Addr} {ns : List Int} (h : H a = some (.lst (ns.map V.int))) : Dp K H (.ref a) (.list (ns.map PyData.int)) := .lst (SqL.of h) (dp_ints K H ns)
theorem dp_tup {K : PySem.W.Frag} {H : Hp} {a : Addr} {ns : List Int} (h : H a = some (.tup (ns.map V.int))) : Dp K H (.ref a) (.tuple (ns.map PyData.int)) := .tup (SqT.of h) (dp_ints K H ns)
theorem dp_mv {K : PySem.W.Frag} {H : Hp} {v : V} {m : Mv} (h : MoveAt H v m) : Dp K H v (mvD m) := by
  obtain ⟨a, q, rfl, ha, hq⟩ := h
  exact .tup (SqT.of ha) (.cons (.int _) (.cons (dp_tup hq) .nil))
theorem dp_mvAll {K : PySem.W.Frag} {H : Hp} : ∀ {ws : List V} {ms : List Mv}, MovesAt H ws ms → DpAll K H ws (ms.map mvD)
  | _, _, .nil => .nil
  | _, _, .cons h t => .cons (dp_mv h) (dp_mvAll t)
theorem dp_mvs {K : PySem.W.Frag} {H : Hp} {a : Addr} {ws : List V} {ms : List Mv} (h : H a = some (.lst ws)) (hM : MovesAt H ws ms) : Dp K H (.ref a) (.list (ms.map mvD)) := .lst (SqL.of h) (dp_mvAll hM)
theorem hu64 {A : Around} {k : Nat} (hr : Room k A) : A.units + 64 < cLine := by
  have := hr.un
  omega
/-- d != d is False, d == d is True -/
theorem ne_same {K : PySem.W.Frag} {x y : V} {d : PyData} {n : Nat} {H : Hp} {Q : VK} (hx : Dp K H x d) (hy : Dp K H y d) (h : Sh n d) (le : n ≤ 64) (q : Q (.bl false) H) : rNeD K x y H Q := by
  refine ⟨d, d, hx, hy, h.shaped le, h.shaped le, ?_⟩
  rw [h.refl]
  exact q
theorem eq_same {K : PySem.W.Frag} {x y : V} {d : PyData} {n : Nat} {H : Hp} {Q : VK} (hx : Dp K H x d) (hy : Dp K H y d) (h : Sh n d) (le : n ≤ 64) (q : Q (.bl true) H) : rEqD K x y H Q := by
  refine ⟨d, d, hx, hy, h.shaped le, h.shaped le, ?_⟩
  rw [h.refl]
  exact q
/-! ### sorted(set(a list of ints)): a rule of our own -/
section
variable {prog : Program} {w : World} {A : Around} {E : Value → Shared → Prop} {s : Shared}
/-- a set as it is when it has just been made -/
def bareSet (w : World) : Obj :=
  { cls := .type "set", dict := none, data := .set #[] 0 (.fresh 0 0 (!w.params.followText "set-order")) }
set_option maxHeartbeats 3200000 in
open PySem PyProof.Rows in
/-- the set at S takes what a list gives -/
theorem set_takes {l : Addr} {its : Array Value} {ns : List Int} {R : Result → Shared → Prop} (S : Addr) (hh : A.handled = none) (hS : s.heap.get? S = some (bareSet w)) (hl : s.heap.IsList l its) (neq : l ≠ S) (hi : IntsAre its.toList ns) (small : ns.length + 1 < scanBound)
    (hR : ∀ (g : Heap) (tk c : Nat), SetR w g S (fun j => decide (j ∈ ns)) c → c ≤ ns.length → (∀ b o, b ≠ S → s.heap.get? b = some o → g.get? b = some o) → R (.ok (.ret .none)) { s with heap := g, toks := tk }) :
    wpAny (model prog w) A.in1 (Builtin.«set.__init__» ⟨[.ref S, .ref l], []⟩)
      (fun fin s' => match fin with | .done f => R (.ok f) s' | .again c' => c'.quiet = true ∧ codeAny (model prog w) A c' R s') (fun e s' => R (.error e) s') s := by
  have sz : its.size = ns.length := by
    rw [← Array.length_toList]
    exact IntsAre.length hi
  have ltl : l < s.heap.objs.size := let ⟨_, g, _⟩ := hl; Heap.lt_size g
  have ltS : S < s.heap.objs.size := Heap.lt_size hS
  have hl' := hl
  obtain ⟨⟨k1, k2, k3, k4⟩, g, k5, k6, k7⟩ := hl'
  simp only at k5 k7
  subst k5
  subst k7
  have tS := F.sub_list_set
  have tF := F.sub_list_frozenset
  have tD : (Value.type "list" == Value.type "dict") = false := by decide
  have hi3 : A.in1.in1.handled = none := by
    simp [hh]
  unfold Builtin.«set.__init__» noKeywords
  unfold Builtin.Frozenset.updateFrom
  generalize hq : pyIter = q
  wp_walk
  subst hq
  refine wpAny_pyIter_list hl ?_
  refine wpAny_bind (wpAny_runValue ?_)
  generalize hI : s.heap.objs.size = I at *
  have offS : S ∉ [I, l] := by
    intro h
    rcases List.mem_cons.mp h with e | e
    · exact absurd e (Nat.ne_of_lt ltS)
    · exact neq (List.mem_singleton.mp e).symm
  have offL : l ≠ I := Nat.ne_of_lt ltl
  have vals : ∀ (i : Nat) (v : Value), its[i]? = some v → ∃ k t, ns[i]? = some k ∧ v = .int k t := by
    intro i v hv
    have lt : i < ns.length := by
      rw [← sz]
      exact (Array.getElem?_eq_some_iff.mp hv).1
    obtain ⟨t, e⟩ := IntsAre.int_at hi i v (by rw [Array.getElem?_toList]; exact hv)
    refine ⟨ns[i], t, List.getElem?_eq_getElem lt, ?_⟩
    rw [e, List.getD_eq_getElem?_getD, List.getElem?_eq_getElem lt]
    rfl
  have W := (Walks.list (prog := prog) (w := w) (A := A.in1.in1) hi3 I l offL its).toS
  have fresh1 : ∀ b o, s.heap.get? b = some o → (s.heap.push { cls := .type "list_iterator", data := .fields #[.ref l, .int 0 0] }).get? b = some o := fun b o e => Heap.get?_push_of_some _ e
  have new1 : (s.heap.push { cls := .type "list_iterator", data := .fields #[.ref l, .int 0 0] }).get? I = some { cls := .type "list_iterator", data := .fields #[.ref l, .int 0 0] } := by
    rw [← hI]
    exact Heap.get?_push_size _ rfl
  refine set_update_ints W S offS ns sz small vals its.size 0 _ (Nat.sub_zero _) (Nat.zero_le _) ⟨⟨_, new1, rfl, rfl⟩, ⟨_, fresh1 _ _ g, rfl, _, rfl⟩⟩ ⟨0, Nat.le_refl _, setR_new_at (fresh1 _ _ hS)⟩ fun s' c mv hc hs => ?_
  refine wpAny_pure (wpAny_pure ?_)
  rw [Moved.eq_with mv]
  refine hR s'.heap s'.toks c hs (by rw [← sz]; exact hc) fun b o nb e => mv.heap b o (fun z => ?_) (fresh1 b o e)
  rcases List.mem_cons.mp z with z | z
  · exact nb z
  · have : b < I := by
      rw [← hI]
      exact Heap.lt_size e
    exact absurd (List.mem_singleton.mp z) (Nat.ne_of_lt this)
/-- callType_codes, where the check of __init__'s arguments is proved by itself -/
theorem callType_checked {T nid iid : String} {Bi : Builtin} {args : List Value} {Q Q₁ : Value → Shared → Prop} (ft : TypeCalled T nid iid) (ct : checkTypeCall T ⟨args, []⟩ = pure ()) (en : PySem.entryFor PySem.table iid = some Bi)
    (mk : codeAny (model prog w) A.in1 (.call (.builtin nid) ⟨.type T :: args, []⟩) (wants Q₁ E) s)
    (nx : ∀ obj t, Q₁ obj t → t.TypeIs obj T ∧ (∀ (M : Model) (B : Around) (F : Value → Shared → Prop) (Z : Unit → Shared → Prop), Z () t → wpAny M B (checkBuiltinCall iid ⟨obj :: args, []⟩) Z F t) ∧
      wpAny (model prog w) A.in1.in1 (Bi ⟨obj :: args, []⟩)
        (fun fin u => match fin with | .done f => wants (fun r v => r = .none ∧ Q obj v) E (.ok f) u | .again c => c.quiet = true ∧ codeAny (model prog w) A.in1 c (wants (fun r v => r = .none ∧ Q obj v) E) u)
        (fun e u => wants (fun r v => r = .none ∧ Q obj v) E (.error e) u) t) :
    wpAny (model prog w) A (call (.type T) args) Q E s := by
  have ⟨c0, t0, mr⟩ := ft.mro
  have md := ft.made
  have sb := ft.sub
  refine wpAny_call (codeAny_of_tree ?_)
  show wpAny _ _ (callAny (.type T) _) _ _ _
  refine wpAny_pure ⟨PySem.Code.quiet_builtin _ (by decide +kernel), codeAny_builtin F.entry_type_call ?_⟩
  rw [Around.under_plain (weight_type_call_type T args []) rfl]
  have n1 := ft.notType
  have n2 := ft.canCreate
  repeat (any_goals (first | assumption | wp_step))
  refine codeAny_mono mk fun r t ht => ?_
  match r, ht with
  | .error e, ht => exact ht
  | .ok (.ret obj), ht =>
    obtain ⟨hT, ck, run⟩ := nx _ _ ht
    have li := ft.init.lookup
    have bi := ft.init.bind obj
    repeat (any_goals (first | assumption | wp_step))
    refine codeAny_mono (codeAny_call_builtin ft.init.plain en (ck _ _ _ _ run)) fun r2 t2 h2 => ?_
    match r2, h2 with
    | .error e, h2 => exact h2
    | .ok (.ret r), h2 =>
      obtain ⟨rfl, hq⟩ := h2
      repeat (any_goals (first | assumption | wp_step))
open PyProof.Rows in
theorem call_setL {l : Addr} {its : Array Value} (ns : List Int) {Q : Value → Shared → Prop} (hh : A.handled = none) (hl : s.heap.IsList l its) (hi : IntsAre its.toList ns) (small : ns.length + 1 < scanBound)
    (h : ∀ (g : Heap) (tk c : Nat), SetR w g s.heap.objs.size (fun j => decide (j ∈ ns)) c → c ≤ ns.length → (∀ b o, s.heap.get? b = some o → g.get? b = some o) → Q (.ref s.heap.objs.size) { s with heap := g, toks := tk }) :
    wpAny (model prog w) A (call (.type "set") [.ref l]) Q E s := by
  have ltl : l < s.heap.objs.size := let ⟨_, g, _⟩ := hl; Heap.lt_size g
  refine callType_checked (Q₁ := fun obj t => obj = .ref s.heap.objs.size ∧ t = { s with heap := s.heap.push (bareSet w) }) F.called_set (F.typeCall_set_1 _) F.entry_set_init (code_set_led1 _ ⟨rfl, rfl⟩) fun obj t ht => ?_
  obtain ⟨rfl, rfl⟩ := ht
  have hS : (s.heap.push (bareSet w)).get? s.heap.objs.size = some (bareSet w) := Heap.get?_push_size _ rfl
  refine ⟨⟨_, hS, rfl⟩, fun M B F Z hz => check_set_init_1 ⟨_, hS, rfl⟩ hz, ?_⟩
  refine set_takes (A := A.in1) (s := { s with heap := s.heap.push (bareSet w) }) s.heap.objs.size (by simp [hh]) hS (hl.push _) (Nat.ne_of_lt ltl) hi small fun g tk c hs hc kp => ⟨rfl, h g tk c hs hc fun b o e => kp b o (Nat.ne_of_lt (Heap.lt_size e)) (Heap.get?_push_of_some _ e)⟩
/-- sorted(set(e)), e a list of ints: a new list that rises -/
def tSSet (K : PySem.W.Frag) (ta : TE) : TE := fun σ H Q => ta σ H fun x H1 => ∃ (l : Addr) (ns : List Int), x = V.ref l ∧ SqL K H1 l (ns.map V.int) ∧ ns.length < 64 ∧
  ∀ (p : Addr) (xs : List Int) (c : Nat), xs.Pairwise (· < ·) → (∀ k : Int, k ∈ xs ↔ k ∈ ns) → xs.length = c → c ≤ ns.length → H1 p = none → Q (.ref p) (upd H1 p (.lst (xs.map V.int)))
open RZ in
theorem pe_sset {X : Cx} {a : Expr} {ta : TE} {p p2 q pos : Pos} (hg : Gl X "sorted") (hm : X.mg "sorted" = none) (hg2 : Gl X "set") (hm2 : X.mg "set" = none) (ha : PE X a ta) (hc : X.calm = true := by rfl)
    (na : starEach [a] X.env = (false, eval a X.env) :: starEach [] X.env := by rfl) (nb : starEach [.Call (.Name "set" p2) [a] [] q] X.env = (false, eval (.Call (.Name "set" p2) [a] [] q) X.env) :: starEach [] X.env := by rfl) :
    PE X (.Call (.Name "sorted" p) [.Call (.Name "set" p2) [a] [] q] [] pos) (tSSet X.K ta) := by
  refine ⟨fun pins s σ H Q I h => Call_ (ld_blt I hg hm PyProof.Rows.boot_sorted (PyProof.Rows.callWith_builtin1 (PyProof.Rows.args_cons (Call_ (ld_blt I hg2 hm2 PyProof.Rows.boot_set
    (PyProof.Rows.callWith_type1 (PyProof.Rows.args_cons (thn (ha.run pins s σ H _ I h) fun v s1 hq => PyProof.Rows.args_nil ?_) na) na rfl))) nb) nb rfl))⟩
  obtain ⟨x, H1, I1, r1, l, ns, ex, hq, hl, q1⟩ := hq
  subst ex
  have e0 : v = Value.ref l := r1
  subst e0
  obtain ⟨its, r, pl, hz⟩ := I1.list hq
  have hit : PyProof.Rows.IntsAre its.toArray.toList ns := by simpa using intsAre_vals r
  refine call_setL ns (I1.ok.hd hc) pl.isList hit (by unfold scanBound; omega) fun g tk c hs hcn kp => PyProof.Rows.args_nil ?_
  have I2 : Inv X pins σ H1 { s1 with heap := g, toks := tk } := I1.kept kp
  refine sorted_set hs (I2.ok.hd hc) (by omega) fun s2 p out c2 xs k gs os hp hg' hix hsx hm' hl' => ?_
  have hn : H1 p = none := I2.hok.fresh hp
  have len : (xs.map V.int).length ≤ sizeLine := by
    rw [List.length_map, hl']
    exact Nat.le_of_lt (small1k (by omega))
  have J : Inv X pins σ (upd H1 p (.lst (xs.map V.int))) { s1 with heap := s2.heap, gens := s2.gens, drawn := s2.drawn, toks := s2.toks } :=
    Inv.call (s := { s1 with heap := g, toks := tk }) I2 (ch := []) (Un.laid k hp hn) (I2.hok.laid k hp ⟨len, out.toList, c2, vals_of_ints hix, hg'⟩) (by rw [gs]; exact I2.bare) (fun _ z => nomatch z)
  have e : s2 = { s1 with heap := s2.heap, gens := s2.gens, drawn := s2.drawn, toks := s2.toks } := by
    have o2 : s2.os = s1.os := os
    rw [← o2]
  rw [e]
  exact ⟨.ref p, _, J, rfl, q1 p xs c hsx (fun z => (hm' z).trans (by simp)) hl' hcn hn⟩
end
/-! ### set(a list of tuples of ints), however long: few of them differ -/
section
open PySem.Spec
/-- how many of them may differ -/
def FewT (ks : List (Addr × List Int)) : Prop := ∀ L : List (Addr × List Int), (∀ p ∈ L, p ∈ ks) → (L.map (·.2)).Nodup → L.length + 1 < 64
variable {P : Program} {w : World} {A : Around} {E : Value → Shared → Prop} {s : Shared}
theorem upd_tupsN {I : Addr} {fp wr : List Addr} {G : Array GenState → Array GenState → Prop} {n : Nat} {Pv : Nat → Value → Prop} {St : Nat → Shared → Prop} {R : Result → Shared → Prop}
    (W : WalksS P w A.in1 I fp wr G n Pv St) (S : Addr) (hSf : S ∉ fp) (ks : List (Addr × List Int)) (hn : n = ks.length) (few : FewT ks) (hval : ∀ i v, Pv i v → ∃ p, ks[i]? = some p ∧ v = .ref p.1)
    (h0 : Heap) (hk : ∀ p ∈ ks, IsT P w h0 p.2 p.1) (hS0 : h0.get? S = none) (hw0 : ∀ b ∈ wr, h0.get? b = none) (hu : A.in1.units < cLine) (left : Nat) :
    ∀ (i : Nat) (s : Shared), n = i + left → St i s → (∀ b o, h0.get? b = some o → s.heap.get? b = some o) → (∃ L es ep t, SetTR P w s.heap S L es ep t ∧ Got ks i L) →
      (∀ s' L es ep t, Moved (S :: wr) G s s' → SetTR P w s'.heap S L es ep t → Got ks n L → (∀ b o, h0.get? b = some o → s'.heap.get? b = some o) → R (.ok (.ret .none)) s') →
      codeAny (model P w) A (.builtin "set.update.loop" ⟨[.ref S, .ref I], []⟩) R s := by
  have sw : S ∉ wr := fun z => hSf (W.sub _ z)
  have up : ∀ b ∈ wr, b ∈ S :: wr := fun b z => List.mem_cons_of_mem _ z
  have keeps : ∀ {s s' : Shared}, Moved wr G s s' → (∀ b o, h0.get? b = some o → s.heap.get? b = some o) → ∀ b o, h0.get? b = some o → s'.heap.get? b = some o := fun hm hs b o e =>
    hm.heap b o (fun z => by rw [hw0 b z] at e; cases e) (hs b o e)
  induction left with
  | zero =>
    rintro i s rfl hst hs ⟨L, es, ep, t, hS, g⟩ hR
    refine codeAny_builtin PyProof.Rows.F.entry_set_update_loop ?_
    rw [Around.under_plainId PyProof.Rows.F.plain_set_update_loop _]
    show wpAny _ A.in1 (pyNext (.ref I) >>= _) _ _ s
    refine wpAny_bind (W.done s _ _ hst fun s' hm => ?_)
    show wpAny _ A.in1 (ret Value.none) _ _ s'
    have hs' := keeps hm hs
    exact wpAny_pure (hR s' L es ep t (hm.mono up) (hS.keep (fun o e => hm.heap S o sw e) fun p hp => isT_keep (hk p (List.mem_of_mem_take (g.sub p hp))) hs') g hs')
  | succ left ih =>
    rintro i s en hst hs ⟨L, es, ep, t, hS, g⟩ hR
    have hlt : i < n := by omega
    refine codeAny_builtin PyProof.Rows.F.entry_set_update_loop ?_
    rw [Around.under_plainId PyProof.Rows.F.plain_set_update_loop _]
    show wpAny _ A.in1 (pyNext (.ref I) >>= _) _ _ s
    refine wpAny_bind (W.item i s _ _ hlt hst fun v s' hP hst' hm => ?_)
    obtain ⟨p, hp, rfl⟩ := hval i v hP
    have hs' := keeps hm hs
    have inK : ∀ q ∈ L, q ∈ ks := fun q hq => List.mem_of_mem_take (g.sub q hq)
    have hS' : SetTR P w s'.heap S L es ep t := hS.keep (fun o e => hm.heap S o sw e) fun q hq => isT_keep (hk q (inK q hq)) hs'
    have hx : IsT P w s'.heap p.2 p.1 := isT_keep (hk p (List.mem_of_getElem? hp)) hs'
    show wpAny _ A.in1 (holding [Value.ref p.1] (setAdd S (.ref p.1)) >>= _) _ _ s'
    refine wpAny_bind (wpAny_holding ?_)
    unfold setAdd
    refine wpAny_holding ?_
    refine wpAny_bind (wpAny_pyHash_tuple hu hx ?_)
    refine add_at (s := { s' with toks := s'.toks + (p.2.length + 1) }) hS' hx hu (few L inK hS'.nd) fun b h' L' es' ep' t' same hS2 c1 c2 => ?_
    have g' : Got ks (i + 1) L' := (Classical.em (p.2 ∈ L.map (·.2))).elim (fun c => by rw [c1 c]; exact g.same hp c) fun c => g.more hp (c2 c)
    have hs2 : ∀ b o, h0.get? b = some o → h'.get? b = some o := fun b o e => (same.2 b (fun z => by rw [z, hS0] at e; cases e)).trans (hs' b o e)
    refine wpAny_pure ⟨plainId_quiet PyProof.Rows.F.plain_set_update_loop _, ih (i + 1) _ (by omega) (W.frame _ s' _ _ hst' (Nat.le_add_right _ _) fun b hb o e => ?_) hs2 ⟨L', es', ep', t', hS2, g'⟩ fun s'' L2 es2 ep2 t2 hm'' hS'' g'' hs'' => ?_⟩
    · rw [same.2 b (fun z : b = S => hSf (by rw [← z]; exact hb))]
      exact e
    · refine hR s'' L2 es2 ep2 t2 (Moved.trans W.gtrans ((hm.mono up).then_heap (Nat.le_add_right _ _) fun b o hb e => ?_) hm'') hS'' g'' hs''
      rw [same.2 b (fun z : b = S => hb (by rw [z]; exact List.mem_cons_self))]
      exact e
set_option maxHeartbeats 3200000 in
open PySem PyProof.Rows in
theorem setT_takes {l : Addr} {its : Array Value} {ks : List (Addr × List Int)} {R : Result → Shared → Prop} {h0 : Heap} (S : Addr) (hh : A.handled = none) (hS : s.heap.get? S = some (bareSet w)) (hl : s.heap.IsList l its) (neq : l ≠ S) (hit : its.toList = ks.map fun p => Value.ref p.1) (few : FewT ks)
    (hu : A.in1.in1.units < cLine) (hk : ∀ p ∈ ks, IsT P w h0 p.2 p.1) (hS0 : h0.get? S = none) (h0n : h0.get? s.heap.objs.size = none) (h0k : ∀ b o, h0.get? b = some o → s.heap.get? b = some o)
    (hR : ∀ (g : Heap) (tk : Nat) L es ep t, SetTR P w g S L es ep t → Got ks ks.length L → (∀ b o, h0.get? b = some o → g.get? b = some o) → R (.ok (.ret .none)) { s with heap := g, toks := tk }) :
    wpAny (model P w) A.in1 (Builtin.«set.__init__» ⟨[.ref S, .ref l], []⟩)
      (fun fin s' => match fin with | .done f => R (.ok f) s' | .again c' => c'.quiet = true ∧ codeAny (model P w) A c' R s') (fun e s' => R (.error e) s') s := by
  have sz : its.size = ks.length := by
    have q := congrArg List.length hit
    rw [Array.length_toList, List.length_map] at q
    exact q
  have ltl : l < s.heap.objs.size := let ⟨_, g, _⟩ := hl; Heap.lt_size g
  have ltS : S < s.heap.objs.size := Heap.lt_size hS
  have hl' := hl
  obtain ⟨⟨k1, k2, k3, k4⟩, g, k5, k6, k7⟩ := hl'
  simp only at k5 k7
  subst k5
  subst k7
  have tS := F.sub_list_set
  have tF := F.sub_list_frozenset
  have tD : (Value.type "list" == Value.type "dict") = false := by decide
  have hi3 : A.in1.in1.handled = none := by
    simp [hh]
  unfold Builtin.«set.__init__» noKeywords
  unfold Builtin.Frozenset.updateFrom
  generalize hq : pyIter = q
  wp_walk
  subst hq
  refine wpAny_pyIter_list hl ?_
  refine wpAny_bind (wpAny_runValue ?_)
  generalize hI : s.heap.objs.size = I at *
  have offS : S ∉ [I, l] := by
    intro h
    rcases List.mem_cons.mp h with e | e
    · exact absurd e (Nat.ne_of_lt ltS)
    · exact neq (List.mem_singleton.mp e).symm
  have offL : l ≠ I := Nat.ne_of_lt ltl
  have vals : ∀ (i : Nat) (v : Value), its[i]? = some v → ∃ p, ks[i]? = some p ∧ v = .ref p.1 := by
    intro i v hv
    have e : its.toList[i]? = some v := by rw [Array.getElem?_toList]; exact hv
    rw [hit, List.getElem?_map] at e
    obtain ⟨p, hp, e2⟩ := Option.map_eq_some_iff.mp e
    exact ⟨p, hp, e2.symm⟩
  have W := (Walks.list (prog := P) (w := w) (A := A.in1.in1) hi3 I l offL its).toS
  have fresh1 : ∀ b o, s.heap.get? b = some o → (s.heap.push { cls := .type "list_iterator", data := .fields #[.ref l, .int 0 0] }).get? b = some o := fun b o e => Heap.get?_push_of_some _ e
  have new1 : (s.heap.push { cls := .type "list_iterator", data := .fields #[.ref l, .int 0 0] }).get? I = some { cls := .type "list_iterator", data := .fields #[.ref l, .int 0 0] } := by
    rw [← hI]
    exact Heap.get?_push_size _ rfl
  refine upd_tupsN W S offS ks sz few vals h0 hk hS0 (fun b hb => by rw [List.mem_singleton.mp hb]; exact h0n) hu its.size 0 _ (Nat.zero_add _).symm ⟨⟨_, new1, rfl, rfl⟩, ⟨_, fresh1 _ _ g, rfl, _, rfl⟩⟩ (fun b o e => fresh1 b o (h0k b o e)) ⟨[], #[], 0, _, setTR_fresh (fresh1 _ _ hS), Got.zero ks⟩ fun s' L es ep t mv hs g' kp => ?_
  refine wpAny_pure (wpAny_pure ?_)
  rw [Moved.eq_with mv]
  exact hR s'.heap s'.toks L es ep t hs (by rw [← sz]; exact g') kp
open PyProof.Rows in
theorem call_setN {l : Addr} {its : Array Value} (ks : List (Addr × List Int)) {Q : Value → Shared → Prop} (hh : A.handled = none) (hl : s.heap.IsList l its) (hit : its.toList = ks.map fun p => Value.ref p.1) (hk : ∀ p ∈ ks, IsT P w s.heap p.2 p.1) (few : FewT ks) (hu : A.in1.in1.in1.units < cLine)
    (h : ∀ (g : Heap) (tk : Nat) L es ep t, SetTR P w g s.heap.objs.size L es ep t → Got ks ks.length L → (∀ b o, s.heap.get? b = some o → g.get? b = some o) → Q (.ref s.heap.objs.size) { s with heap := g, toks := tk }) :
    wpAny (model P w) A (call (.type "set") [.ref l]) Q E s := by
  have ltl : l < s.heap.objs.size := let ⟨_, g, _⟩ := hl; Heap.lt_size g
  have out : ∀ b, s.heap.objs.size ≤ b → s.heap.get? b = none := fun b hb => by
    cases q : s.heap.get? b with
    | none => rfl
    | some o => exact absurd (Nat.lt_of_lt_of_le (Heap.lt_size q) hb) (Nat.lt_irrefl _)
  refine callType_checked (Q₁ := fun obj t => obj = .ref s.heap.objs.size ∧ t = { s with heap := s.heap.push (bareSet w) }) F.called_set (F.typeCall_set_1 _) F.entry_set_init (code_set_led1 _ ⟨rfl, rfl⟩) fun obj t ht => ?_
  obtain ⟨rfl, rfl⟩ := ht
  have hS : (s.heap.push (bareSet w)).get? s.heap.objs.size = some (bareSet w) := Heap.get?_push_size _ rfl
  refine ⟨⟨_, hS, rfl⟩, fun M B F Z hz => check_set_init_1 ⟨_, hS, rfl⟩ hz, ?_⟩
  refine setT_takes (A := A.in1) (s := { s with heap := s.heap.push (bareSet w) }) (h0 := s.heap) s.heap.objs.size (by simp [hh]) hS (hl.push _) (Nat.ne_of_lt ltl) hit few hu hk (out _ (Nat.le_refl _)) (out _ (by show _ ≤ (s.heap.push _).objs.size; rw [Heap.size_push]; exact Nat.le_succ _)) (fun b o e => Heap.get?_push_of_some _ e) fun g tk L es ep t hs g' kp => ⟨rfl, h g tk L es ep t hs g' kp⟩
/-- set(xs), xs a list of tuples of ints, however long -/
def rSetN (K : PySem.W.Frag) (P : Program) (w : World) : List V → Hp → VK → Prop := fun xs H Q => ∃ (l : Addr) (ks : List (Addr × List Int)), xs = [V.ref l] ∧ SqL K H l (ks.map fun p => V.ref p.1) ∧ (∀ p ∈ ks, SqT K H p.1 (p.2.map V.int)) ∧ FewT ks ∧
  ∀ a L, H a = none → (∀ p ∈ L, p ∈ ks) → (∀ p ∈ ks, p.2 ∈ L.map (·.2)) → Q (.ref a) (upd H a (SetTO P w a L))
theorem cr_setN {X : Cx} (hc : X.calm = true) (hu : X.A.units + 64 < cLine) : CallR X (.type "set") (rSetN X.K X.prog X.w) := by
  intro pins s σ H xs us Q I r h
  obtain ⟨l, ks, rfl, hl, hk, hf, q⟩ := h
  rw [Vals.ref1 r]
  obtain ⟨its, rv, pl, hz⟩ := I.list hl
  have hn : H s.heap.objs.size = none := I.hok.fresh (Nat.le_refl _)
  refine call_setN (P := X.prog) (w := X.w) ks (I.ok.hd hc) pl.isList (by simpa using refs_of_vals rv) (fun p hp => I.isT (hk p hp)) hf (by have e : X.A.in1.in1.in1.units = X.A.units + 3 := rfl; omega) fun h' tk L es ep t R g k => ?_
  refine ⟨.ref s.heap.objs.size, upd H s.heap.objs.size (SetTO X.prog X.w s.heap.objs.size L), I.laid (t' := tk) k (Nat.le_refl _) (setTO_new R.t0), rfl, q _ L hn (fun p hp => ?_) fun p hp => ?_⟩
  · exact List.mem_of_mem_take (g.sub p hp)
  · exact g.all p (by rw [List.take_length]; exact hp)
end
theorem Same.seqt {K : PySem.W.Frag} {H H' : Hp} {a : Addr} {xs : List V} (s : Same H H') (h : SqT K H a xs) : SqT K H' a xs := by
  rcases h with (h | ⟨o, h⟩) | h
  · exact .inl (.inl (s _ _ h))
  · exact .inl (.inr ⟨o, s _ _ h⟩)
  · exact .inr h
/-! ### t + u, t[i:j] of tracked tuples, whatever they are -/
theorem catA_of {K : PySem.W.Frag} {H : Hp} {a b : Addr} {xs ys : List V} {Q : VK} (ha : H a = some (.tup xs)) (hb : H b = some (.tup ys)) (hz : xs.length + ys.length ≤ sizeLine) (h : ∀ p H', Same H H' → H' p = some (.tup (xs ++ ys)) → Q (.ref p) H') : rCatA K (.ref a) (.ref b) H Q := by
  refine ⟨a, b, xs, ys, rfl, rfl, SqT.of ha, SqT.of hb, hz, fun e => ?_, fun _ e => ?_, fun _ _ p np => h p _ (same_new np) upd_same⟩
  · subst e
    exact h b H (Same.refl _) hb
  · subst e
    exact h a H (Same.refl _) (by rw [List.append_nil]; exact ha)
theorem slA_of {K : PySem.W.Frag} {H : Hp} {a : Addr} {xs : List V} {lo hi : Option Int} {Q : VK} (ha : H a = some (.tup xs)) (h : ∀ p H', Same H H' → H' p = some (.tup (cutV xs lo hi)) → Q (.ref p) H') : rSlA K (.ref a) lo hi H Q := by
  refine ⟨a, xs, rfl, SqT.of ha, fun e => ?_, fun _ p np => h p _ (same_new np) upd_same⟩
  refine h a H (Same.refl _) ?_
  unfold cutV
  rw [e.1, e.2, List.drop_zero, Nat.sub_zero, List.take_length]
  exact ha
theorem slA_no {K : PySem.W.Frag} {σ : L2.St} {H : Hp} {a : Addr} {xs : List V} {lo : Option Int} {Q : VK} (ha : H a = some (.tup xs)) (h : ∀ p H', Same H H' → H' p = some (.tup (cutV xs lo none)) → Q (.ref p) H') : tNoPart σ H fun u H3 => rSlA K (.ref a) lo u H3 Q := slA_of ha h
theorem cut_from (xs : List V) (k : Nat) (hk : k ≤ xs.length) : cutV xs (some (k : Int)) none = xs.drop k := by
  unfold cutV
  rw [HT.sIx_nat, HT.sIx_none, Nat.min_eq_left hk]
  exact List.take_of_length_le (by rw [List.length_drop]; exact Nat.le_refl _)
theorem cut_to (xs : List V) (k : Nat) (hk : k ≤ xs.length) : cutV xs none (some (k : Int)) = xs.take k := by
  unfold cutV
  rw [HT.sIx_nat, HT.sIx_none, Nat.min_eq_left hk, Nat.sub_zero, List.drop_zero]
theorem le1k {n : Nat} (h : n ≤ 1000) : n ≤ sizeLine := Nat.le_trans h (by decide)
theorem lt1k {n : Nat} (h : n ≤ 1000) : n < sizeLine := Nat.lt_of_le_of_lt h (by decide)
/-! ### a set comprehension of ints: a rule of our own -/
/-- what one turn with item v asks: the target, the tests, the element, and then the set D with it -/
def oneTurn (w : World) (D : Addr) (gt : TG) (tst : TT) (elm : TE) (gone : List Nat) (σ : L2.St) (v : V) (Ha : Hp) (nxt : Hp → Prop) : Prop :=
  gt v (wipe σ gone) Ha fun σb Hb => wipe σb gone = wipe σ gone ∧ tst σb Hb fun yes Hc =>
    if yes = true then elm σb Hc fun z Hd => ∃ (k : Int) (M : Int → Bool) (c : Nat), z = .int k ∧ Hd D = some (SetO w D M c) ∧ c + 1 < scanBound ∧
      nxt (upd Hd D (SetO w D (fun j => M j || decide (j = k)) (if M k = true then c else c + 1)))
    else nxt Hc
def tScI (w : World) (src : TI) (gt : TG) (tst : TT) (elm : TE) (gone : List Nat) : TE := fun σ H Q =>
  src σ H fun J Ha => ∀ D, Ha D = none → ∃ Z : Nat → Nat → Hp → Prop, (∃ m, Z 0 m (upd Ha D (SetO w D (fun _ => false) 0))) ∧
    ∀ i m Hb, Z i m Hb → (J.stop i Hb ∧ Q (.ref D) Hb) ∨
      (J.go i Hb ∧ ∃ nxt : Hp → Prop, (∀ Hc, nxt Hc → ∃ m', m' < m ∧ Z (i + 1) m' Hc) ∧ ∀ v Hc, J.yld i Hb v Hc → oneTurn w D gt tst elm gone σ v Hc nxt)
section
variable {X : Cx}
theorem pe_scI {elt tg iter : Expr} {ifs : List Expr} {scope : Scope} {own : List (PySem.Str × Nat)} {pos : Pos} {src : TI} {gt : TG} {tst : TT} {elm : TE}
    (calm : X.calm = true) (nd : X.N.Nodup) (hsrc : PI X tg iter src) (blk : BlkOk X.N X.env.scope scope own)
    (hgt : ∀ (s0 : Shared) (H0 : Hp) (B : Addr) (cls : List (PySem.Str × Addr)) (held : List Addr), PG (X.blk s0 H0 scope (compEnvC scope cls B X.env) held) tg gt)
    (htst : ∀ (s0 : Shared) (H0 : Hp) (B : Addr) (cls : List (PySem.Str × Addr)) (held : List Addr), PTs (X.blk s0 H0 scope (compEnvC scope cls B X.env) held) ifs tst)
    (helm : ∀ (s0 : Shared) (H0 : Hp) (B : Addr) (cls : List (PySem.Str × Addr)) (held : List Addr), PE (X.blk s0 H0 scope (compEnvC scope cls B X.env) held) elt elm)
    (fold : ∀ z, foldedSetIterable iter X.env z = pure z := by intro _; rfl) :
    PE X (.SetComp elt [⟨tg, iter, ifs, 0⟩] scope pos) (tScI X.w src gt tst elm (own.map (·.2))) := by
  constructor
  intro pins s σ H Q Iv want
  rw [PpSet.eval_SetComp]
  have caps : ∀ y ∈ scope.names, y.2 = .free → ∃ c, X.env.cells.lookup y.1 = some c := by
    intro y my fy
    cases blk.free y my fy with
    | inl k => exact Iv.ok.has _ (.inl k)
    | inr k => exact Iv.ok.has _ (.inr k)
  refine wpAny_comprehension_free (use := none) rfl fold (closure_ok caps) blk.kind (fun y my ey => by rw [blk.uniq y my, ey]) ?_
  refine thn (hsrc.run pins s σ H _ Iv want) fun u0 sA gotIt => thn gotIt fun u1 sB two => ?_
  obtain ⟨itr, held, turns, J, HB, eu, IB, TW, atZero, clear, rest⟩ := two
  subst eu
  refine PpSet.newSet_ok (newEnv_comp ?_)
  -- D is where the set will stand
  obtain ⟨D, eD⟩ : ∃ D, D = sB.heap.objs.size := ⟨_, rfl⟩
  rw [← eD]
  have freeD : HB D = none := IB.hok.fresh (by rw [eD]; exact Nat.le_refl _)
  obtain ⟨Z, ⟨mz, z0⟩, go1⟩ := rest D freeD
  obtain ⟨bare, ebare⟩ : ∃ bare : Obj, bare = { cls := .type "set", dict := none, data := .set #[] 0 (.fresh 0 0 (!X.w.params.followText "set-order")) } := ⟨_, rfl⟩
  rw [← ebare]
  obtain ⟨sC, eC⟩ : ∃ sC : Shared, sC = { sB with heap := sB.heap.push bare } := ⟨_, rfl⟩
  have hC : sC.heap = sB.heap.push bare := by rw [eC]
  have setNew : SetR X.w sC.heap D (fun _ => false) 0 := by
    rw [hC, eD]
    refine SetR.congr (setR_new_at (ns := []) ?_) (fun _ => rfl)
    rw [ebare]
    exact Heap.get?_push_size _ rfl
  have IC : Inv X pins σ (upd HB D (SetO X.w D (fun _ => false) 0)) sC := by
    rw [eC]
    refine IB.laid (t' := sB.toks) (fun b o e => Heap.get?_push_of_some _ e) (by rw [eD]; exact Nat.le_refl _) ?_
    have e1 : ({ sB with heap := sB.heap.push bare } : Shared).heap = sC.heap := by rw [eC]
    show ObjOk _ _ _ (sB.heap.push bare) D _
    rw [← hC]
    exact setO_new setNew
  have below : ∀ b ∈ held, b < sB.heap.objs.size := by
    intro b hb
    obtain ⟨o, e, _⟩ := TW.obj _ _ atZero b hb
    exact Heap.lt_size e
  have clearC : ∀ b ∈ held, FpOk X pins (upd HB D (SetO X.w D (fun _ => false) 0)) b ∧ b < sC.heap.objs.size := by
    intro b hb
    have lt := below b hb
    refine ⟨⟨?_, (clear b hb).2⟩, ?_⟩
    · rw [upd_ne (by rw [eD]; exact Nat.ne_of_lt lt)]
      exact (clear b hb).1
    · rw [hC, Heap.size_push]
      exact Nat.lt_succ_of_lt lt
  have atC : turns 0 sC.heap := TW.keep _ _ _ atZero fun b _ o e => by
    rw [hC]
    exact Heap.get?_push_of_some _ e
  have IE := block_start IC blk nd clearC
  obtain ⟨HC, eHC⟩ : ∃ HC, HC = upd HB D (SetO X.w D (fun _ => false) 0) := ⟨_, rfl⟩
  rw [← eHC] at IC IE clearC z0
  obtain ⟨cells, ecells⟩ : ∃ cells, cells = cellsFrom (sC.heap.objs.size + 1) scope.names (cloFrom X.env.cells scope.names []) := ⟨_, rfl⟩
  obtain ⟨ce, ece⟩ : ∃ ce, ce = compEnvC scope cells sC.heap.objs.size X.env := ⟨_, rfl⟩
  have jg := hgt sC HC sC.heap.objs.size cells held
  have jt := htst sC HC sC.heap.objs.size cells held
  have je := helm sC HC sC.heap.objs.size cells held
  rw [← ece] at jg jt je
  obtain ⟨sE, eE⟩ : ∃ sE : Shared, sE = { sC with heap := pushCells (sC.heap.push { cls := .type "dict", data := .dict #[] }) scope.names } := ⟨_, rfl⟩
  rw [← ecells, ← ece, ← eE] at IE
  have lce : ce.locals = sC.heap.objs.size := by rw [ece]; rfl
  have none0 : ∀ b ∈ held, HC b = none := fun b hb => (clearC b hb).1.1
  have atE : turns 0 sE.heap := TW.keep _ _ _ atC fun b _ o e => by
    rw [eE]
    exact pushCells_keeps _ _ _ _ (Heap.get?_push_of_some _ e)
  rw [← eC, ← ecells]
  show codeAny _ _ (.compStart (.SetComp elt [⟨tg, iter, ifs, 0⟩] scope pos) 0 (.ref itr) (.ref D) (compEnvC scope cells sC.heap.objs.size X.env)) _ _
  rw [← ece]
  have still : ∀ {σ' : L2.St} {H' : Hp} {s' : Shared}, Inv (X.blk sC HC scope ce held) [] σ' H' s' → (∀ b ∈ held, H' b = none) → ∀ b ∈ held, FpOk (X.blk sC HC scope ce held) [] H' b := by
    intro σ' H' s' I' n0 b hb
    exact ⟨n0 b hb, (I'.ok.exf b hb).1, I'.ok.exfs b hb, .inl hb, fun x c e => (I'.ok.exf b hb).2 x c e, fun p hp => absurd (show p ∈ ([] : List (Addr × Obj)) ++ [] from hp) (by simp)⟩
  let Here : Nat → Shared → Prop := fun n s' => ∃ i H', Inv (X.blk sC HC scope ce held) [] (wipe σ (own.map (·.2))) H' s' ∧ turns i s'.heap ∧ (∀ b ∈ held, H' b = none) ∧ Z i n H'
  have loop : codeAny (model X.prog X.w) X.A (.compLoop (.SetComp elt [⟨tg, iter, ifs, 0⟩] scope pos) 0 (.ref itr) (.ref D) ce) (compPost (model X.prog X.w) X.A X.xe none (EP X pins σ Q) (.ref D) sC.heap.objs.size) sE := by
    refine PpSet.compLoopS_any Here ?_ mz ⟨0, HC, IE, atE, none0, z0⟩
    rintro n s5 ⟨i, H5, I5, at5, n5, z5⟩
    cases go1 i n H5 z5 with
    | inl stops =>
      obtain ⟨stop, fin⟩ := stops
      refine thnF (TW.done (X.blk sC HC scope ce held) rfl rfl rfl calm i [] s5 _ H5 (fun _ _ => False) I5 (still I5 n5) at5 stop) fun r s6 both => ?_
      obtain ⟨er, I6⟩ := both
      subst er
      have I7 : Inv X pins σ H5 s6 := IC.call' (ch := held) I6.os I6.base I6.hok I6.bare fun b hb => ⟨(clearC b hb).1.2.2.2.1, (clearC b hb).1.2.1, (clearC b hb).1.2.2.2.2.1, (clearC b hb).1.2.2.2.2.2⟩
      have frC : H5 sC.heap.objs.size = none := by
        have q : H5 ce.locals = none := I6.free
        rw [lce] at q
        exact q
      obtain ⟨m, mns, _⟩ := I6.loc
      have mns' : s6.heap.Ns ce.locals m := mns
      rw [lce] at mns'
      refine ⟨m, mns', fun h2 same => ?_⟩
      obtain ⟨k0, k1, k2, k3, k4, k5⟩ := IC.fpOk (Nat.le_refl _) frC
      exact ⟨.ref D, H5, I7.turned (t' := s6.toks) (fun b o hb e => (same.2 b hb).trans e) k0 k1 k3 k4 k5, rfl, fin⟩
    | inr goes =>
      obtain ⟨go, nxt, down, step⟩ := goes
      refine thnF (TW.item (X.blk sC HC scope ce held) rfl rfl rfl calm i [] s5 _ H5 (fun _ _ => False) I5 (still I5 n5) at5 go) fun r s6 both => ?_
      obtain ⟨u, er, more⟩ := both
      subst er
      refine thnF more fun _ s7 drawn => ?_
      obtain ⟨x, H7, I7, r7, y7, at7, n7⟩ := drawn
      have I7p := I7.pinned (still I7 n7) (TW.obj _ _ at7)
      refine thnF (jg.run _ s7 _ H7 x u _ I7p r7 (step x H7 y7)) fun _ s8 g8 => ?_
      obtain ⟨σ8, H8, I8, w8, q8⟩ := g8
      refine thnF (jt.run _ s8 σ8 H8 _ I8 q8) fun yes s9 g9 => ?_
      obtain ⟨H9, I9, q9⟩ := g9
      have next : ∀ {s' : Shared} {H' : Hp}, Inv (X.blk sC HC scope ce held) ([] ++ pinsAt held s7.heap) σ8 H' s' → nxt H' → ∃ m, m < n ∧ Here m s' := by
        intro s' H' I' nx
        obtain ⟨m', lt, z'⟩ := down H' nx
        have pinned : ∀ b ∈ held, ∀ o, s7.heap.get? b = some o → s'.heap.get? b = some o ∧ H' b = none := by
          intro b hb o e
          have q := I'.pin (b, o) (List.mem_append_right _ (List.mem_append_right _ (mem_pinsAt hb e)))
          exact ⟨q.1, q.2.1⟩
        have lens : (wipe σ (own.map (·.2))).length = σ8.length := by rw [← w8, wipe_length]
        refine ⟨m', lt, i + 1, H', (I'.unpinned (pins := [])).weak lens (fun j v e => ?_), TW.keep _ _ _ at7 (fun b hb o e => (pinned b hb o e).1), fun b hb => ?_, z'⟩
        · rw [← w8] at e
          exact (wipe_some e).1
        · obtain ⟨o, e, _⟩ := TW.obj _ _ at7 b hb
          exact (pinned b hb o e).2
      cases yes with
      | false =>
        simp only [Bool.false_eq_true, if_false] at q9 ⊢
        exact next I9 q9
      | true =>
        simp only [if_true] at q9 ⊢
        refine thnF (je.run _ s9 σ8 H9 _ I9 q9) fun z s10 g10 => ?_
        obtain ⟨yv, H10, I10, r10, k, M, c, ey, hD10, room, nx⟩ := g10
        subst ey
        refine thnF (mt_sadd (X := X.blk sC HC scope ce held) _ s10 σ8 H10 (.ref D) [.int k] (.ref D) [z] (fun v H' => v = .non ∧ nxt H') I10 rfl (.cons r10 .nil) ⟨D, k, M, c, rfl, rfl, hD10, room, rfl, nx⟩) fun v s11 g11 => ?_
        obtain ⟨v', H11, I11, _, _, nx'⟩ := g11
        exact next I11 nx'
  have start := PpSet.codeAny_compStart_set loop (TW.self X.A 0 _ _ _ atE loop)
  rw [eE] at start
  exact start
end
/-! ### {t: v}: a dict of one pair, its key a tuple of ints and texts: a rule of our own -/
def tDisp1T (trs : List (TE × TE)) : TE := fun σ H Q => ∀ p, H p = none → tPairs trs σ (upd H p (.dT [])) fun ps H2 =>
  H2 p = some (.dT []) ∧ ∃ (b : Addr) (k : List Key) (v : V), ps = [(.ref b, v)] ∧ H2 b = some (.tup (k.map kV)) ∧ Q (.ref p) (upd H2 p (.dT [(k, v)]))
theorem pe_disp1T {X : Cx} {pos : Pos} {ke ve : Expr} {trs : List (TE × TE)} (hu : X.A.units + 1 < cLine) (h : PPs X pos [some ke] [ve] trs) : PE X (.Dict [some ke] [ve] pos) (tDisp1T trs) := by
  constructor
  intro pins s σ H Q I q
  have fresh := I.hok.fresh (Nat.le_refl s.heap.objs.size)
  have I1 := I.laid (a := s.heap.objs.size) (o := .dT []) (h' := s.heap.push { cls := .type "dict", data := .dict #[] }) (t' := s.toks) (fun _ _ e => Heap.get?_push_of_some _ e) (Nat.le_refl _) (dt_empty s.heap I.big)
  have run := h.run pins _ σ _ _ I1 (q _ fresh)
  rw [arm_eval_Dict, zip_pairTrees [some ke] [ve] X.env pos rfl rfl, dictDisplay_pairs _ (by simp [pairTrees]) (by simp [pairTrees])]
  refine wpAny_bind (wpAny_standAt (wpAny_bind (wpAny_subDictH (knd := tupleKind (mixKind X.prog X.w)) (Q := fun d s' => wpAny (model X.prog X.w) X.A (pure (Value.ref d)) (EP X pins σ Q) X.xe s') (by show X.A.units < cLine; omega) (by simp [pairTrees]) ?_)))
  refine thn run fun ws s2 res => ?_
  obtain ⟨ps, H2, I2, rel, e, b, k, v, eps, hb, q2⟩ := res
  subst eps
  cases rel with
  | cons r1 r2 =>
    cases r2
    rename_i kw
    obtain ⟨ku, vu⟩ := kw
    obtain ⟨rk, rv⟩ := r1
    have ek : ku = Value.ref b := rk
    subst ek
    obtain ⟨z, hd, xs, rel0, dd⟩ := dt_of I2.hok e
    cases rel0
    refine ⟨[(k, b, vu)], ⟨rfl, rfl, key_of I2.hok hb, trivial⟩, dd, fun h' tk dd' hs => wpAny_pure ?_⟩
    obtain ⟨o, es, ep, ho, h2, h3, h4, _, h5⟩ := dd'
    refine ⟨.ref s.heap.objs.size, _, d_write (ob := .dT [(k, v)]) I2 (by rw [e]; exact True.intro) hs ⟨o, ho⟩ ⟨Nat.le_of_lt (by decide : (1 : Nat) < sizeLine), hd, [(k, b, vu)], .cons ⟨rfl, ?_, rv⟩ .nil, o, es, ep, ho, h2, h3, h4, h5⟩, rfl, q2⟩
    rw [upd_ne (ne_of hb e (fun z => nomatch z))]
    exact hb
/-! ### groups of places: the mathematics -/
def goodG (many : Nat) (g : List Int) : Prop := g.Pairwise (· < ·) ∧ ∀ x ∈ g, 0 ≤ x ∧ x < (many : Int)
theorem rise_lenG : ∀ {g : List Int} {lo hi : Int}, g.Pairwise (· < ·) → (∀ x ∈ g, lo ≤ x ∧ x < hi) → (g.length : Int) ≤ max 0 (hi - lo)
  | [], lo, hi, _, _ => by
    show ((0 : Nat) : Int) ≤ max 0 (hi - lo)
    omega
  | x :: g, lo, hi, hp, hb => by
    obtain ⟨h1, h2⟩ := List.pairwise_cons.mp hp
    obtain ⟨b1, b2⟩ := hb x List.mem_cons_self
    have ih := rise_lenG (lo := x + 1) (hi := hi) h2 fun y hy => ⟨by have := h1 y hy; omega, (hb y (List.mem_cons_of_mem _ hy)).2⟩
    rw [List.length_cons]
    omega
theorem goodG.len {many : Nat} {g : List Int} (h : goodG many g) : g.length ≤ many := by
  have := rise_lenG h.1 h.2
  omega
def ids (many : Nat) : List Int := (List.range many).map fun (i : Nat) => (i : Int)
theorem ids_pair (many : Nat) : (ids many).Pairwise (· < ·) := by
  unfold ids
  rw [List.pairwise_map]
  refine List.Pairwise.imp ?_ List.pairwise_lt_range
  intro a b h
  omega
theorem mem_ids {many : Nat} {k : Int} : k ∈ ids many ↔ 0 ≤ k ∧ k < (many : Int) := by
  unfold ids
  rw [List.mem_map]
  constructor
  · rintro ⟨i, hi, rfl⟩
    have := List.mem_range.mp hi
    omega
  · rintro ⟨h0, h1⟩
    exact ⟨k.toNat, List.mem_range.mpr (by omega), by omega⟩
theorem ids_good (many : Nat) : goodG many (ids many) := ⟨ids_pair many, fun _ h => mem_ids.mp h⟩
def ledG (many : Nat) (row g : List Int) : List Int := (ids many).filter fun k => decide (k ∈ g.map (goK row))
theorem ledG_good (many : Nat) (row g : List Int) : goodG many (ledG many row g) := by
  refine ⟨List.Pairwise.filter _ (ids_pair many), fun x hx => ?_⟩
  exact mem_ids.mp (List.mem_filter.mp hx).1
theorem goK_in' {many : Nat} {f : List Int} {p : Int} (h : GoodRow many f) (h0 : 0 ≤ p) (h1 : p < (many : Int)) : 0 ≤ goK f p ∧ goK f p < (many : Int) := by
  have hl : p.toNat < f.length := by rw [h.1]; omega
  unfold goK
  rw [List.getD_eq_getElem?_getD, List.getElem?_eq_getElem hl]
  exact h.2 _ (List.getElem_mem hl)
theorem mem_ledG {many : Nat} {row g : List Int} {k : Int} (hr : GoodRow many row) (hg : ∀ x ∈ g, 0 ≤ x ∧ x < (many : Int)) : k ∈ ledG many row g ↔ ∃ x ∈ g, goK row x = k := by
  unfold ledG
  rw [List.mem_filter, mem_ids]
  constructor
  · rintro ⟨_, h⟩
    exact List.mem_map.mp (of_decide_eq_true h)
  · rintro ⟨x, hx, rfl⟩
    exact ⟨goK_in' hr (hg x hx).1 (hg x hx).2, decide_eq_true (List.mem_map.mpr ⟨x, hx, rfl⟩)⟩
theorem at_goK {row : List Int} {p : Int} (h0 : 0 ≤ p) (h : p.toNat < row.length) : (row.map V.int)[p.toNat]? = some (.int (goK row p)) := by
  rw [List.getElem?_map, List.getElem?_eq_getElem h]
  unfold goK
  rw [List.getD_eq_getElem?_getD, List.getElem?_eq_getElem h]
  rfl
/-- a set comprehension over a tuple of ints, its element an int -/
theorem scI_tup {w : World} {K : PySem.W.Frag} {a D : Addr} {ns : List Int} {f : Int → Int} {j : Nat} {elm : TE} {σ : L2.St} {H1 : Hp} {gone : List Nat} {Qd : Hp → Prop} (nD : H1 D = none) (hT : SqT K H1 a (ns.map V.int)) (small : ns.length + 1 < scanBound)
    (keep : ∀ n : Int, wipe ((wipe σ gone).set j (some (.int n))) gone = wipe σ gone)
    (turn : ∀ n ∈ ns, ∀ (H' : Hp) (q : VK), Same H1 H' → q (.int (f n)) H' → elm ((wipe σ gone).set j (some (.int n))) H' q)
    (done : ∀ H' M c, Same H1 H' → H' D = some (SetO w D M c) → (∀ k, M k = true ↔ k ∈ ns.map f) → c ≤ ns.length → Qd H') :
    ∃ Z : Nat → Nat → Hp → Prop, (∃ m, Z 0 m (upd H1 D (SetO w D (fun _ => false) 0))) ∧
      ∀ i m Hb, Z i m Hb → ((Itt K a).stop i Hb ∧ Qd Hb) ∨
        ((Itt K a).go i Hb ∧ ∃ nxt : Hp → Prop, (∀ Hc, nxt Hc → ∃ m', m' < m ∧ Z (i + 1) m' Hc) ∧ ∀ v Hc, (Itt K a).yld i Hb v Hc → oneTurn w D (gName j) tYes elm gone σ v Hc nxt) := by
  let At : Nat → Hp → Prop := fun i Hb => Same H1 Hb ∧ ∃ M c, Hb D = some (SetO w D M c) ∧ (∀ k, M k = true ↔ k ∈ (ns.take i).map f) ∧ c ≤ i
  refine ⟨fun i m Hb => m = ns.length - i ∧ i ≤ ns.length ∧ At i Hb, ⟨ns.length, rfl, Nat.zero_le _, same_new nD, _, 0, upd_same, fun k => by simp, Nat.le_refl _⟩, ?_⟩
  rintro i m Hb ⟨rfl, hi, sH, M, c, hD, hM, hc⟩
  have hT' := Same.seqt sH hT
  by_cases lt : i < ns.length
  · refine .inr ⟨⟨_, .int ns[i], hT', by rw [List.getElem?_map, List.getElem?_eq_getElem lt]; rfl⟩, At (i + 1), fun Hc p => ⟨ns.length - (i + 1), by omega, rfl, lt, p⟩, fun v Hc y => ?_⟩
    obtain ⟨e, y⟩ := y
    subst e
    have ev := y _ hT'
    rw [List.getElem?_map, List.getElem?_eq_getElem lt] at ev
    have ev' : v = .int ns[i] := (Option.some.inj ev).symm
    subst ev'
    refine ⟨keep _, turn ns[i] (List.getElem_mem lt) _ _ sH ⟨f ns[i], M, c, rfl, hD, by omega, ?_⟩⟩
    refine ⟨fun b o e => by rw [upd_ne (ne_of_none e nD)]; exact sH b o e, _, _, upd_same, fun k => ?_, ?_⟩
    · rw [Bool.or_eq_true, hM k, decide_eq_true_iff, take_snoc (List.getElem?_eq_getElem lt), List.map_append, List.mem_append]
      constructor
      · rintro (h | h)
        · exact .inl h
        · exact .inr (by rw [h]; simp)
      · rintro (h | h)
        · exact .inl h
        · exact .inr (by simpa using h)
    · split <;> omega
  · have e : i = ns.length := by omega
    subst e
    refine .inl ⟨⟨_, hT', by rw [List.length_map]; exact Nat.le_refl _⟩, done Hb M c sH hD (fun k => by rw [hM k, List.take_length]) hc⟩
section
variable {P : Program} {w : World} {K : PySem.W.Frag} {mg : Str → Option Value} {base : Heap}
/-! ### led_to -/
theorem scLed : FnScope ["whither", "group", "place"] ["whither", "group"] (defScope sLedTo) := ⟨rfl, rfl, rfl, by decide +kernel, rfl, by decide +kernel, by decide +kernel⟩
def spLed : Sp := fun vs H Q _ => ∃ (wa ga : Addr) (many : Nat) (row g : List Int), vs = [.ref wa, .ref ga] ∧ H wa = some (.tup (row.map V.int)) ∧ H ga = some (.tup (g.map V.int)) ∧ many ≤ 6 ∧ GoodRow many row ∧ goodG many g ∧
  ∀ p H', Same H H' → H p = none → H' p = some (.tup ((ledG many row g).map V.int)) → Q (.ref p) H'
theorem ok_led {f : Addr} {fd : FuncData} {k : Nat} (F : Fun K "led_to" "led_to" sLedTo f fd) (mt : mg "tuple" = none) (ms : mg "sorted" = none) : FnOk P w K mg base CX0 (k + 1) f fd ["whither", "group"] spLed := by
  refine F.ok scLed (fun vs H Q E h => ?_) (fun cdv A outer s H vs Q E hr h => ?_)
  · obtain ⟨wa, ga, many, row, g, rfl, _⟩ := h
    rfl
  · obtain ⟨wa, ga, many, row, g, rfl, hw, hg, m6, hrow, gg, q⟩ := h
    refine ⟨_, pss_one (ps_ret (pe_callTy call_tuple_of (by rfl) mt (by decide +kernel) (pa_cons (pe_callB (cr_sortedSet rfl) (by rfl) ms (by decide +kernel) (pa_cons
      (pe_scI (own := [("place", 2)]) (gt := gName 2) (tst := tYes) (elm := tOp (rIxT K) (tVar 0) (tVar 2)) rfl scLed.nd (pi_tup (pv 1)) (blkOk_by (N := ["whither", "group", "place"]) (sc := defScope sLedTo) (by decide +kernel)) (fun _ _ _ _ _ => pg_name (i := 2) scLed.nd rfl (.inl rfl)) (fun _ _ _ _ _ => pts_nil) (fun _ _ _ _ _ => by exact (pe_ix ix_tup (pv 0) (pv 2) (fun _ _ => rfl)))) pa_nil)) pa_nil))), ?_⟩
    have len := gg.len
    refine ⟨.ref ga, rfl, ga, rfl, ⟨_, SqT.of hg⟩, fun D nD => ?_⟩
    refine scI_tup (w := w) (ns := g) (f := goK row) (j := 2) nD (SqT.of hg) (by unfold scanBound; omega) (fun n => rfl) (fun n hn H' q' sH hq => ?_) (fun H' M c sH hD hM hc => ?_)
    · obtain ⟨n0, n1⟩ := gg.2 n hn
      refine ⟨.ref wa, rfl, .int n, rfl, wa, _, n, _, rfl, rfl, SqT.of (sH _ _ hw), at_of (show n = ((n.toNat : Nat) : Int) by omega) (at_goK n0 (by rw [hrow.1]; omega)), hq⟩
    · refine ⟨D, M, c, rfl, hD, by omega, fun ns p hp hmem hlen np => ?_⟩
      refine ⟨p, _, rfl, .inl ⟨SqL.of upd_same, fun t nt => ?_⟩⟩
      have e : ns = ledG many row g := by
        refine rise_same hp (ledG_good many row g).1 fun k => ?_
        rw [hmem k, hM k, mem_ledG hrow gg.2, List.mem_map]
      rw [e] at nt ⊢
      have s2 := sH.trans (same_new (o := .lst ((ledG many row g).map V.int)) np)
      exact q t _ (s2.trans (same_new nt)) (s2.free nt) upd_same
end
/-! ### all groups to which rows lead: the mathematics -/
abbrev GR := List Int × List Int
def keysG (l : List GR) : List (List Int) := l.map (·.1)
def addG (l : List GR) (g r : List Int) : List GR := if g ∈ keysG l then l else l ++ [(g, r)]
def rowM (ms : List Mv) (n : Nat) : List Int := (ms.getD n (0, [])).2
def visitN (many : Nat) (ms : List Mv) (g r : List Int) (l : List GR) : Nat → List GR
  | 0 => l
  | k + 1 => addG (visitN many ms g r l k) (ledG many (rowM ms k) g) (r ++ [(k : Int)])
def stepN (many : Nat) (ms : List Mv) (l : List GR) (d : Nat) : List GR := match l[d]? with
  | none => l
  | some p => visitN many ms p.1 p.2 l ms.length
def bfsN (many : Nat) (ms : List Mv) (b : List Int) : Nat → List GR
  | 0 => [(b, [])]
  | d + 1 => stepN many ms (bfsN many ms b d) d
def gf (many : Nat) (ms : List Mv) (b : List Int) : List GR := bfsN many ms b 64
/-- what stood stands, at its place -/
def Pre (l l' : List GR) : Prop := ∃ t, l' = l ++ t
theorem Pre.refl (l : List GR) : Pre l l := ⟨[], (List.append_nil l).symm⟩
theorem Pre.trans {a b c : List GR} (h : Pre a b) (k : Pre b c) : Pre a c := by
  obtain ⟨t, rfl⟩ := h
  obtain ⟨u, rfl⟩ := k
  exact ⟨t ++ u, by rw [List.append_assoc]⟩
theorem Pre.at {a b : List GR} (h : Pre a b) {i : Nat} {p : GR} (e : a[i]? = some p) : b[i]? = some p := by
  obtain ⟨t, rfl⟩ := h
  obtain ⟨lt, _⟩ := List.getElem?_eq_some_iff.mp e
  rw [List.getElem?_append_left lt]
  exact e
theorem Pre.len {a b : List GR} (h : Pre a b) : a.length ≤ b.length := by
  obtain ⟨t, rfl⟩ := h
  rw [List.length_append]
  omega
theorem Pre.keys {a b : List GR} (h : Pre a b) {g : List Int} (m : g ∈ keysG a) : g ∈ keysG b := by
  obtain ⟨t, rfl⟩ := h
  unfold keysG at *
  rw [List.map_append]
  exact List.mem_append.mpr (.inl m)
theorem addG_pre (l : List GR) (g r : List Int) : Pre l (addG l g r) := by
  unfold addG
  split
  · exact Pre.refl l
  · exact ⟨_, rfl⟩
theorem addG_mem (l : List GR) (g r : List Int) : g ∈ keysG (addG l g r) := by
  unfold addG
  split
  · assumption
  · unfold keysG
    rw [List.map_append]
    exact List.mem_append.mpr (.inr List.mem_cons_self)
theorem visitN_pre (many : Nat) (ms : List Mv) (g r : List Int) (l : List GR) : ∀ k, Pre l (visitN many ms g r l k)
  | 0 => Pre.refl l
  | k + 1 => (visitN_pre many ms g r l k).trans (addG_pre _ _ _)
theorem stepN_pre (many : Nat) (ms : List Mv) (l : List GR) (d : Nat) : Pre l (stepN many ms l d) := by
  unfold stepN
  split
  · exact Pre.refl l
  · exact visitN_pre _ _ _ _ _ _
theorem bfsN_pre (many : Nat) (ms : List Mv) (b : List Int) (d : Nat) : ∀ e, Pre (bfsN many ms b d) (bfsN many ms b (d + e))
  | 0 => Pre.refl _
  | e + 1 => (bfsN_pre many ms b d e).trans (stepN_pre _ _ _ _)
/-- a property of all that is found -/
theorem addG_all {F : GR → Prop} {l : List GR} {g r : List Int} (h : ∀ p ∈ l, F p) (n : F (g, r)) : ∀ p ∈ addG l g r, F p := by
  unfold addG
  split
  · exact h
  · intro p hp
    rcases List.mem_append.mp hp with hp | hp
    · exact h p hp
    · rw [List.mem_singleton.mp hp]
      exact n
theorem visitN_all {F : GR → Prop} {many : Nat} {ms : List Mv} {g r : List Int} {l : List GR} (h : ∀ p ∈ l, F p) (n : ∀ k, k < ms.length → F (ledG many (rowM ms k) g, r ++ [(k : Int)])) : ∀ k, k ≤ ms.length → ∀ p ∈ visitN many ms g r l k, F p
  | 0, _ => h
  | k + 1, hk => addG_all (visitN_all h n k (by omega)) (n k (by omega))
theorem bfsN_all {F : GR → Prop} {many : Nat} {ms : List Mv} {b : List Int} (h0 : F (b, [])) (n : ∀ p k, F p → k < ms.length → F (ledG many (rowM ms k) p.1, p.2 ++ [(k : Int)])) : ∀ d, ∀ p ∈ bfsN many ms b d, F p
  | 0 => fun p hp => by rw [List.mem_singleton.mp hp]; exact h0
  | d + 1 => by
    have ih := bfsN_all h0 n d
    show ∀ p ∈ stepN many ms (bfsN many ms b d) d, F p
    unfold stepN
    split
    · exact ih
    · rename_i q hq
      exact visitN_all ih (fun k hk => n q k (ih q (List.mem_of_getElem? hq)) hk) _ (Nat.le_refl _)
theorem addG_nodup {l : List GR} {g r : List Int} (h : (keysG l).Nodup) : (keysG (addG l g r)).Nodup := by
  unfold addG
  split
  · exact h
  · rename_i n
    unfold keysG at *
    rw [List.map_append]
    refine List.nodup_append.mpr ⟨h, by simp, fun a ha c hc => ?_⟩
    rw [List.mem_singleton.mp hc]
    intro e
    subst e
    exact n ha
theorem visitN_nodup {many : Nat} {ms : List Mv} {g r : List Int} {l : List GR} (h : (keysG l).Nodup) : ∀ k, (keysG (visitN many ms g r l k)).Nodup
  | 0 => h
  | k + 1 => addG_nodup (visitN_nodup h k)
theorem bfsN_nodup (many : Nat) (ms : List Mv) (b : List Int) : ∀ d, (keysG (bfsN many ms b d)).Nodup
  | 0 => by simp [bfsN, keysG]
  | d + 1 => by
    have ih := bfsN_nodup many ms b d
    show (keysG (stepN many ms (bfsN many ms b d) d)).Nodup
    unfold stepN
    split
    · exact ih
    · exact visitN_nodup ih _
theorem bfsN_good {many : Nat} {ms : List Mv} {b : List Int} (hb : goodG many b) (d : Nat) : ∀ p ∈ bfsN many ms b d, goodG many p.1 :=
  bfsN_all (F := fun p => goodG many p.1) hb (fun _ _ _ _ => ledG_good _ _ _) d
/-! how many there may be -/
def subs : List Int → List (List Int)
  | [] => [[]]
  | x :: xs => subs xs ++ (subs xs).map (x :: ·)
theorem subs_len : ∀ xs : List Int, (subs xs).length = 2 ^ xs.length
  | [] => rfl
  | x :: xs => by
    show (subs xs ++ (subs xs).map (x :: ·)).length = _
    rw [List.length_append, List.length_map, subs_len xs, List.length_cons, Nat.pow_succ]
    omega
theorem mem_subs : ∀ {xs g : List Int}, xs.Pairwise (· < ·) → g.Pairwise (· < ·) → (∀ k ∈ g, k ∈ xs) → g ∈ subs xs
  | [], g, _, _, h => by
    cases g with
    | nil => exact List.mem_cons_self
    | cons a r => exact absurd (h a List.mem_cons_self) (by simp)
  | x :: xs, g, hx, hg, h => by
    obtain ⟨x1, x2⟩ := List.pairwise_cons.mp hx
    show g ∈ subs xs ++ (subs xs).map (x :: ·)
    cases g with
    | nil => exact List.mem_append.mpr (.inl (mem_subs x2 .nil fun k hk => nomatch hk))
    | cons a r =>
      obtain ⟨a1, a2⟩ := List.pairwise_cons.mp hg
      by_cases e : a = x
      · subst e
        refine List.mem_append.mpr (.inr (List.mem_map.mpr ⟨r, mem_subs x2 a2 fun k hk => ?_, rfl⟩))
        rcases List.mem_cons.mp (h k (List.mem_cons_of_mem _ hk)) with z | z
        · have := a1 k hk
          omega
        · exact z
      · refine List.mem_append.mpr (.inl (mem_subs x2 hg fun k hk => ?_))
        have ha : a ∈ xs := (List.mem_cons.mp (h a List.mem_cons_self)).resolve_left e
        rcases List.mem_cons.mp (h k hk) with z | z
        · have := x1 a ha
          rcases List.mem_cons.mp hk with w | w
          · exact absurd (w.symm.trans z) e
          · have := a1 k w
            omega
        · exact z
theorem pigeon {α : Type} [DecidableEq α] : ∀ {l m : List α}, l.Nodup → (∀ x ∈ l, x ∈ m) → l.length ≤ m.length
  | [], _, _, _ => Nat.zero_le _
  | x :: l, m, hn, h => by
    obtain ⟨n1, n2⟩ := List.nodup_cons.mp hn
    have hx := h x List.mem_cons_self
    have ih := pigeon (m := m.erase x) n2 fun y hy => (List.mem_erase_of_ne (fun e => n1 (by rw [← e]; exact hy))).mpr (h y (List.mem_cons_of_mem _ hy))
    rw [List.length_erase_of_mem hx] at ih
    have : 0 < m.length := List.length_pos_of_mem hx
    rw [List.length_cons]
    omega
theorem bfsN_len {many : Nat} {ms : List Mv} {b : List Int} (hb : goodG many b) (m6 : many ≤ 6) (d : Nat) : (bfsN many ms b d).length ≤ 64 := by
  have h := pigeon (m := subs (ids many)) (bfsN_nodup many ms b d) fun g hg => by
    obtain ⟨p, hp, rfl⟩ := List.mem_map.mp hg
    obtain ⟨g1, g2⟩ := bfsN_good hb d p hp
    exact mem_subs (ids_pair many) g1 fun k hk => mem_ids.mpr (g2 k hk)
  rw [subs_len] at h
  unfold keysG at h
  rw [List.length_map] at h
  have e : (ids many).length = many := by
    unfold ids
    rw [List.length_map, List.length_range]
  rw [e] at h
  exact Nat.le_trans h (Nat.pow_le_pow_right (n := 2) (by decide) m6)
/-- once all are done there is no more -/
theorem bfsN_end {many : Nat} {ms : List Mv} {b : List Int} {d : Nat} (h : (bfsN many ms b d).length ≤ d) : ∀ e, bfsN many ms b (d + e) = bfsN many ms b d
  | 0 => rfl
  | e + 1 => by
    have ih := bfsN_end h e
    show stepN many ms (bfsN many ms b (d + e)) (d + e) = _
    rw [ih]
    unfold stepN
    rw [List.getElem?_eq_none_iff.mpr (by omega)]
theorem bfsN_gf {many : Nat} {ms : List Mv} {b : List Int} {d : Nat} (h : (bfsN many ms b d).length ≤ d) (d64 : d ≤ 64) : bfsN many ms b d = gf many ms b := by
  have := bfsN_end h (64 - d)
  rw [show d + (64 - d) = 64 by omega] at this
  exact this.symm
theorem visitN_mem {many : Nat} {ms : List Mv} {g r : List Int} {l : List GR} : ∀ {k n : Nat}, n < k → ledG many (rowM ms n) g ∈ keysG (visitN many ms g r l k)
  | k + 1, n, h => by
    by_cases e : n = k
    · subst e
      exact addG_mem _ _ _
    · exact (addG_pre _ _ _).keys (visitN_mem (k := k) (by omega))
theorem bfsN_done {many : Nat} {ms : List Mv} {b : List Int} : ∀ (d : Nat) {i : Nat} {p : GR}, i < d → (bfsN many ms b d)[i]? = some p → ∀ n, n < ms.length → ledG many (rowM ms n) p.1 ∈ keysG (bfsN many ms b d)
  | d + 1, i, p, hi, e, n, hn => by
    have pre := bfsN_pre many ms b d 1
    by_cases c : i < (bfsN many ms b d).length
    · have e0 : (bfsN many ms b d)[i]? = some p := by
        have := pre.at (List.getElem?_eq_getElem c)
        rw [this] at e
        cases e
        exact List.getElem?_eq_getElem c
      by_cases c2 : i < d
      · exact pre.keys (bfsN_done d c2 e0 n hn)
      · have ed : i = d := by omega
        subst ed
        show _ ∈ keysG (stepN many ms (bfsN many ms b i) i)
        unfold stepN
        rw [e0]
        exact visitN_mem hn
    · exfalso
      have h : (bfsN many ms b d).length ≤ d := by omega
      have := bfsN_end h 1
      rw [this, List.getElem?_eq_none_iff.mpr (by omega)] at e
      cases e
theorem gf_len {many : Nat} {ms : List Mv} {b : List Int} (hb : goodG many b) (m6 : many ≤ 6) : (gf many ms b).length ≤ 64 := bfsN_len hb m6 64
/-- all is closed under moves -/
theorem gf_closed {many : Nat} {ms : List Mv} {b : List Int} (hb : goodG many b) (m6 : many ≤ 6) {g : List Int} (hg : g ∈ keysG (gf many ms b)) {n : Nat} (hn : n < ms.length) : ledG many (rowM ms n) g ∈ keysG (gf many ms b) := by
  obtain ⟨p, hp, rfl⟩ := List.mem_map.mp hg
  obtain ⟨i, hi, e⟩ := List.getElem_of_mem hp
  have := gf_len (ms := ms) hb m6
  exact bfsN_done 64 (i := i) (p := p) (by omega) (by rw [← e]; exact List.getElem?_eq_getElem hi) n hn
theorem gf_begin {many : Nat} {ms : List Mv} {b : List Int} : (gf many ms b)[0]? = some (b, []) := by
  have := (bfsN_pre many ms b 0 64).at (i := 0) (p := (b, [])) rfl
  rw [Nat.zero_add] at this
  exact this
theorem bfsN_rowlen {many : Nat} {ms : List Mv} {b : List Int} : ∀ d, ∀ p ∈ bfsN many ms b d, p.2.length ≤ d
  | 0 => fun p hp => by rw [List.mem_singleton.mp hp]; exact Nat.le_refl _
  | d + 1 => by
    have ih := bfsN_rowlen (many := many) (ms := ms) (b := b) d
    show ∀ p ∈ stepN many ms (bfsN many ms b d) d, p.2.length ≤ d + 1
    unfold stepN
    split
    · exact fun p hp => Nat.le_succ_of_le (ih p hp)
    · rename_i q hq
      refine visitN_all (F := fun p => p.2.length ≤ d + 1) (fun p hp => Nat.le_succ_of_le (ih p hp)) (fun k _ => ?_) _ (Nat.le_refl _)
      have := ih q (List.mem_of_getElem? hq)
      show (q.2 ++ [(k : Int)]).length ≤ d + 1
      rw [List.length_append]
      show q.2.length + 1 ≤ d + 1
      omega
theorem snocInd {α : Type} {F : List α → Prop} (h0 : F []) (h : ∀ l x, F l → F (l ++ [x])) (l : List α) : F l := by
  have : ∀ n (l : List α), l.length = n → F l := by
    intro n
    induction n with
    | zero =>
      intro l hl
      rw [List.eq_nil_of_length_eq_zero hl]
      exact h0
    | succ n ih =>
      intro l hl
      have ne : l ≠ [] := fun e => by rw [e] at hl; cases hl
      rw [← List.dropLast_concat_getLast ne]
      exact h _ _ (ih _ (by rw [List.length_dropLast]; omega))
  exact this l.length l rfl
/-- where a row leads a group -/
def runG (many : Nat) (ms : List Mv) (b : List Int) (r : List Int) : List Int := r.foldl (fun g n => ledG many (rowM ms n.toNat) g) b
theorem runG_snoc (many : Nat) (ms : List Mv) (b r : List Int) (n : Int) : runG many ms b (r ++ [n]) = ledG many (rowM ms n.toNat) (runG many ms b r) := by
  unfold runG
  rw [List.foldl_append]
  rfl
theorem gf_row {many : Nat} {ms : List Mv} {b : List Int} : ∀ p ∈ gf many ms b, runG many ms b p.2 = p.1 ∧ ∀ n ∈ p.2, 0 ≤ n ∧ n < (ms.length : Int) :=
  bfsN_all (F := fun p => runG many ms b p.2 = p.1 ∧ ∀ n ∈ p.2, 0 ≤ n ∧ n < (ms.length : Int)) ⟨rfl, fun _ h => nomatch h⟩ (fun p k h hk => by
    refine ⟨?_, fun n hn => ?_⟩
    · show runG many ms b (p.2 ++ [(k : Int)]) = _
      rw [runG_snoc, h.1]
      rfl
    · rcases List.mem_append.mp hn with hn | hn
      · exact h.2 n hn
      · rw [List.mem_singleton.mp hn]
        omega) 64
theorem gf_run {many : Nat} {ms : List Mv} {b : List Int} (hb : goodG many b) (m6 : many ≤ 6) : ∀ {r : List Int}, (∀ n ∈ r, 0 ≤ n ∧ n < (ms.length : Int)) → runG many ms b r ∈ keysG (gf many ms b) := by
  intro r
  refine snocInd (F := fun r => (∀ n ∈ r, 0 ≤ n ∧ n < (ms.length : Int)) → runG many ms b r ∈ keysG (gf many ms b)) ?_ ?_ r
  · intro _
    exact List.mem_map.mpr ⟨_, List.mem_of_getElem? gf_begin, rfl⟩
  · intro r n ih h
    rw [runG_snoc]
    have hn := h n (List.mem_append.mpr (.inr List.mem_cons_self))
    exact gf_closed hb m6 (ih fun z hz => h z (List.mem_append.mpr (.inl hz))) (by omega)
section
variable {P : Program} {w : World} {K : PySem.W.Frag} {mg : Str → Option Value} {base : Heap}
/-! ### groups_from -/
/-- a dict of groups and rows -/
abbrev KvAt (H : Hp) : List Key × V → GR → Prop := fun kv p => kv.1 = p.1.map Sum.inl ∧ ∃ a, kv.2 = .ref a ∧ H a = some (.lst (p.2.map V.int))
def GfAt (H : Hp) (D : Addr) (l : List GR) : Prop := ∃ kvs, H D = some (.dT kvs) ∧ Paired (KvAt H) kvs l
/-- a list of groups, as tuples -/
def GrpsAt (H : Hp) (vs : List V) (l : List GR) : Prop := Paired (fun v (p : GR) => ∃ a, v = V.ref a ∧ H a = some (.tup (p.1.map V.int))) vs l
theorem key_ints (g : List Int) : (g.map (Sum.inl (β := Str))).map kV = g.map V.int := by
  rw [List.map_map]
  rfl
theorem key_inj {g k : List Int} (h : g.map (Sum.inl (β := Str)) = k.map Sum.inl) : g = k := by
  have : ∀ {g k : List Int}, g.map (Sum.inl (β := Str)) = k.map Sum.inl → g = k := by
    intro g
    induction g with
    | nil =>
      intro k e
      cases k with
      | nil => rfl
      | cons a r => cases e
    | cons a r ih =>
      intro k e
      cases k with
      | nil => cases e
      | cons b t =>
        rw [List.map_cons, List.map_cons] at e
        injection e with e1 e2
        injection e1 with e1
        rw [e1, ih e2]
  exact this h
theorem val_none {H : Hp} {g : List Int} : ∀ {kvs : List (List Key × V)} {l : List GR}, Paired (KvAt H) kvs l → g ∉ keysG l → valV kvs (g.map Sum.inl) = none
  | _, _, .nil, _ => rfl
  | _, _, .cons (a := kv) (b := p) h t, n => by
    have n1 : ¬ g = p.1 := fun e => n (by rw [e]; exact List.mem_cons_self)
    rw [valV_neg (fun e => n1 (key_inj (e.symm.trans h.1)))]
    exact val_none t fun m => n (List.mem_cons_of_mem _ m)
theorem val_some {H : Hp} : ∀ {kvs : List (List Key × V)} {l : List GR} {p : GR}, Paired (KvAt H) kvs l → (keysG l).Nodup → p ∈ l → ∃ a, valV kvs (p.1.map Sum.inl) = some (.ref a) ∧ H a = some (.lst (p.2.map V.int))
  | _, _, p, .nil, _, m => nomatch m
  | _, _, p, .cons (a := kv) (b := q) h t, nd, m => by
    obtain ⟨n1, n2⟩ := List.nodup_cons.mp (show (q.1 :: keysG _).Nodup from nd)
    rcases List.mem_cons.mp m with e | m
    · subst e
      obtain ⟨h1, a, h2, h3⟩ := h
      exact ⟨a, by rw [valV_pos h1, h2], h3⟩
    · have ne : ¬ kv.1 = p.1.map Sum.inl := fun e => n1 (by
        rw [key_inj (h.1.symm.trans e)]
        exact List.mem_map.mpr ⟨p, m, rfl⟩)
      rw [valV_neg ne]
      exact val_some t n2 m
theorem key_dec {l : List GR} {g : List Int} {H : Hp} {kvs : List (List Key × V)} (h : Paired (KvAt H) kvs l) : (valV kvs (g.map Sum.inl)).isSome = decide (g ∈ keysG l) := by
  by_cases m : g ∈ keysG l
  · rw [decide_eq_true m, ← valV_any]
    obtain ⟨p, hp, e⟩ := List.mem_map.mp m
    have : ∀ {kvs : List (List Key × V)} {l : List GR}, Paired (KvAt H) kvs l → p ∈ l → (kvs.any fun kv => decide (kv.1 = g.map Sum.inl)) = true := by
      intro kvs l h
      induction h with
      | nil => intro m; cases m
      | @cons kv q ks qs hk t ih =>
        intro m
        rw [List.any_cons]
        rcases List.mem_cons.mp m with e2 | m
        · subst e2
          rw [decide_eq_true (show kv.1 = g.map Sum.inl by rw [hk.1, e]), Bool.true_or]
        · rw [ih m, Bool.or_true]
    exact this h hp
  · rw [decide_eq_false m, val_none h m]
    rfl
theorem GfAt.same {H H' : Hp} {D : Addr} {l : List GR} (s : Same H H') (h : GfAt H D l) : GfAt H' D l := by
  obtain ⟨kvs, e, p⟩ := h
  exact ⟨kvs, s _ _ e, L2.Paired.mapP p fun kv q ⟨h1, a, h2, h3⟩ => ⟨h1, a, h2, s _ _ h3⟩⟩
theorem GrpsAt.same {H H' : Hp} {vs : List V} {l : List GR} (s : ∀ b xs, H b = some (.tup xs) → H' b = some (.tup xs)) (h : GrpsAt H vs l) : GrpsAt H' vs l :=
  L2.Paired.mapP h fun v q ⟨a, h2, h3⟩ => ⟨a, h2, s _ _ h3⟩
theorem GrpsAt.snoc {H : Hp} {vs : List V} {l : List GR} {a : Addr} {g r : List Int} (h : GrpsAt H vs l) (e : H a = some (.tup (g.map V.int))) : GrpsAt H (vs ++ [.ref a]) (l ++ [(g, r)]) := paired_end (F := fun v (p : GR) => ∃ a, v = V.ref a ∧ H a = some (.tup (p.1.map V.int))) (b := (g, r)) ⟨a, rfl, e⟩ h
theorem ints_no_ref {ns : List Int} {i : Nat} {a : Addr} (h : (ns.map V.int)[i]? = some (.ref a)) : False := by
  rw [List.getElem?_map] at h
  obtain ⟨n, _, e⟩ := Option.map_eq_some_iff.mp h
  cases e
/-- D and F are other things -/
def Gr0 (D F : Addr) (H H' : Hp) : Prop := ∀ b o, b ≠ D → b ≠ F → H b = some o → H' b = some o
theorem scGf : FnScope ["moves", "begin", "rows", "found", "done", "row", "number", "_", "whither", "group"] ["moves", "begin"] (defScope sGroupsFrom) := ⟨rfl, rfl, rfl, by decide +kernel, rfl, by decide +kernel, by decide +kernel⟩
def spGf : Sp := fun vs H Q _ => ∃ (m ba : Addr) (many : Nat) (ws : List V) (ms : List Mv) (b : List Int), vs = [.ref m, .ref ba] ∧ H m = some (.lst ws) ∧ MovesAt H ws ms ∧ (∀ mv ∈ ms, GoodMv many mv) ∧ ms.length ≤ 8 ∧ many ≤ 6 ∧ H ba = some (.tup (b.map V.int)) ∧ goodG many b ∧
  ∀ D H', Same H H' → H D = none → GfAt H' D (gf many ms b) → Q (.ref D) H'
/-- the state of the search: the dict at D, the list at F, both of what is found -/
def Sea (H H' : Hp) (D F : Addr) (l : List GR) : Prop := Same H H' ∧ ∃ kvs fs, H' D = some (.dT kvs) ∧ H' F = some (.lst fs) ∧ Paired (KvAt H') kvs l ∧ GrpsAt H' fs l
theorem rowM_at {ms : List Mv} {n : Nat} {m : Mv} (h : ms[n]? = some m) : rowM ms n = m.2 := by
  unfold rowM
  rw [List.getD_eq_getElem?_getD, h]
  rfl
theorem ok_gf {f fL : Addr} {fd fdL : FuncData} (F : Fun K "groups_from" "groups_from" sGroupsFrom f fd) (DL : Df K mg "led_to" sLedTo ["whither", "group"] fL fdL) (ml : mg "len" = none) (mE : mg "enumerate" = none) (mt : mg "tuple" = none) (ms' : mg "sorted" = none) : FnOk P w K mg base CX0 2 f fd ["moves", "begin"] spGf := by
  have GL : FnOk P w K mg base CX0 1 fL fdL ["whither", "group"] spLed := ok_led DL.F mt ms'
  refine F.ok scGf (fun vs H Q E h => ?_) (fun cdv A outer s H vs Q E hr h => ?_)
  · obtain ⟨m, ba, many, ws, ms, b, rfl, _⟩ := h
    rfl
  · obtain ⟨m, ba, many, ws, ms, b, rfl, hm, hM, hgood, l8, m6, hb, gb, q⟩ := h
    have hu1 := hu_of hr
    refine ⟨_, (pss_cons (ps_set (i := 2) scGf.nd rfl (.inl rfl) (pe_disp1T hu1 (pps_cons (pv 1) (pe_lst pa_nil) pps_nil)))
      (pss_cons (ps_set (i := 3) scGf.nd rfl (.inl rfl) (pe_lst (pa_cons (pv 1) pa_nil)))
      (pss_cons (ps_set (i := 4) scGf.nd rfl (.inl rfl) pe_int)
      (pss_cons (ps_while PassesOwn.never (pt_cmpR op_lt (pv 4) (pe_callB call_len_seq (by rfl) ml PySem.boot_len (pa_cons (pv 3) pa_nil)) (nomark _)) (pss_cons (ps_set (i := 5) scGf.nd rfl (.inl rfl) (pe_dget (hu1) (pv 2) (pe_ix ix_list (pv 3) (pv 4) (fun _ _ => rfl)) (fun _ _ => rfl)))
      (pss_cons (ps_for PassesOwn.never rfl (pi_enum (by rfl) mE (pa_cons (pv 0) pa_nil)) (pg_tup rfl (pgs_cons (pg_name (i := 6) scGf.nd rfl (.inl rfl)) (pgs_cons (pg_tup rfl (pgs_cons (pg_name (i := 7) scGf.nd rfl (.inl rfl)) (pgs_cons (pg_name (i := 8) scGf.nd rfl (.inl rfl)) pgs_nil))) pgs_nil))) (pss_cons (ps_set (i := 9) scGf.nd rfl (.inl rfl) (pe_call GL hr (by rfl) DL.g DL.F.kp DL.b .nil pass0 (pa_cons (pv 8) (pa_cons (pe_ix ix_list (pv 3) (pv 4) (fun _ _ => rfl)) pa_nil))))
      (pss_one (ps_if (pt_cmp (pc_dnotin (hu1) (pv 9) (pv 2))) (pss_cons (ps_dput (hu1) (pv 2) (pv 9) (pe_op op_cat (pv 5) (pe_lst (pa_cons (pv 6) pa_nil))) rfl)
      (pss_one (ps_expr (pe_bm PySem.F.plainAttrs_list PySem.F.slot_list_append PySem.F.type_list_append mt_append (pv 3) (pa_cons (pv 9) pa_nil))))) pss_nil))))
      (pss_one (ps_aug (i := 4) scGf.nd rfl (.inl rfl) pe_int ip_add)))))
      (pss_one (ps_ret (pv 2))))))), ?_⟩
    have lenW := hM.length
    -- rows = {begin: []}
    refine fun D nD => ?_
    have s1 : Same H (upd H D (.dT [])) := same_new nD
    refine ⟨.ref ba, rfl, Nat.zero_le _, fun r0 nr0 => ?_⟩
    have hD1 : (upd (upd H D (.dT [])) r0 (.lst [])) D = some (.dT []) := same_new nr0 _ _ upd_same
    refine ⟨hD1, ba, b.map Sum.inl, .ref r0, rfl, by rw [key_ints]; exact same_new nr0 _ _ (s1 _ _ hb), ?_⟩
    have s2 : Same H (upd (upd (upd H D (.dT [])) r0 (.lst [])) D (.dT [(b.map Sum.inl, .ref r0)])) := Same.put (s1.trans (same_new nr0)) nD
    have hD2 : (upd (upd (upd H D (.dT [])) r0 (.lst [])) D (.dT [(b.map Sum.inl, .ref r0)])) D = some (.dT [(b.map Sum.inl, .ref r0)]) := upd_same
    have nr0D : r0 ≠ D := (ne_of_none upd_same nr0).symm
    have hr2 : (upd (upd (upd H D (.dT [])) r0 (.lst [])) D (.dT [(b.map Sum.inl, .ref r0)])) r0 = some (.lst []) := by
      rw [upd_ne nr0D]
      exact upd_same
    generalize upd (upd (upd H D (.dT [])) r0 (.lst [])) D (.dT [(b.map Sum.inl, .ref r0)]) = H2 at s2 hD2 hr2 ⊢
    -- found = [begin]
    refine ⟨.ref ba, rfl, (by show 1 ≤ sizeLine; decide), fun F' nF => ?_⟩
    have nF0 := s2.free nF
    have nDF : D ≠ F' := ne_of_none hD2 nF
    have sea0 : Sea H (upd H2 F' (.lst [.ref ba])) D F' (bfsN many ms b 0) := ⟨s2.trans (same_new nF), _, _, same_new nF _ _ hD2, upd_same, .cons ⟨rfl, r0, rfl, same_new nF _ _ hr2⟩ .nil, .cons ⟨ba, rfl, same_new nF _ _ (s2 _ _ hb)⟩ .nil⟩
    generalize upd H2 F' (.lst [.ref ba]) = H3 at sea0 ⊢
    have lenB := bfsN_len (ms := ms) gb m6
    refine while_by (fun σ H' => ∃ (d : Nat) (y5 y6 y7 y8 y9 : Option V), σ = [some (.ref m), some (.ref ba), some (.ref D), some (.ref F'), some (.int (d : Int)), y5, y6, y7, y8, y9] ∧ d ≤ (bfsN many ms b d).length ∧ Sea H H' D F' (bfsN many ms b d))
      (fun σ _ => match σ with | [_, _, _, _, some (.int d), _, _, _, _, _] => 65 - d.toNat | _ => 0) ⟨0, none, none, none, none, none, rfl, Nat.zero_le _, sea0⟩ ?_ ?_
    · rintro σ H4 ⟨d, y5, y6, y7, y8, y9, rfl, hd, sea⟩
      obtain ⟨s4, kvs, fs, hD4, hF4, pk, pf⟩ := id sea
      have lenF : fs.length = (bfsN many ms b d).length := pf.length
      refine ⟨.int (d : Int), rfl, .ref F', rfl, F', _, rfl, .inl (SqL.of hF4), _, _, rfl, rfl, _, rfl, ite2 (fun c => ?_) (fun c => ?_)⟩
      · have lt : d < (bfsN many ms b d).length := by
          have h1 : (d : Int) < ((fs.length : Nat) : Int) := of_decide_eq_true c
          omega
        have ep := List.getElem?_eq_getElem lt
        obtain ⟨p, ep'⟩ : ∃ p, (bfsN many ms b d)[d]? = some p := ⟨_, ep⟩
        have hp := List.mem_of_getElem? ep'
        obtain ⟨v, ev, ga, rfl, hga⟩ := paired_get (F := fun v (p : GR) => ∃ a, v = V.ref a ∧ H4 a = some (.tup (p.1.map V.int))) pf ep'
        obtain ⟨ra, hval, hra⟩ := val_some pk (bfsN_nodup many ms b d) hp
        have gp := bfsN_good (ms := ms) gb d p hp
        -- row = rows[found[done]]
        refine ⟨.ref D, rfl, .ref F', rfl, .int (d : Int), rfl, F', _, _, _, rfl, rfl, SqL.of hF4, atI_nat ev, D, .ref ra, rfl, by rw [← hval]; exact DGet.t hD4 (by rw [key_ints]; exact hga), ?_⟩
        have hm4 := s4 _ _ hm
        refine ⟨.ref m, rfl, m, ws, rfl, SqL.of hm4, for_it (walk_enum (K := K) (a := m) (xs := ws)) (fun k σ H' => ∃ y6 y7 y8 y9, σ = [some (.ref m), some (.ref ba), some (.ref D), some (.ref F'), some (.int (d : Int)), some (.ref ra), y6, y7, y8, y9] ∧ Sea H H' D F' (visitN many ms p.1 p.2 (bfsN many ms b d) k) ∧ H' ra = some (.lst (p.2.map V.int)) ∧ H' ga = some (.tup (p.1.map V.int)) ∧ ∃ fs', H' F' = some (.lst fs') ∧ fs'[d]? = some (.ref ga))
          ⟨y6, y7, y8, y9, rfl, sea, hra, hga, fs, hF4, ev⟩ (fun k σ H' hk ⟨_, _, _, _, _, ⟨s, _⟩, _⟩ => SqL.of (s _ _ hm)) ?_ ?_⟩
        · rintro k z σ H5 H6 hk ⟨y6, y7, y8, y9, rfl, sea5, hra5, hga5, fs5, hF5, ev5⟩ ⟨Tp, u, v, rfl, nT, rfl, eu, ewk⟩
          obtain ⟨mv, emv, hmv⟩ := hM.get' ewk
          have eu' : u = .int (k : Int) := (Option.some.inj eu).symm
          subst eu'
          have hk8 : k < ms.length := by omega
          obtain ⟨s5, kvs5, fs5', hD5, hF5', pk5, pf5⟩ := sea5
          have efs : fs5' = fs5 := by
            rw [hF5] at hF5'
            cases hF5'
            rfl
          subst efs
          have sT := same_new (o := .tup [.int (k : Int), v]) nT
          obtain ⟨ta, tb, rfl, hta, htb⟩ := hmv.same (Same.tups (s5.trans sT))
          have s5T := s5.trans sT
          refine ⟨Tp, [.int (k : Int), .ref ta], rfl, SqT.of upd_same, rfl, .int (k : Int), [.ref ta], rfl, .ref ta, [], rfl, ?_⟩
          refine ⟨ta, [.int mv.1, .ref tb], rfl, SqT.of hta, rfl, .int mv.1, [.ref tb], rfl, .ref tb, [], rfl, rfl, rfl, ?_⟩
          -- group = led_to(whither, found[done])
          have gm := hgood mv (List.mem_of_getElem? emv)
          refine ⟨.ref tb, rfl, .ref F', rfl, .int (d : Int), rfl, F', _, _, _, rfl, rfl, SqL.of (sT _ _ hF5), atI_nat ev5, ?_⟩
          refine ⟨tb, ga, many, mv.2, p.1, rfl, htb, sT _ _ hga5, m6, gm.2.2, gp, fun g7 H7 s7 ng7 hg7 => ?_⟩
          have sT7 := sT.trans s7
          have hD7 := sT7 _ _ hD5
          have hF7 := sT7 _ _ hF5
          have pk7 : Paired (KvAt H7) kvs5 _ := L2.Paired.mapP pk5 fun kv q ⟨h1, a, h2, h3⟩ => ⟨h1, a, h2, sT7 _ _ h3⟩
          have pf7 := GrpsAt.same (Same.tups sT7) pf5
          have erow : rowM ms k = mv.2 := rowM_at emv
          have evis : visitN many ms p.1 p.2 (bfsN many ms b d) (k + 1) = addG (visitN many ms p.1 p.2 (bfsN many ms b d) k) (ledG many mv.2 p.1) (p.2 ++ [(k : Int)]) := by
            show addG _ (ledG many (rowM ms k) p.1) _ = _
            rw [erow]
          have hra7 := sT7 _ _ hra5
          have hga7 := sT7 _ _ hga5
          have s07 := s5.trans sT7
          refine ⟨.ref g7, rfl, .ref D, rfl, D, _, rfl, DGet.t hD7 (by rw [key_ints]; exact hg7), ?_⟩
          rw [key_dec pk7]
          refine ⟨_, rfl, ite2 (fun c => ?_) (fun c => ?_)⟩
          · -- a new group
            have nm : ledG many mv.2 p.1 ∉ keysG (visitN many ms p.1 p.2 (bfsN many ms b d) k) := fun mem => by
              rw [decide_eq_true mem] at c
              cases c
            have lenK : kvs5.length ≤ 64 := by
              rw [pk5.length]
              have h1 := (visitN_pre many ms p.1 p.2 (bfsN many ms b d) k)
              have : Pre (visitN many ms p.1 p.2 (bfsN many ms b d) k) (visitN many ms p.1 p.2 (bfsN many ms b d) ms.length) := by
                have : ∀ j, Pre (visitN many ms p.1 p.2 (bfsN many ms b d) k) (visitN many ms p.1 p.2 (bfsN many ms b d) (k + j)) := by
                  intro j
                  induction j with
                  | zero => exact Pre.refl _
                  | succ j ih => exact ih.trans (addG_pre _ _ _)
                have h2 := this (ms.length - k)
                rw [show k + (ms.length - k) = ms.length by omega] at h2
                exact h2
              have h3 := this.len
              have h4 : bfsN many ms b (d + 1) = visitN many ms p.1 p.2 (bfsN many ms b d) ms.length := by
                show stepN many ms (bfsN many ms b d) d = _
                unfold stepN
                rw [ep']
              have h5 := lenB (d + 1)
              rw [h4] at h5
              omega
            have lenF5 : fs5'.length ≤ 64 := by
              have h1 := pf5.length
              have h2 := pk5.length
              omega
            have lenR : p.2.length ≤ 64 := by
              have h1 := bfsN_rowlen d p hp
              have h2 := lenB d
              omega
            refine ⟨.ref ra, rfl, .int (k : Int), rfl, (by show 1 ≤ sizeLine; decide), fun c1 nc1 => ⟨ra, c1, _, _, rfl, rfl, same_new nc1 _ _ hra7, upd_same, le1k (by rw [List.length_map]; show p.2.length + 1 ≤ 1000; omega), fun c2 nc2 => ?_⟩⟩
            have er : p.2.map V.int ++ [V.int (k : Int)] = (p.2 ++ [(k : Int)]).map V.int := by rw [List.map_append]; rfl
            rw [er]
            have s8 := (same_new (o := .lst [.int (k : Int)]) nc1).trans (same_new (o := .lst ((p.2 ++ [(k : Int)]).map V.int)) nc2)
            have hc2 : (upd (upd H7 c1 (.lst [.int (k : Int)])) c2 (.lst ((p.2 ++ [(k : Int)]).map V.int))) c2 = some (.lst ((p.2 ++ [(k : Int)]).map V.int)) := upd_same
            generalize upd (upd H7 c1 (.lst [.int (k : Int)])) c2 (.lst ((p.2 ++ [(k : Int)]).map V.int)) = H8 at s8 hc2 ⊢
            have hD8 := s8 _ _ hD7
            have hF8 := s8 _ _ hF7
            have hg8 := s8 _ _ hg7
            refine ⟨.ref D, rfl, .ref g7, rfl, D, _, rfl, DPut.t hD8 (by rw [key_ints]; exact hg8) (lt1k (by omega)), ?_⟩
            rw [putK_new _ (val_none pk7 nm)]
            have neD : ∀ {b o}, H8 b = some o → (∀ kvs, o ≠ .dT kvs) → b ≠ D := fun e n z => by
              rw [z, hD8] at e
              exact n _ (Option.some.inj e).symm
            have hF9 : (upd H8 D (.dT (kvs5 ++ [((ledG many mv.2 p.1).map Sum.inl, .ref c2)]))) F' = some (.lst fs5') := by
              rw [upd_ne (Ne.symm nDF)]
              exact hF8
            refine ⟨.ref F', rfl, .inl ⟨rfl, _, SqL.of hF9⟩, .ref g7, rfl, F', _, _, rfl, rfl, hF9, lt1k (by omega), ?_⟩
            have k9 : ∀ b o, b ≠ D → b ≠ F' → H8 b = some o → (upd (upd H8 D (.dT (kvs5 ++ [((ledG many mv.2 p.1).map Sum.inl, .ref c2)]))) F' (.lst (fs5' ++ [.ref g7]))) b = some o := fun b o n1 n2 e => by
              rw [upd_ne n2, upd_ne n1]
              exact e
            have neF : ∀ {b xs}, H8 b = some (.tup xs) → b ≠ F' := fun e z => by
              rw [z, hF8] at e
              cases e
            have kt : ∀ b xs, H8 b = some (.tup xs) → (upd (upd H8 D (.dT (kvs5 ++ [((ledG many mv.2 p.1).map Sum.inl, .ref c2)]))) F' (.lst (fs5' ++ [.ref g7]))) b = some (.tup xs) := fun b xs e => k9 b _ (neD e fun _ z => nomatch z) (neF e) e
            have neI : ∀ {b : Addr} {ns : List Int}, H8 b = some (.lst (ns.map V.int)) → b ≠ F' := fun {b ns} e z => by
              rw [z, hF8] at e
              injection e with e
              injection e with e
              rw [e] at ev5
              exact ints_no_ref ev5
            have kl : ∀ (b : Addr) (ns : List Int), H8 b = some (.lst (ns.map V.int)) → (upd (upd H8 D (.dT (kvs5 ++ [((ledG many mv.2 p.1).map Sum.inl, .ref c2)]))) F' (.lst (fs5' ++ [.ref g7]))) b = some (.lst (ns.map V.int)) := fun b ns e => k9 b _ (neD e fun _ z => nomatch z) (neI e) e
            have e2 : visitN many ms p.1 p.2 (bfsN many ms b d) (k + 1) = visitN many ms p.1 p.2 (bfsN many ms b d) k ++ [(ledG many mv.2 p.1, p.2 ++ [(k : Int)])] := by
              rw [evis]
              unfold addG
              rw [if_neg nm]
            refine ⟨some (.int (k : Int)), some (.int mv.1), some (.ref tb), some (.ref g7), rfl, ?_, kl _ _ (s8 _ _ hra7), kt _ _ (s8 _ _ hga7), _, upd_same, ?_⟩
            · rw [e2]
              refine ⟨fun b o e => k9 b o (ne_of_none e nD) (ne_of_none e nF0) (s8 _ _ (s07 _ _ e)), kvs5 ++ [((ledG many mv.2 p.1).map Sum.inl, .ref c2)], fs5' ++ [.ref g7], ?_, upd_same, ?_, ?_⟩
              · rw [upd_ne nDF]
                exact upd_same
              · exact paired_end (F := KvAt _) ⟨rfl, c2, rfl, kl _ _ hc2⟩ (L2.Paired.mapP pk7 fun kv q ⟨h1, a, h2, h3⟩ => ⟨h1, a, h2, kl _ _ (s8 _ _ h3)⟩)
              · exact GrpsAt.snoc (GrpsAt.same (fun b xs e => kt b xs (s8 _ _ e)) pf7) (kt _ _ hg8)
            · rw [List.getElem?_append_left (by obtain ⟨h, _⟩ := List.getElem?_eq_some_iff.mp ev5; exact h)]
              exact ev5
          · -- it is there already
            have mem : ledG many mv.2 p.1 ∈ keysG (visitN many ms p.1 p.2 (bfsN many ms b d) k) := by
              by_cases mm : ledG many mv.2 p.1 ∈ keysG (visitN many ms p.1 p.2 (bfsN many ms b d) k)
              · exact mm
              · rw [decide_eq_false mm] at c
                exact absurd rfl c
            have e2 : visitN many ms p.1 p.2 (bfsN many ms b d) (k + 1) = visitN many ms p.1 p.2 (bfsN many ms b d) k := by
              rw [evis]
              unfold addG
              rw [if_pos mem]
            refine ⟨some (.int (k : Int)), some (.int mv.1), some (.ref tb), some (.ref g7), rfl, ?_, hra7, hga7, fs5', hF7, ev5⟩
            rw [e2]
            exact ⟨s07, kvs5, fs5', hD7, hF7, pk7, pf7⟩
        · rintro σ H5 ⟨y6, y7, y8, y9, rfl, sea5, _⟩
          have eb : visitN many ms p.1 p.2 (bfsN many ms b d) ws.length = bfsN many ms b (d + 1) := by
            show _ = stepN many ms (bfsN many ms b d) d
            unfold stepN
            rw [ep', lenW]
          rw [eb] at sea5
          have pl := (bfsN_pre many ms b d 1).len
          have h64 := lenB d
          refine ⟨.int (d : Int), rfl, (d : Int), 1, rfl, rfl, ⟨d + 1, some (.ref ra), y6, y7, y8, y9, rfl, ?_, sea5⟩, ?_⟩
          · omega
          · show 65 - ((d : Int) + 1).toNat < 65 - ((d : Int)).toNat
            omega
      · have ge : (bfsN many ms b d).length ≤ d := by
          have h1 : ¬ ((d : Int) < ((fs.length : Nat) : Int)) := fun z => c (decide_eq_true z)
          omega
        have h64 := lenB d
        refine ⟨.ref D, rfl, q D H4 s4 nD ⟨kvs, hD4, ?_⟩⟩
        rw [← bfsN_gf ge (by omega)]
        exact pk
    · rintro σ H2 Q1 Q2 hq ⟨v, e1, u, e2, p, ys, e3, e4, i, j, e5, e6, b, e7, h⟩
      exact ⟨v, e1, u, e2, p, ys, e3, e4, i, j, e5, e6, b, e7, hq _ _ h⟩
end
/-! ### places that are reached: the mathematics -/
def GoodAll (many : Nat) (ms : List Mv) : Prop := ∀ mv ∈ ms, GoodMv many mv
def Valid (ms : List Mv) (r : List Int) : Prop := ∀ n ∈ r, 0 ≤ n ∧ n < (ms.length : Int)
theorem rowM_good {many : Nat} {ms : List Mv} (G : GoodAll many ms) {n : Nat} (h : n < ms.length) : GoodRow many (rowM ms n) := by
  unfold rowM
  rw [List.getD_eq_getElem?_getD, List.getElem?_eq_getElem h]
  exact (G _ (List.getElem_mem h)).2.2
def walkP (ms : List Mv) (p : Int) (r : List Int) : Int := r.foldl (fun x n => goK (rowM ms n.toNat) x) p
theorem walkP_snoc (ms : List Mv) (p n : Int) (r : List Int) : walkP ms p (r ++ [n]) = goK (rowM ms n.toNat) (walkP ms p r) := by
  unfold walkP
  rw [List.foldl_append]
  rfl
theorem walkP_app (ms : List Mv) (p : Int) (r s : List Int) : walkP ms p (r ++ s) = walkP ms (walkP ms p r) s := by
  unfold walkP
  rw [List.foldl_append]
theorem Valid.app {ms : List Mv} {r s : List Int} (a : Valid ms r) (b : Valid ms s) : Valid ms (r ++ s) := fun n hn => (List.mem_append.mp hn).elim (a n) (b n)
theorem Valid.one {ms : List Mv} {n : Nat} (h : n < ms.length) : Valid ms [(n : Int)] := fun z hz => by
  rw [List.mem_singleton.mp hz]
  omega
theorem walkP_in {many : Nat} {ms : List Mv} (G : GoodAll many ms) {p : Int} (p0 : 0 ≤ p) (p1 : p < (many : Int)) : ∀ {r : List Int}, Valid ms r → 0 ≤ walkP ms p r ∧ walkP ms p r < (many : Int) := by
  intro r
  refine snocInd (F := fun r => Valid ms r → 0 ≤ walkP ms p r ∧ walkP ms p r < (many : Int)) ?_ ?_ r
  · intro _
    exact ⟨p0, p1⟩
  · intro r n ih h
    rw [walkP_snoc]
    have hn := h n (List.mem_append.mpr (.inr List.mem_cons_self))
    obtain ⟨a, b⟩ := ih fun z hz => h z (List.mem_append.mpr (.inl hz))
    exact goK_in' (rowM_good G (by omega)) a b
theorem ledG_one {many : Nat} {row : List Int} {x : Int} (hr : GoodRow many row) (x0 : 0 ≤ x) (x1 : x < (many : Int)) : ledG many row [x] = [goK row x] := by
  refine rise_same (ledG_good many row [x]).1 (List.pairwise_singleton _ _) fun k => ?_
  rw [mem_ledG hr (fun z hz => by rw [List.mem_singleton.mp hz]; exact ⟨x0, x1⟩)]
  constructor
  · rintro ⟨z, hz, rfl⟩
    rw [List.mem_singleton.mp hz]
    exact List.mem_cons_self
  · intro h
    exact ⟨x, List.mem_cons_self, (List.mem_singleton.mp h).symm⟩
theorem runG_one {many : Nat} {ms : List Mv} (G : GoodAll many ms) {p : Int} (p0 : 0 ≤ p) (p1 : p < (many : Int)) {r : List Int} : Valid ms r → runG many ms [p] r = [walkP ms p r] := by
  refine snocInd (F := fun r => Valid ms r → runG many ms [p] r = [walkP ms p r]) ?_ ?_ r
  · intro _
    rfl
  · intro r n ih h
    have hv : Valid ms r := fun z hz => h z (List.mem_append.mpr (.inl hz))
    have hn := h n (List.mem_append.mpr (.inr List.mem_cons_self))
    obtain ⟨a, b⟩ := walkP_in G p0 p1 hv
    rw [runG_snoc, walkP_snoc, ih hv, ledG_one (rowM_good G (by omega)) a b]
theorem good_one {many : Nat} {p : Int} (p0 : 0 ≤ p) (p1 : p < (many : Int)) : goodG many [p] := ⟨List.pairwise_singleton _ _, fun x hx => by rw [List.mem_singleton.mp hx]; exact ⟨p0, p1⟩⟩
/-- from a place one comes to another -/
def Rch (ms : List Mv) (p q : Int) : Prop := ∃ r, Valid ms r ∧ walkP ms p r = q
theorem Rch.refl (ms : List Mv) (p : Int) : Rch ms p p := ⟨[], (fun _ h => nomatch h), rfl⟩
theorem Rch.trans {ms : List Mv} {p q s : Int} (a : Rch ms p q) (b : Rch ms q s) : Rch ms p s := by
  obtain ⟨r, h1, rfl⟩ := a
  obtain ⟨t, h2, rfl⟩ := b
  exact ⟨r ++ t, h1.app h2, walkP_app _ _ _ _⟩
theorem Rch.step {ms : List Mv} {p q : Int} {n : Nat} (a : Rch ms p q) (h : n < ms.length) : Rch ms p (goK (rowM ms n) q) := by
  obtain ⟨r, h1, rfl⟩ := a
  refine ⟨r ++ [(n : Int)], h1.app (Valid.one h), ?_⟩
  rw [walkP_snoc]
  rfl
theorem Rch.in {many : Nat} {ms : List Mv} (G : GoodAll many ms) {p q : Int} (p0 : 0 ≤ p) (p1 : p < (many : Int)) (h : Rch ms p q) : 0 ≤ q ∧ q < (many : Int) := by
  obtain ⟨r, h1, rfl⟩ := h
  exact walkP_in G p0 p1 h1
/-- what is closed under moves and holds p holds all that is reached -/
theorem Rch.ind {ms : List Mv} {F : Int → Prop} {p q : Int} (h0 : F p) (hs : ∀ x n, F x → n < ms.length → F (goK (rowM ms n) x)) (h : Rch ms p q) : F q := by
  obtain ⟨r, h1, rfl⟩ := h
  revert h1
  refine snocInd (F := fun r => Valid ms r → F (walkP ms p r)) ?_ ?_ r
  · intro _
    exact h0
  · intro r n ih hv
    rw [walkP_snoc]
    have hn := hv n (List.mem_append.mpr (.inr List.mem_cons_self))
    exact hs _ _ (ih fun z hz => hv z (List.mem_append.mpr (.inl hz))) (by omega)
def reachL (many : Nat) (ms : List Mv) (p : Int) : List Int := (ids many).filter fun q => decide ([q] ∈ keysG (gf many ms [p]))
theorem gf_ones {many : Nat} {ms : List Mv} (G : GoodAll many ms) {p : Int} (p0 : 0 ≤ p) (p1 : p < (many : Int)) : ∀ g ∈ gf many ms [p], ∃ x, g.1 = [x] ∧ 0 ≤ x ∧ x < (many : Int) :=
  bfsN_all (F := fun g => ∃ x, g.1 = [x] ∧ 0 ≤ x ∧ x < (many : Int)) ⟨p, rfl, p0, p1⟩ (fun g k h hk => by
    obtain ⟨x, e, a, b⟩ := h
    refine ⟨goK (rowM ms k) x, ?_, goK_in' (rowM_good G hk) a b⟩
    show ledG many (rowM ms k) g.1 = _
    rw [e, ledG_one (rowM_good G hk) a b]) 64
theorem mem_reachL {many : Nat} {ms : List Mv} (G : GoodAll many ms) (m6 : many ≤ 6) {p q : Int} (p0 : 0 ≤ p) (p1 : p < (many : Int)) : q ∈ reachL many ms p ↔ Rch ms p q := by
  unfold reachL
  rw [List.mem_filter, decide_eq_true_iff]
  constructor
  · rintro ⟨_, h⟩
    obtain ⟨g, hg, e⟩ := List.mem_map.mp h
    obtain ⟨h1, h2⟩ := gf_row g hg
    refine ⟨g.2, h2, ?_⟩
    rw [runG_one G p0 p1 h2, e] at h1
    injection h1
  · intro h
    refine ⟨mem_ids.mpr (h.in G p0 p1), ?_⟩
    obtain ⟨r, h1, rfl⟩ := h
    rw [← runG_one G p0 p1 h1]
    exact gf_run (good_one p0 p1) m6 h1
theorem reachL_rise (many : Nat) (ms : List Mv) (p : Int) : (reachL many ms p).Pairwise (· < ·) := List.Pairwise.filter _ (ids_pair many)
theorem reachL_in {many : Nat} {ms : List Mv} {p q : Int} (h : q ∈ reachL many ms p) : 0 ≤ q ∧ q < (many : Int) := mem_ids.mp (List.mem_filter.mp h).1
theorem reachL_self {many : Nat} {ms : List Mv} (G : GoodAll many ms) (m6 : many ≤ 6) {p : Int} (p0 : 0 ≤ p) (p1 : p < (many : Int)) : p ∈ reachL many ms p := (mem_reachL G m6 p0 p1).mpr (Rch.refl ms p)
theorem sorted_rise {xs ns : List Int} (hp : xs.Perm ns) (hs : xs.Pairwise (· ≤ ·)) (hn : ns.Nodup) : xs.Pairwise (· < ·) := by
  have nd : xs.Nodup := hp.nodup_iff.mpr hn
  refine List.Pairwise.imp₂ (R := (· ≤ ·)) (S := (· ≠ ·)) (fun a b h1 h2 => ?_) hs nd
  have h2' : a ≠ b := h2
  have h1' : a ≤ b := h1
  show a < b
  omega
/-! ### closed groups -/
def clK (many : Nat) (ms : List Mv) (p : Int) : Bool := decide ((reachL many ms p).getD 0 0 = p) && (reachL many ms p).all fun x => decide (reachL many ms x = reachL many ms p)
def closedL (many : Nat) (ms : List Mv) : List (List Int) := ((ids many).filter (clK many ms)).map (reachL many ms)
section
variable {P : Program} {w : World} {K : PySem.W.Frag} {mg : Str → Option Value} {base : Heap} {C : Addr}
abbrev LstOf (H : Hp) : V → List Int → Prop := fun v xs => ∃ a, v = V.ref a ∧ H a = some (.lst (xs.map V.int))
def ListsAt (H : Hp) (L : Addr) (xss : List (List Int)) : Prop := ∃ vs, H L = some (.lst vs) ∧ Paired (LstOf H) vs xss
theorem ListsAt.same {H H' : Hp} {L : Addr} {xss : List (List Int)} (s : Same H H') (h : ListsAt H L xss) : ListsAt H' L xss := by
  obtain ⟨vs, e, p⟩ := h
  exact ⟨vs, s _ _ e, L2.Paired.mapP p fun v xs ⟨a, h1, h2⟩ => ⟨a, h1, s _ _ h2⟩⟩
/-- lists at F, none of them F -/
def ListsIn (H : Hp) (F : Addr) (xss : List (List Int)) : Prop := ∃ vs, H F = some (.lst vs) ∧ Paired (fun v xs => ∃ a, v = V.ref a ∧ a ≠ F ∧ H a = some (.lst (xs.map V.int))) vs xss
theorem ListsIn.same {H H' : Hp} {L : Addr} {xss : List (List Int)} (s : Same H H') (h : ListsIn H L xss) : ListsIn H' L xss := by
  obtain ⟨vs, e, p⟩ := h
  exact ⟨vs, s _ _ e, L2.Paired.mapP p fun v xs ⟨a, h1, h2, h3⟩ => ⟨a, h1, h2, s _ _ h3⟩⟩
theorem ListsIn.at {H : Hp} {L : Addr} {xss : List (List Int)} (h : ListsIn H L xss) : ListsAt H L xss := by
  obtain ⟨vs, e, p⟩ := h
  exact ⟨vs, e, L2.Paired.mapP p fun v xs ⟨a, h1, h2, h3⟩ => ⟨a, h1, h3⟩⟩
theorem dp_lists {K : PySem.W.Frag} {H : Hp} : ∀ {vs : List V} {xss : List (List Int)}, Paired (LstOf H) vs xss → DpAll K H vs (xss.map fun xs => .list (xs.map PyData.int))
  | _, _, .nil => .nil
  | _, _, .cons ⟨a, e, h⟩ t => .cons (by rw [e]; exact dp_lst h) (dp_lists t)
def lsD (xss : List (List Int)) : PyData := .list (xss.map fun xs => .list (xs.map PyData.int))
theorem Sh.lists (xss : List (List Int)) : Sh 2 (lsD xss) := Sh.list fun d hd => by
  obtain ⟨xs, _, rfl⟩ := List.mem_map.mp hd
  exact Sh.list (Sh.ints xs)
theorem ListsAt.dp {K : PySem.W.Frag} {H : Hp} {L : Addr} {xss : List (List Int)} (h : ListsAt H L xss) : Dp K H (.ref L) (lsD xss) := by
  obtain ⟨vs, e, p⟩ := h
  exact .lst (SqL.of e) (dp_lists p)
theorem Sh.lst (xs : List Int) : Sh 1 (.list (xs.map PyData.int)) := Sh.list (Sh.ints xs)
theorem eqv_lst (xs ys : List Int) : PyData.eqv (.list (xs.map PyData.int)) (.list (ys.map PyData.int)) = decide (xs = ys) := by
  simp only [PyData.eqv]
  exact PySem.W.ked_eqvAll xs ys
theorem any_lsts (g : List Int) : ∀ xss : List (List Int), ((xss.map fun xs => PyData.list (xs.map PyData.int)).any fun z => PyData.eqv z (.list (g.map PyData.int))) = decide (g ∈ xss)
  | [] => by rw [decide_eq_false (by simp)]; rfl
  | x :: xss => by
    rw [List.map_cons, List.any_cons, eqv_lst, any_lsts g xss]
    by_cases c : x = g
    · subst c
      rw [decide_eq_true rfl, decide_eq_true List.mem_cons_self]
      rfl
    · rw [decide_eq_false c, Bool.false_or]
      exact decide_eq_decide.mpr ⟨fun h => List.mem_cons_of_mem _ h, fun h => (List.mem_cons.mp h).resolve_left (Ne.symm c)⟩
end
section
variable {P : Program} {w : World} {K : PySem.W.Frag} {mg : Str → Option Value} {base : Heap} {C : Addr}
theorem walk_itemsT {d : Addr} {o : Obj} {kvs : List (List Key × V)} : L2.Walk (ItiT d o kvs) kvs.length (fun H => H d = some (.frz o (.dT kvs)))
    (fun i H x H' => ∃ (T q : Addr) (k : List Key) (v : V), kvs[i]? = some (k, v) ∧ x = .ref T ∧ H T = none ∧ H q = some (.tup (k.map kV)) ∧ H' = upd H T (.tup [.ref q, v])) :=
  ⟨fun _ _ hi q => ⟨q, hi⟩, fun _ q => ⟨q, Nat.le_refl _⟩, fun _ _ _ _ _ _ y => y⟩
/-! ### _row_to_one -/
/-- what is found at i of a dict of groups and rows -/
theorem kv_at {H : Hp} : ∀ {kvs : List (List Key × V)} {l : List GR} {i : Nat} {k : List Key} {v : V}, Paired (KvAt H) kvs l → kvs[i]? = some (k, v) → ∃ g : GR, l[i]? = some g ∧ k = g.1.map Sum.inl ∧ ∃ a, v = .ref a ∧ H a = some (.lst (g.2.map V.int))
  | _, _, _, _, _, .nil, e => by simp at e
  | _, _, 0, _, _, .cons h _, e => by
    cases e
    exact ⟨_, rfl, h⟩
  | _, _, i + 1, _, _, .cons _ r, e => kv_at (i := i) r e
/-- the least of the shortest rows by which a group is one place -/
def rowTo (many : Nat) (ms : List Mv) (g : List Int) : Option (List Int) := ((gf many ms g).find? fun p => decide (p.1.length = 1)).map (·.2)
def ListOr2 (H : Hp) (v : V) (r : Option (List Int)) : Prop := match r with
  | none => v = .non
  | some o => ∃ a, v = .ref a ∧ H a = some (.lst (o.map V.int))
theorem scRt : FnScope ["moves", "group", "led", "row"] ["moves", "group"] (defScope sRowToOne) := ⟨rfl, rfl, rfl, by decide +kernel, rfl, by decide +kernel, by decide +kernel⟩
def spRt : Sp := fun vs H Q _ => ∃ (m ba : Addr) (many : Nat) (ws : List V) (ms : List Mv) (b : List Int), vs = [.ref m, .ref ba] ∧ H m = some (.lst ws) ∧ MovesAt H ws ms ∧ GoodAll many ms ∧ ms.length ≤ 8 ∧ many ≤ 6 ∧ H ba = some (.tup (b.map V.int)) ∧ goodG many b ∧
  ∀ v H', Same H H' → ListOr2 H' v (rowTo many ms b) → Q v H'
theorem find_at {l : List GR} {f : GR → Bool} {i : Nat} {g : GR} (e : l[i]? = some g) (h : f g = true) (bef : ∀ j p, j < i → l[j]? = some p → f p = false) : l.find? f = some g := by
  induction l generalizing i with
  | nil => simp at e
  | cons x r ih =>
    cases i with
    | zero =>
      cases e
      rw [List.find?_cons, h]
    | succ i =>
      rw [List.find?_cons, bef 0 x (Nat.succ_pos _) rfl]
      exact ih e fun j p hj ej => bef (j + 1) p (Nat.succ_lt_succ hj) ej
theorem len_one (n : Nat) : decide (V.int ((n : Nat) : Int) = V.int 1) = decide (n = 1) := by
  refine decide_eq_decide.mpr ⟨fun h => ?_, fun h => by subst h; rfl⟩
  injection h with h
  omega
theorem ok_rt {f fG : Addr} {fd fdG : FuncData} (F : Fun K "_row_to_one" "_row_to_one" sRowToOne f fd) (DG : Df K mg "groups_from" sGroupsFrom ["moves", "begin"] fG fdG) (GG : FnOk P w K mg base CX0 2 fG fdG ["moves", "begin"] spGf) (ml : mg "len" = none) : FnOk P w K mg base CX0 3 f fd ["moves", "group"] spRt := by
  refine F.ok scRt (fun vs H Q E h => ?_) (fun cdv A outer s H vs Q E hr h => ?_)
  · obtain ⟨m, ba, many, ws, ms, b, rfl, _⟩ := h
    rfl
  · obtain ⟨m, ba, many, ws, ms, b, rfl, hm, hM, G, l8, m6, hb, gb, q⟩ := h
    refine ⟨_, (pss_cons (ps_for PassesOwn.never rfl (pi_itemsT (pe_frz (pe_call GG hr (by rfl) DG.g DG.F.kp DG.b .nil pass0 (pa_cons (pv 0) (pa_cons (pv 1) pa_nil))))) (pg_tup rfl (pgs_cons (pg_name (i := 2) scRt.nd rfl (.inl rfl)) (pgs_cons (pg_name (i := 3) scRt.nd rfl (.inl rfl)) pgs_nil))) (pss_one (ps_if (pt_cmpR op_eq (pe_callB call_len_seq (by rfl) ml PySem.boot_len (pa_cons (pv 2) pa_nil)) pe_int (nomark _)) (pss_one (ps_ret (pv 3))) pss_nil)))
      (pss_one (ps_ret pe_non))), ?_⟩
    refine ⟨.ref m, rfl, .ref ba, rfl, m, ba, many, ws, ms, b, rfl, hm, hM, G, l8, m6, hb, gb, fun D H1 s1 nD ⟨kvs, hD, pk⟩ => ?_⟩
    refine ⟨D, .dT kvs, rfl, hD, True.intro, fun od => ⟨D, od, kvs, rfl, upd_same, ?_⟩⟩
    have s2 : Same H (upd H1 D (.frz od (.dT kvs))) := Same.put s1 nD
    have rowAt : ∀ {a : Addr} {r : List Int}, H1 a = some (.lst (r.map V.int)) → (upd H1 D (.frz od (.dT kvs))) a = some (.lst (r.map V.int)) := fun {a r} e => by
      rw [upd_ne (fun z => by rw [z, hD] at e; cases e)]
      exact e
    have lenK : kvs.length = (gf many ms b).length := pk.length
    have hDf : (upd H1 D (.frz od (.dT kvs))) D = some (.frz od (.dT kvs)) := upd_same
    generalize hHF : upd H1 D (.frz od (.dT kvs)) = HF at s2 rowAt hDf ⊢
    refine for_it walk_itemsT (fun i σ H' => ∃ y2 y3, σ = [some (.ref m), some (.ref ba), y2, y3] ∧ Same HF H' ∧ ∀ j p, j < i → (gf many ms b)[j]? = some p → decide (p.1.length = 1) = false) ⟨none, none, rfl, Same.refl _, fun j p hj => absurd hj (Nat.not_lt_zero _)⟩ (fun i σ H' _ ⟨_, _, _, s3, _⟩ => s3 _ _ hDf) ?_ ?_
    · rintro i x σ H2 H2' hi ⟨y2, y3, rfl, s3, bef⟩ ⟨T, qa, k, v, ekv, rfl, nT, hqa, rfl⟩
      obtain ⟨g, eg, ek, a, rfl, ha⟩ := kv_at pk ekv
      have hq : H2 qa = some (.tup (g.1.map V.int)) := by rw [hqa, ek, key_ints]
      have sT := same_new (o := .tup [.ref qa, .ref a]) nT
      refine ⟨T, [.ref qa, .ref a], rfl, SqT.of upd_same, rfl, .ref qa, [.ref a], rfl, .ref a, [], rfl, rfl, ?_⟩
      refine ⟨.ref qa, rfl, qa, _, rfl, .inr (SqT.of (sT _ _ hq)), ?_⟩
      rw [List.length_map]
      refine ⟨rfl, decide (g.1.length = 1), ?_, ?_⟩
      · rw [len_one]
      by_cases c : g.1.length = 1
      · rw [decide_eq_true c]
        refine iteT ⟨.ref a, rfl, q _ _ (s2.trans (s3.trans sT)) ?_⟩
        have e : rowTo many ms b = some g.2 := by
          unfold rowTo
          rw [find_at eg (decide_eq_true c) bef]
          rfl
        rw [e]
        exact ⟨a, rfl, sT _ _ (s3 _ _ (rowAt ha))⟩
      · rw [decide_eq_false c]
        refine iteF ⟨_, _, rfl, s3.trans sT, fun j p hj e => ?_⟩
        by_cases cj : j < i
        · exact bef j p cj e
        · have ej : j = i := by omega
          rw [ej, eg] at e
          cases e
          exact decide_eq_false c
    · rintro σ H2 ⟨y2, y3, rfl, s3, bef⟩
      refine q _ _ (s2.trans s3) ?_
      have e : rowTo many ms b = none := by
        unfold rowTo
        rw [List.find?_eq_none.mpr fun p hp => ?_]
        · rfl
        · obtain ⟨j, hj, ep⟩ := List.getElem_of_mem hp
          rw [bef j p (by omega) (by rw [← ep]; exact List.getElem?_eq_getElem hj)]
          exact Bool.false_ne_true
      rw [e]
      rfl
/-! ### _first_apart -/
def natPairs (n : Nat) : List (List Nat) := (List.range n).flatMap fun i => (List.range' (i + 1) (n - (i + 1))).map fun j => [i, j]
theorem combs_eq : ∀ n, n ≤ 6 → Cm.combsN n = natPairs n := by
  intro n hn
  match n, hn with
  | 0, _ => decide +kernel
  | 1, _ => decide +kernel
  | 2, _ => decide +kernel
  | 3, _ => decide +kernel
  | 4, _ => decide +kernel
  | 5, _ => decide +kernel
  | 6, _ => decide +kernel
theorem mem_natPairs {n : Nat} {g : List Nat} : g ∈ natPairs n ↔ ∃ i j, i < j ∧ j < n ∧ g = [i, j] := by
  unfold natPairs
  rw [List.mem_flatMap]
  constructor
  · rintro ⟨i, hi, h⟩
    obtain ⟨j, hj, rfl⟩ := List.mem_map.mp h
    have a := List.mem_range.mp hi
    have b := List.mem_range'_1.mp hj
    exact ⟨i, j, by omega, by omega, rfl⟩
  · rintro ⟨i, j, a, b, rfl⟩
    exact ⟨i, List.mem_range.mpr (by omega), List.mem_map.mpr ⟨j, List.mem_range'_1.mpr (by omega), rfl⟩⟩
/-- all pairs, rising -/
def pairsL (many : Nat) : List (List Int) := (natPairs many).map fun g => g.map fun (i : Nat) => (i : Int)
theorem mem_pairsL {many : Nat} {g : List Int} : g ∈ pairsL many ↔ ∃ x y : Int, 0 ≤ x ∧ x < y ∧ y < (many : Int) ∧ g = [x, y] := by
  unfold pairsL
  rw [List.mem_map]
  constructor
  · rintro ⟨n, hn, rfl⟩
    obtain ⟨i, j, a, b, rfl⟩ := mem_natPairs.mp hn
    exact ⟨(i : Int), (j : Int), by omega, by omega, by omega, rfl⟩
  · rintro ⟨x, y, a, b, c, rfl⟩
    refine ⟨[x.toNat, y.toNat], mem_natPairs.mpr ⟨x.toNat, y.toNat, by omega, by omega, rfl⟩, ?_⟩
    show [((x.toNat : Nat) : Int), ((y.toNat : Nat) : Int)] = [x, y]
    rw [Int.toNat_of_nonneg a, Int.toNat_of_nonneg (by omega)]
theorem pair_good {many : Nat} {x y : Int} (a : 0 ≤ x) (b : x < y) (c : y < (many : Int)) : goodG many [x, y] :=
  ⟨List.pairwise_cons.mpr ⟨fun z hz => by rw [List.mem_singleton.mp hz]; exact b, List.pairwise_singleton _ _⟩, fun z hz => by
    rcases List.mem_cons.mp hz with e | hz
    · rw [e]; omega
    · rw [List.mem_singleton.mp hz]; omega⟩
def firstApart (many : Nat) (ms : List Mv) : Option (List Int) := (pairsL many).find? fun g => (rowTo many ms g).isNone
def TupOr (H : Hp) (v : V) (r : Option (List Int)) : Prop := match r with
  | none => v = .non
  | some o => ∃ a, v = .ref a ∧ H a = some (.tup (o.map V.int))
theorem walk_comb {n : Nat} : L2.Walk (ItC n) (Cm.combsN n).length (fun _ => True) (fun i H v H' => ∃ T ns, v = .ref T ∧ H T = none ∧ H' = upd H T (.tup (ns.map fun (j : Nat) => V.int j)) ∧ (Cm.combsN n)[i]? = some ns) :=
  ⟨fun _ _ hi _ => hi, fun _ _ => Nat.le_refl _, fun _ _ _ _ _ _ y => y⟩
theorem scFa : FnScope ["chain", "moves", "pair"] ["chain"] (defScope sFirstApart) := ⟨rfl, rfl, rfl, by decide +kernel, rfl, by decide +kernel, by decide +kernel⟩
def spFa (C : Addr) : Sp := fun vs H Q _ => ∃ (x : Addr) (many : Nat) (ms : List Mv), vs = [.ref x] ∧ ChainAt C H x many ms ∧ Good many ms ∧ ∀ v H', Same H H' → TupOr H' v (firstApart many ms) → Q v H'
theorem find_atL {α : Type} {l : List α} {f : α → Bool} {i : Nat} {g : α} (e : l[i]? = some g) (h : f g = true) (bef : ∀ j p, j < i → l[j]? = some p → f p = false) : l.find? f = some g := by
  induction l generalizing i with
  | nil => simp at e
  | cons x r ih =>
    cases i with
    | zero =>
      cases e
      rw [List.find?_cons, h]
    | succ i =>
      rw [List.find?_cons, bef 0 x (Nat.succ_pos _) rfl]
      exact ih e fun j p hj ej => bef (j + 1) p (Nat.succ_lt_succ hj) ej
theorem ok_fa {f fR fP fT : Addr} {fd fdR fdP fdT : FuncData} (F : Fun K "_first_apart" "_first_apart" sFirstApart f fd) (DRt : Df K mg "_row_to_one" sRowToOne ["moves", "group"] fR fdR) (GRt : FnOk P w K mg base CX0 3 fR fdR ["moves", "group"] spRt) (T : ChM K C fP fT fdP fdT) (mL : mg "list" = none) (mr : mg "range" = none) (mC : mg "combinations" = some (.type "itertools.combinations")) :
    FnOk P w K mg base CX0 4 f fd ["chain"] (spFa C) := by
  have GP : FnOk P w K mg base CX0 1 fP fdP ["self"] (spPlaces C) := ok_places T.FP T.cl T.nM
  have GT : FnOk P w K mg base CX0 1 fT fdT ["self"] (spTold C) := ok_told T.FT T.cl T.nV mL
  refine F.ok scFa (fun vs H Q E h => ?_) (fun cdv A outer s H vs Q E hr h => ?_)
  · obtain ⟨x, many, ms, rfl, _⟩ := h
    rfl
  · obtain ⟨x, many, ms, rfl, hC, G, q⟩ := h
    have r1 : Room 1 _ := hr.mono (by decide)
    refine ⟨_, (pss_cons (ps_set (i := 1) scFa.nd rfl (.inl rfl) (pe_meth0 (pv 0) T.cl T.hT GT r1 T.bT .nil pass0))
      (pss_cons (ps_for PassesOwn.never rfl (pi_comb rfl (by rfl) mC (prg_1 (by rfl) mr (pe_meth0 (pv 0) T.cl T.hP GP r1 T.bP .nil pass0))) (pg_name (i := 2) scFa.nd rfl (.inl rfl)) (pss_one (ps_if (pt_cmpR op_isN (pe_call GRt hr (by rfl) DRt.g DRt.F.kp DRt.b .nil pass0 (pa_cons (pv 1) (pa_cons (pv 2) pa_nil))) pe_non (nomark _)) (pss_one (ps_ret (pv 2))) pss_nil)))
      (pss_one (ps_ret pe_non)))), ?_⟩
    have m6 := G.m6
    have l8 := G.l8
    have l1 := G.l1
    obtain ⟨dx, a0, ws0, h1, h2, h3⟩ := id hC
    refine ⟨.ref x, rfl, x, dx, _, rfl, h1, ch_noT, x, many, ms, rfl, hC, fun m ws nm hM => ?_⟩
    have s1 := same_new (o := .lst ws) nm
    have hm1 : (upd H m (.lst ws)) m = some (.lst ws) := upd_same
    have hM1 : MovesAt (upd H m (.lst ws)) ws ms := hM
    have hC1 := hC.same s1
    generalize upd H m (.lst ws) = H1 at s1 hm1 hM1 hC1 ⊢
    obtain ⟨dx1, a1, ws1, h1, h2, h3⟩ := id hC1
    refine ⟨.ref x, rfl, x, dx1, _, rfl, h1, ch_no, x, many, ms, rfl, hC1, _, rfl, many, rfl, rfl, m6, ?_⟩
    have at_pair : ∀ {i : Nat} {ns : List Nat}, (Cm.combsN many)[i]? = some ns → (pairsL many)[i]? = some (ns.map fun (j : Nat) => (j : Int)) := fun {i ns} e => by
      unfold pairsL
      rw [← combs_eq many m6, List.getElem?_map, e]
      rfl
    refine for_it walk_comb (fun i σ H' => ∃ y2, σ = [some (.ref x), some (.ref m), y2] ∧ Same H1 H' ∧ ∀ j g, j < i → (pairsL many)[j]? = some g → (rowTo many ms g).isNone = false) ⟨none, rfl, Same.refl _, fun j p hj => absurd hj (Nat.not_lt_zero _)⟩ (fun _ _ _ _ _ => True.intro) ?_ ?_
    · rintro i v σ H2 H2' hi ⟨y2, rfl, s2, bef⟩ ⟨T', ns, rfl, nT, rfl, e⟩
      have ep := at_pair e
      obtain ⟨a, b, a0', ab, bm, eg⟩ := mem_pairsL.mp (List.mem_of_getElem? ep)
      have gg : goodG many (ns.map fun (j : Nat) => (j : Int)) := by rw [eg]; exact pair_good a0' ab bm
      have sT := same_new (o := .tup (ns.map fun (j : Nat) => V.int j)) nT
      have s12 := s2.trans sT
      have hT : (upd H2 T' (.tup (ns.map fun (j : Nat) => V.int j))) T' = some (.tup ((ns.map fun (j : Nat) => (j : Int)).map V.int)) := by
        rw [upd_same, List.map_map]
        rfl
      refine ⟨.ref m, rfl, .ref T', rfl, m, T', many, ws, ms, _, rfl, s12 _ _ hm1, hM1.same (Same.tups s12), G.mv, l8, m6, hT, gg, fun v H3 s3 hv => ?_⟩
      unfold ListOr2 at hv
      cases hr' : rowTo many ms (ns.map fun (j : Nat) => (j : Int)) with
      | none =>
        rw [hr'] at hv
        subst hv
        refine ⟨rfl, true, by simp, iteT ⟨.ref T', rfl, q _ _ (s1.trans (s12.trans s3)) ?_⟩⟩
        have e2 : firstApart many ms = some (ns.map fun (j : Nat) => (j : Int)) := find_atL ep (by rw [hr']; rfl) bef
        rw [e2]
        exact ⟨T', rfl, s3 _ _ hT⟩
      | some r =>
        rw [hr'] at hv
        obtain ⟨v', rfl, hv'⟩ := hv
        refine ⟨rfl, false, by simp, iteF ⟨_, rfl, s12.trans s3, fun j g hj ej => ?_⟩⟩
        by_cases c : j < i
        · exact bef j g c ej
        · have eji : j = i := by omega
          rw [eji, ep] at ej
          cases ej
          rw [hr']
          rfl
    · rintro σ H2 ⟨y2, rfl, s2, bef⟩
      refine q _ _ (s1.trans s2) ?_
      have lp : (pairsL many).length = (Cm.combsN many).length := by
        unfold pairsL
        rw [List.length_map, combs_eq many m6]
      have e : firstApart many ms = none := List.find?_eq_none.mpr fun g hg => by
        obtain ⟨j, hj, ej⟩ := List.getElem_of_mem hg
        rw [bef j g (by omega) (by rw [← ej]; exact List.getElem?_eq_getElem hj)]
        exact Bool.false_ne_true
      rw [e]
      rfl
end
/-! ### which places meet: the mathematics -/
/-- a row leads the group to one place -/
def Meets (many : Nat) (ms : List Mv) (g : List Int) : Prop := ∃ r, Valid ms r ∧ (runG many ms g r).length = 1
theorem runG_cons (many : Nat) (ms : List Mv) (g : List Int) (n : Int) (r : List Int) : runG many ms g (n :: r) = runG many ms (ledG many (rowM ms n.toNat) g) r := rfl
theorem runG_app (many : Nat) (ms : List Mv) (g r s : List Int) : runG many ms g (r ++ s) = runG many ms (runG many ms g r) s := List.foldl_append
theorem find_one {l : List GR} : (((l.find? fun p => decide (p.1.length = 1)).map (·.2)).isSome = true) ↔ ∃ p ∈ l, p.1.length = 1 := by
  rw [Option.isSome_map, List.find?_isSome]
  constructor
  · rintro ⟨p, hp, c⟩
    exact ⟨p, hp, of_decide_eq_true c⟩
  · rintro ⟨p, hp, c⟩
    exact ⟨p, hp, decide_eq_true c⟩
theorem rowTo_meets {many : Nat} {ms : List Mv} {g : List Int} (hb : goodG many g) (m6 : many ≤ 6) : (rowTo many ms g).isSome = true ↔ Meets many ms g := by
  have fo := find_one (l := gf many ms g)
  have rows := gf_row (many := many) (ms := ms) (b := g)
  have runs := fun r h => gf_run (many := many) (ms := ms) (b := g) hb m6 (r := r) h
  unfold rowTo
  generalize gf many ms g = l at fo rows runs ⊢
  rw [fo]
  constructor
  · rintro ⟨p, hp, c⟩
    obtain ⟨h1, h2⟩ := rows p hp
    exact ⟨p.2, h2, by rw [h1]; exact c⟩
  · rintro ⟨r, hv, hl⟩
    obtain ⟨p, hp, e⟩ := List.mem_map.mp (runs r hv)
    exact ⟨p, hp, by rw [e]; exact hl⟩
theorem rowTo_none {many : Nat} {ms : List Mv} {g : List Int} (hb : goodG many g) (m6 : many ≤ 6) : (rowTo many ms g).isNone = true ↔ ¬ Meets many ms g := by
  rw [← rowTo_meets hb m6]
  cases rowTo many ms g <;> simp
theorem runG_good {many : Nat} {ms : List Mv} {g : List Int} (hb : goodG many g) : ∀ r, goodG many (runG many ms g r) := fun r => by
  induction r using snocInd with
  | h0 => exact hb
  | h l x _ =>
    rw [runG_snoc]
    exact ledG_good _ _ _
theorem mem_runG {many : Nat} {ms : List Mv} (G : GoodAll many ms) : ∀ {r g : List Int} {z : Int}, goodG many g → Valid ms r → (z ∈ runG many ms g r ↔ ∃ x ∈ g, walkP ms x r = z)
  | [], g, z, _, _ => ⟨fun h => ⟨z, h, rfl⟩, fun ⟨x, hx, e⟩ => by
      have e' : x = z := e
      rw [← e']
      exact hx⟩
  | n :: r, g, z, hg, hv => by
    have hn := hv n List.mem_cons_self
    have gr : GoodRow many (rowM ms n.toNat) := rowM_good G (by omega)
    rw [runG_cons, mem_runG G (ledG_good _ _ _) fun k hk => hv k (List.mem_cons_of_mem _ hk)]
    constructor
    · rintro ⟨y, hy, e⟩
      obtain ⟨x, hx, rfl⟩ := (mem_ledG gr hg.2).mp hy
      exact ⟨x, hx, e⟩
    · rintro ⟨x, hx, e⟩
      exact ⟨goK (rowM ms n.toNat) x, (mem_ledG gr hg.2).mpr ⟨x, hx, rfl⟩, e⟩
theorem runG_len {many : Nat} {ms : List Mv} (G : GoodAll many ms) {r g h : List Int} (hg : goodG many g) (hv : Valid ms r) (sub : ∀ x ∈ g, walkP ms x r ∈ h.map fun y => walkP ms y r) : (runG many ms g r).length ≤ h.length := by
  have nd : (runG many ms g r).Nodup := List.Pairwise.imp (fun {a b} (h : a < b) => (by omega : a ≠ b)) (runG_good hg r).1
  have := pigeon (l := runG many ms g r) (m := h.map fun y => walkP ms y r) nd fun z hz => by
    obtain ⟨x, hx, rfl⟩ := (mem_runG G hg hv).mp hz
    exact sub x hx
  rw [List.length_map] at this
  exact this
theorem runG_ne {many : Nat} {ms : List Mv} (G : GoodAll many ms) {r g : List Int} (hg : goodG many g) (hv : Valid ms r) (ne : g ≠ []) : runG many ms g r ≠ [] := by
  obtain ⟨x, t, rfl⟩ := List.exists_cons_of_ne_nil ne
  intro z
  have := (mem_runG G hg hv).mpr ⟨x, List.mem_cons_self, rfl⟩
  rw [z] at this
  cases this
/-- where each two places meet, all do -/
theorem sync {many : Nat} {ms : List Mv} (G : GoodAll many ms) (all : ∀ x y : Int, 0 ≤ x → x < y → y < (many : Int) → Meets many ms [x, y]) : ∀ (k : Nat) (g : List Int), goodG many g → g ≠ [] → g.length ≤ k → Meets many ms g
  | 0, g, _, ne, h => absurd (List.eq_nil_of_length_eq_zero (by omega)) ne
  | k + 1, g, hg, ne, h => by
    match g, hg, ne, h with
    | [x], _, _, _ => exact ⟨[], (fun _ h => nomatch h), rfl⟩
    | x :: y :: t, hg, _, h =>
      have xy : x < y := (List.pairwise_cons.mp hg.1).1 y List.mem_cons_self
      have hx := hg.2 x List.mem_cons_self
      have hy := hg.2 y (List.mem_cons_of_mem _ List.mem_cons_self)
      obtain ⟨r, hv, hl⟩ := all x y hx.1 xy hy.2
      have gp : goodG many [x, y] := pair_good hx.1 xy hy.2
      obtain ⟨z, ez⟩ : ∃ z, runG many ms [x, y] r = [z] := List.length_eq_one_iff.mp hl
      have wx : walkP ms x r = z := by
        have := (mem_runG G gp hv).mpr ⟨x, List.mem_cons_self, rfl⟩
        rw [ez] at this
        exact List.mem_singleton.mp this
      have wy : walkP ms y r = z := by
        have := (mem_runG G gp hv).mpr ⟨y, List.mem_cons_of_mem _ List.mem_cons_self, rfl⟩
        rw [ez] at this
        exact List.mem_singleton.mp this
      have le : (runG many ms (x :: y :: t) r).length ≤ (x :: t).length := runG_len G hg hv fun u hu => by
        rcases List.mem_cons.mp hu with e | hu
        · rw [e]; exact List.mem_map.mpr ⟨x, List.mem_cons_self, rfl⟩
        · rcases List.mem_cons.mp hu with e | hu
          · rw [e, wy, ← wx]; exact List.mem_map.mpr ⟨x, List.mem_cons_self, rfl⟩
          · exact List.mem_map.mpr ⟨u, List.mem_cons_of_mem _ hu, rfl⟩
      obtain ⟨s, hs, e⟩ := sync G all k (runG many ms (x :: y :: t) r) (runG_good hg r) (runG_ne G hg hv (List.cons_ne_nil _ _)) (by
        rw [List.length_cons] at le h
        rw [List.length_cons] at h
        omega)
      exact ⟨r ++ s, hv.app hs, by rw [runG_app]; exact e⟩
theorem apart_none {many : Nat} {ms : List Mv} (G : GoodAll many ms) (m6 : many ≤ 6) (m1 : 1 ≤ many) (h : firstApart many ms = none) : (rowTo many ms (ids many)).isSome = true := by
  refine (rowTo_meets (ids_good many) m6).mpr (sync G (fun x y x0 xy ym => ?_) _ (ids many) (ids_good many) (fun z => ?_) (Nat.le_refl _))
  · have := List.find?_eq_none.mp h [x, y] (mem_pairsL.mpr ⟨x, y, x0, xy, ym, rfl⟩)
    exact Classical.byContradiction fun c => this ((rowTo_none (pair_good x0 xy ym) m6).mpr c)
  · have : (0 : Int) ∈ ids many := mem_ids.mpr ⟨by omega, by omega⟩
    rw [z] at this
    cases this
/-- if two are apart so are all -/
theorem Meets.sub {many : Nat} {ms : List Mv} (G : GoodAll many ms) {g h : List Int} (hg : goodG many g) (hh : goodG many h) (ne : h ≠ []) (sub : ∀ x ∈ h, x ∈ g) (m : Meets many ms g) : Meets many ms h := by
  obtain ⟨r, hv, hl⟩ := m
  refine ⟨r, hv, ?_⟩
  obtain ⟨z, ez⟩ := List.length_eq_one_iff.mp hl
  have le : (runG many ms h r).length ≤ [z].length := by
    have nd : (runG many ms h r).Nodup := List.Pairwise.imp (fun {a b} (h : a < b) => (by omega : a ≠ b)) (runG_good hh r).1
    refine pigeon nd fun u hu => ?_
    obtain ⟨x, hx, rfl⟩ := (mem_runG G hh hv).mp hu
    rw [← ez]
    exact (mem_runG G hg hv).mpr ⟨x, sub x hx, rfl⟩
  have : (runG many ms h r).length ≠ 0 := fun z => runG_ne G hh hv ne (List.eq_nil_of_length_eq_zero z)
  have e : [z].length = 1 := rfl
  omega
/-- what two that never meet come to: two -/
theorem apart_two {many : Nat} {ms : List Mv} (G : GoodAll many ms) {x y : Int} (hg : goodG many [x, y]) (no : ¬ Meets many ms [x, y]) : ∀ p ∈ gf many ms [x, y], p.1.length = 2 ∧ goodG many p.1 := by
  intro p hp
  obtain ⟨e, hv⟩ := gf_row p hp
  have le : (runG many ms [x, y] p.2).length ≤ [x, y].length := runG_len G hg hv fun u hu => List.mem_map.mpr ⟨u, hu, rfl⟩
  have ne := runG_ne G hg hv (List.cons_ne_nil x [y])
  have n0 : (runG many ms [x, y] p.2).length ≠ 0 := fun z => ne (List.eq_nil_of_length_eq_zero z)
  have n1 : (runG many ms [x, y] p.2).length ≠ 1 := fun z => no ⟨p.2, hv, z⟩
  have l2 : [x, y].length = 2 := rfl
  rw [← e]
  exact ⟨by omega, runG_good hg p.2⟩
section
variable {P : Program} {w : World} {K : PySem.W.Frag} {mg : Str → Option Value} {base : Heap} {C : Addr}
/-! ### everywhere -/
theorem scEv : FnScope ["chain"] ["chain"] (defScope sEverywhere) := ⟨rfl, rfl, rfl, by decide +kernel, rfl, by decide +kernel, by decide +kernel⟩
def spEv (C : Addr) : Sp := fun vs H Q _ => ∃ (x : Addr) (many : Nat) (ms : List Mv), vs = [.ref x] ∧ ChainAt C H x many ms ∧ Good many ms ∧ ∀ a H', Same H H' → H' a = some (.tup ((ids many).map V.int)) → Q (.ref a) H'
theorem ok_ev {f fP fT : Addr} {fd fdP fdT : FuncData} (F : Fun K "everywhere" "everywhere" sEverywhere f fd) (T : ChM K C fP fT fdP fdT) (mt : mg "tuple" = none) (mr : mg "range" = none) : FnOk P w K mg base CX0 2 f fd ["chain"] (spEv C) := by
  have GP : FnOk P w K mg base CX0 1 fP fdP ["self"] (spPlaces C) := ok_places T.FP T.cl T.nM
  refine F.ok scEv (fun vs H Q E h => ?_) (fun cdv A outer s H vs Q E hr h => ?_)
  · obtain ⟨x, many, ms, rfl, _⟩ := h
    rfl
  · obtain ⟨x, many, ms, rfl, hC, G, q⟩ := h
    refine ⟨_, (pss_one (ps_ret (pe_tupRg rfl (by rfl) mt (prg_1 (by rfl) mr (pe_meth0 (pv 0) T.cl T.hP GP hr T.bP .nil pass0))))), ?_⟩
    have m6 := G.m6
    obtain ⟨dx, a0, ws, h1, h2, h3⟩ := id hC
    refine ⟨.ref x, rfl, x, dx, _, rfl, h1, ch_no, x, many, ms, rfl, hC, _, rfl, RgOk.of_le (by omega) (by omega) (by omega) (by omega), fun a na => ?_⟩
    rw [rg_ends]
    exact q a _ (same_new na) upd_same
/-! ### meeting -/
/-- the pairs to which a pair comes, rising -/
def behindL (many : Nat) (ms : List Mv) (g : List Int) (L : List (List Int)) : Prop := L.Perm (keysG (gf many ms g)) ∧ L.Pairwise (fun q r => TS.code 64 q ≤ TS.code 64 r)
/-- tuples in a list -/
def TupsAt (H : Hp) (a : Addr) (xss : List (List Int)) : Prop := ∃ vs, H a = some (.lst vs) ∧ Paired (fun v g => ∃ t, v = V.ref t ∧ H t = some (.tup (g.map V.int))) vs xss
def MtAt (H : Hp) (v : V) (many : Nat) (ms : List Mv) : Prop := match rowTo many ms (ids many) with
  | some r => ∃ t a, v = .ref t ∧ H t = some (.tup [.str "row", .ref a]) ∧ H a = some (.lst (r.map V.int))
  | none => ∃ t a g L, v = .ref t ∧ H t = some (.tup [.str "apart", .ref a]) ∧ firstApart many ms = some g ∧ behindL many ms g L ∧ TupsAt H a L
theorem two_of {l : List Int} (h : l.length = 2) : ∃ u v, l = [u, v] := by
  match l, h with
  | [u, v], _ => exact ⟨u, v, rfl⟩
theorem scMt : FnScope ["chain", "moves", "row"] ["chain"] (defScope sMeeting) := ⟨rfl, rfl, rfl, by decide +kernel, rfl, by decide +kernel, by decide +kernel⟩
def spMt (C : Addr) : Sp := fun vs H Q _ => ∃ (x : Addr) (many : Nat) (ms : List Mv), vs = [.ref x] ∧ ChainAt C H x many ms ∧ Good many ms ∧ ∀ v H', Same H H' → MtAt H' v many ms → Q v H'
theorem ok_mt {f fR fG fE fA fP fT : Addr} {fd fdR fdG fdE fdA fdP fdT : FuncData} (F : Fun K "meeting" "meeting" sMeeting f fd) (DRt : Df K mg "_row_to_one" sRowToOne ["moves", "group"] fR fdR) (GRt : FnOk P w K mg base CX0 3 fR fdR ["moves", "group"] spRt)
    (DG : Df K mg "groups_from" sGroupsFrom ["moves", "begin"] fG fdG) (GG : FnOk P w K mg base CX0 2 fG fdG ["moves", "begin"] spGf) (DEv : Df K mg "everywhere" sEverywhere ["chain"] fE fdE) (GEv : FnOk P w K mg base CX0 2 fE fdE ["chain"] (spEv C))
    (DFa : Df K mg "_first_apart" sFirstApart ["chain"] fA fdA) (GFa : FnOk P w K mg base CX0 4 fA fdA ["chain"] (spFa C)) (T : ChM K C fP fT fdP fdT) (mL : mg "list" = none) (ms' : mg "sorted" = none) : FnOk P w K mg base CX0 5 f fd ["chain"] (spMt C) := by
  have GT : FnOk P w K mg base CX0 1 fT fdT ["self"] (spTold C) := ok_told T.FT T.cl T.nV mL
  refine F.ok scMt (fun vs H Q E h => ?_) (fun cdv A outer s H vs Q E hr h => ?_)
  · obtain ⟨x, many, ms, rfl, _⟩ := h
    rfl
  · obtain ⟨x, many, ms, rfl, hC, G, q⟩ := h
    have r1 : Room 1 _ := hr.mono (by decide)
    have r2 : Room 2 _ := hr.mono (by decide)
    have r3 : Room 3 _ := hr.mono (by decide)
    refine ⟨_, (pss_cons (ps_set (i := 1) scMt.nd rfl (.inl rfl) (pe_meth0 (pv 0) T.cl T.hT GT r1 T.bT .nil pass0))
      (pss_cons (ps_set (i := 2) scMt.nd rfl (.inl rfl) (pe_call GRt r3 (by rfl) DRt.g DRt.F.kp DRt.b .nil pass0 (pa_cons (pv 1) (pa_cons (pe_call GEv r2 (by rfl) DEv.g DEv.F.kp DEv.b .nil pass0 (pa_cons (pv 0) pa_nil)) pa_nil))))
      (pss_cons (ps_if (pt_cmpR op_notN (pv 2) pe_non (nomark _)) (pss_one (ps_ret (pe_tup (pa_cons pe_str (pa_cons (pv 2) pa_nil))))) pss_nil)
      (pss_one (ps_ret (pe_tup (pa_cons pe_str (pa_cons (pe_callB (cr_sortedD (dd := 2) (B := 64) rfl (by decide)) (by rfl) ms' (by decide +kernel) (pa_cons (pe_call GG r2 (by rfl) DG.g DG.F.kp DG.b .nil pass0 (pa_cons (pv 1) (pa_cons (pe_call GFa hr (by rfl) DFa.g DFa.F.kp DFa.b .nil pass0 (pa_cons (pv 0) pa_nil)) pa_nil))) pa_nil)) pa_nil)))))))), ?_⟩
    have m6 := G.m6
    have m1 := G.m1
    have l8 := G.l8
    have two : (2 : Nat) ≤ sizeLine := by decide
    obtain ⟨dx, a0, ws0, h1, h2, h3⟩ := id hC
    refine ⟨.ref x, rfl, x, dx, _, rfl, h1, ch_noT, x, many, ms, rfl, hC, fun m ws nm hM1 => ?_⟩
    have s1 := same_new (o := .lst ws) nm
    have hm1 : (upd H m (.lst ws)) m = some (.lst ws) := upd_same
    have hC1 := hC.same s1
    generalize upd H m (.lst ws) = H1 at s1 hm1 hM1 hC1 ⊢
    refine ⟨.ref m, rfl, .ref x, rfl, x, many, ms, rfl, hC1, G, fun e H2 s2 he => ?_⟩
    refine ⟨m, e, many, ws, ms, ids many, rfl, s2 _ _ hm1, hM1.same (Same.tups s2), G.mv, l8, m6, he, ids_good many, fun v H3 s3 hv => ?_⟩
    have s13 := (s1.trans s2).trans s3
    have s23 := s2.trans s3
    unfold ListOr2 at hv
    cases hr' : rowTo many ms (ids many) with
    | some r =>
      rw [hr'] at hv
      obtain ⟨a, rfl, ha⟩ := hv
      refine ⟨.ref a, rfl, rfl, true, by simp, iteT ⟨.ref a, rfl, two, fun t nt => ?_⟩⟩
      have s4 := same_new (o := .tup [V.str "row", .ref a]) nt
      refine q _ _ (s13.trans s4) ?_
      unfold MtAt
      rw [hr']
      exact ⟨t, a, rfl, upd_same, s4 _ _ ha⟩
    | none =>
      rw [hr'] at hv
      subst hv
      refine ⟨.non, rfl, rfl, false, by simp, iteF ?_⟩
      refine ⟨.ref m, rfl, .ref x, rfl, x, many, ms, rfl, hC1.same s23, G, fun v2 H4 s4 hv2 => ?_⟩
      unfold TupOr at hv2
      cases hf : firstApart many ms with
      | none =>
        have := apart_none G.mv m6 m1 hf
        rw [hr'] at this
        cases this
      | some g =>
        rw [hf] at hv2
        obtain ⟨ga, rfl, hga⟩ := hv2
        obtain ⟨gx, gy, x0, xy, ym, rfl⟩ := mem_pairsL.mp (List.mem_of_find?_eq_some hf)
        have gg := pair_good x0 xy ym
        have no : ¬ Meets many ms [gx, gy] := (rowTo_none gg m6).mp (List.find?_some (p := fun g => (rowTo many ms g).isNone) hf)
        have s24 := s23.trans s4
        refine ⟨m, ga, many, ws, ms, [gx, gy], rfl, s24 _ _ hm1, hM1.same (Same.tups s24), G.mv, l8, m6, hga, gg, fun D H5 s5 nD ⟨kvs, hD, pk⟩ => ?_⟩
        have two' := apart_two G.mv gg no
        have len := gf_len (ms := ms) gg m6
        have hkeys : kvs.map (·.1) = (keysG (gf many ms [gx, gy])).map (fun g => g.map (Sum.inl (β := Str))) := by
          generalize gf many ms [gx, gy] = l at pk
          clear two' len hD
          induction pk with
          | nil => rfl
          | cons h _ ih =>
            rw [List.map_cons, ih, h.1]
            rfl
        have hlen : (keysG (gf many ms [gx, gy])).length < 64 := by
          refine Nat.lt_of_le_of_lt (pigeon (m := pairsL many) (bfsN_nodup many ms [gx, gy] 64) fun g hg => ?_) ?_
          · obtain ⟨pp, hp, rfl⟩ := List.mem_map.mp hg
            obtain ⟨a, b⟩ := two' pp hp
            obtain ⟨u, v, e⟩ : ∃ u v, pp.1 = [u, v] := two_of a
            rw [e] at b ⊢
            exact mem_pairsL.mpr ⟨u, v, (b.2 u List.mem_cons_self).1, (List.pairwise_cons.mp b.1).1 v List.mem_cons_self, (b.2 v (List.mem_cons_of_mem _ List.mem_cons_self)).2, rfl⟩
          · have := combOk_len (Cm.combOk_small many m6)
            unfold pairsL
            rw [List.length_map, ← combs_eq many m6]
            omega
        refine ⟨D, kvs, keysG (gf many ms [gx, gy]), rfl, hD, hkeys, hlen, fun g hg => ?_, fun L' p hsq pm pw np => ?_⟩
        · obtain ⟨pp, hp, rfl⟩ := List.mem_map.mp hg
          obtain ⟨a, b⟩ := two' pp hp
          refine ⟨a, ?_⟩
          exact fun z hz => by have := b.2 z hz; omega
        have s6 := same_new (o := .lst (L'.map fun q => V.ref q.1)) np
        refine ⟨two, fun t nt => ?_⟩
        have s7 := same_new (o := .tup [V.str "apart", .ref p]) nt
        have hp7 := s7 _ _ (show (upd H5 p (.lst (L'.map fun q => V.ref q.1))) p = some _ from upd_same)
        refine q _ _ (((s13.trans s4).trans s5).trans (s6.trans s7)) ?_
        unfold MtAt
        rw [hr']
        refine ⟨t, p, [gx, gy], L'.map (·.2), rfl, upd_same, hf, ⟨pm, List.pairwise_map.mpr pw⟩, _, hp7, ?_⟩
        have s67 := s6.trans s7
        have : ∀ M : List (Addr × List Int), (∀ q ∈ M, H5 q.1 = some (.tup (q.2.map V.int))) → Paired (fun v (g : List Int) => ∃ t2, v = V.ref t2 ∧ (upd (upd H5 p (.lst (L'.map fun q => V.ref q.1))) t (.tup [V.str "apart", .ref p])) t2 = some (.tup (g.map V.int))) (M.map fun q => V.ref q.1) (M.map (·.2)) := by
          intro M
          induction M with
          | nil => intro _; exact .nil
          | cons q M ih =>
            intro h
            refine .cons ⟨q.1, rfl, s67 _ _ (h q List.mem_cons_self)⟩ (ih fun z hz => h z (List.mem_cons_of_mem _ hz))
        exact this L' hsq
end
section
variable {P : Program} {w : World} {K : PySem.W.Frag} {mg : Str → Option Value} {base : Heap} {C : Addr}
/-! ### _law_shortest -/
theorem find_idx {l : List GR} {f : GR → Bool} {r : GR} (h : l.find? f = some r) : ∃ i : Nat, l[i]? = some r ∧ f r = true ∧ ∀ (j : Nat) (p : GR), j < i → l[j]? = some p → f p = false := by
  induction l with
  | nil => cases h
  | cons x t ih =>
    rw [List.find?_cons] at h
    cases c : f x with
    | true =>
      rw [c] at h
      cases h
      exact ⟨0, rfl, c, fun j p hj => absurd hj (Nat.not_lt_zero _)⟩
    | false =>
      rw [c] at h
      obtain ⟨i, h1, h2, h3⟩ := ih h
      refine ⟨i + 1, h1, h2, fun j p hj e => ?_⟩
      cases j with
      | zero =>
        cases e
        exact c
      | succ j => exact h3 j p (by omega) e
theorem bfsN_at {many : Nat} {ms : List Mv} {b : List Int} {d : Nat} (h : d < (gf many ms b).length) (l64 : (gf many ms b).length ≤ 64) : (bfsN many ms b d)[d]? = (gf many ms b)[d]? ∧ d < (bfsN many ms b d).length := by
  have hlt : d < (bfsN many ms b d).length := by
    refine Nat.lt_of_not_le fun c => ?_
    have := bfsN_gf c (by omega)
    rw [this] at c
    omega
  have pr := bfsN_pre many ms b d (64 - d)
  rw [show d + (64 - d) = 64 by omega] at pr
  refine ⟨?_, hlt⟩
  rw [List.getElem?_eq_getElem hlt]
  exact (pr.at (List.getElem?_eq_getElem hlt)).symm
theorem scSh : FnScope ["_law_told", "_law_rows", "_law_waiting", "_law_at", "_law_here", "_law_number", "_law_behind_here", "_law_place"] ["_law_told"] (defScope sLawShortest) := ⟨rfl, rfl, rfl, by decide +kernel, rfl, by decide +kernel, by decide +kernel⟩
def spSh : Sp := fun vs H Q _ => ∃ (t m : Addr) (many : Nat) (ws : List V) (ms : List Mv) (r : List Int), vs = [.ref t] ∧ ToldAt H t m many ws ms ∧ Good many ms ∧ rowTo many ms (ids many) = some r ∧ ∀ a H', Same H H' → H' a = some (.lst (r.map V.int)) → Q (.ref a) H'
theorem ok_sh {k : Nat} {f : Addr} {fd : FuncData} (F : Fun K "_law_shortest" "_law_shortest" sLawShortest f fd) (mr : mg "range" = none) (ml : mg "len" = none) (mt : mg "tuple" = none) (ms' : mg "sorted" = none) (mS : mg "set" = none) (mL : mg "list" = none) : FnOk P w K mg base CX0 (k + 1) f fd ["_law_told"] spSh := by
  refine F.ok scSh (fun vs H Q E h => ?_) (fun cdv A outer s H vs Q E hr h => ?_)
  · obtain ⟨t, m, many, ws, ms, r, rfl, _⟩ := h
    rfl
  · obtain ⟨t, m, many, ws, ms, r, rfl, hT, G, hrow, q⟩ := h
    have hu1 := hu_of hr
    refine ⟨_, (pss_cons (ps_set (i := 1) scSh.nd rfl (.inl rfl) (pe_disp1T hu1 (pps_cons (pe_tupRg rfl (by rfl) mt (prg_1 (by rfl) mr (pe_ix ix_tup (pv 0) pe_int (fun _ _ => rfl)))) (pe_lst pa_nil) pps_nil)))
      (pss_cons (ps_set (i := 2) scSh.nd rfl (.inl rfl) (pe_callTy (cr_listD rfl) (by rfl) mL (by decide +kernel) (pa_cons (pv 1) pa_nil)))
      (pss_cons (ps_set (i := 3) scSh.nd rfl (.inl rfl) pe_int)
      (pss_cons (ps_while PassesOwn.never (pt_cmpR op_gt (pe_callB call_len_seq (by rfl) ml PySem.boot_len (pa_cons (pe_ix ix_list (pv 2) (pv 3) (fun _ _ => rfl)) pa_nil)) pe_int (nomark _)) (pss_cons (ps_set (i := 4) scSh.nd rfl (.inl rfl) (pe_ix ix_list (pv 2) (pv 3) (fun _ _ => rfl)))
      (pss_cons (ps_set (i := 3) scSh.nd rfl (.inl rfl) (pe_op op_add (pv 3) pe_int))
      (pss_one (ps_for PassesOwn.never rfl (pi_range1 (by rfl) mr (pa_cons (pe_callB call_len_seq (by rfl) ml PySem.boot_len (pa_cons (pe_ix ix_tup (pv 0) pe_int (fun _ _ => rfl)) pa_nil)) pa_nil)) (pg_name (i := 5) scSh.nd rfl (.inr rfl)) (pss_cons (ps_set (i := 6) scSh.nd rfl (.inl rfl) (pe_callTy call_tuple_of (by rfl) mt (by decide +kernel) (pa_cons (pe_sset (by rfl) ms' (by rfl) mS (pe_lc (own := [("_law_place", 7)]) (g := gName 7) (tt := tYes) (te := (tOp (rIxT K) (tOp (rIxT K) (tOp (rIxL K) (tOp (rIxT K) (tVar 0) (tC (.int 1))) (tVar 5)) (tC (.int 1))) (tVar 7))) rfl scSh.nd (pi_tup (pv 4)) (blkOk_by (N := ["_law_told", "_law_rows", "_law_waiting", "_law_at", "_law_here", "_law_number", "_law_behind_here", "_law_place"]) (sc := defScope sLawShortest) (by decide +kernel)) (fun _ _ _ _ _ => by exact (pg_name (i := 7) scSh.nd rfl (.inl rfl))) (fun _ _ _ _ _ => pts_nil) (fun _ _ _ _ _ => by exact (pe_ix ix_tup (pe_ix ix_tup (pe_ix ix_list (pe_ix ix_tup (pv 0) pe_int (fun _ _ => rfl)) (pv 5) (fun _ _ => rfl)) pe_int (fun _ _ => rfl)) (pv 7) (fun _ _ => rfl))))) pa_nil)))
      (pss_one (ps_if (pt_cmp (pc_dnotin (hu1) (pv 6) (pv 1))) (pss_cons (ps_dput (hu1) (pv 1) (pv 6) (pe_op op_cat (pe_dget (hu1) (pv 1) (pv 4) (fun _ _ => rfl)) (pe_lst (pa_cons (pv 5) pa_nil))) rfl)
      (pss_one (ps_expr (pe_bm PySem.F.plainAttrs_list PySem.F.slot_list_append PySem.F.type_list_append mt_append (pv 2) (pa_cons (pv 6) pa_nil))))) pss_nil))))))))
      (pss_one (ps_ret (pe_dget (hu1) (pv 1) (pe_ix ix_list (pv 2) (pv 3) (fun _ _ => rfl)) (fun _ _ => rfl)))))))), ?_⟩
    have m6 := G.m6
    have m1 := G.m1
    have l8 := G.l8
    have gb := ids_good many
    have ne : ids many ≠ [] := fun z => by
      have : (0 : Int) ∈ ids many := mem_ids.mpr ⟨by omega, by omega⟩
      rw [z] at this
      cases this
    have lenW := hT.2.2.length
    have l64 := gf_len (ms := ms) gb m6
    have lenB := bfsN_len (ms := ms) gb m6
    have rows := gf_row (many := many) (ms := ms) (b := ids many)
    have atB := fun d h => bfsN_at (many := many) (ms := ms) (b := ids many) (d := d) h l64
    obtain ⟨KK, pK, eK, lK, bef, rfl⟩ : ∃ (KK : Nat) (pK : GR), (gf many ms (ids many))[KK]? = some pK ∧ decide (pK.1.length = 1) = true ∧ (∀ (j : Nat) (p : GR), j < KK → (gf many ms (ids many))[j]? = some p → decide (p.1.length = 1) = false) ∧ r = pK.2 := by
      unfold rowTo at hrow
      obtain ⟨pK, hf, e⟩ := Option.map_eq_some_iff.mp hrow
      obtain ⟨i, a, b, c⟩ := find_idx hf
      exact ⟨i, pK, a, b, c, e.symm⟩
    have KL : KK < (gf many ms (ids many)).length := (List.getElem?_eq_some_iff.mp eK).1
    generalize hb : ids many = b at gb ne l64 lenB rows atB KL eK bef hrow
    generalize hgf : gf many ms b = gl at l64 rows atB KL eK bef
    -- rows = {tuple(range(many)): []}
    refine fun D nD => ?_
    have s1 : Same H (upd H D (.dT [])) := same_new nD
    refine ⟨.ref t, rfl, t, _, 0, _, rfl, rfl, SqT.of (s1 _ _ hT.1), atI_nat (j := 0) rfl, _, rfl, RgOk.of_le (by omega) (by omega) (by omega) (by omega), fun ba nba => ?_⟩
    have hids : ((List.range many).map fun (i : Nat) => (i : Int)) = b := hb
    rw [rg_ends, hids]
    have hb0 : (upd (upd H D (.dT [])) ba (.tup (b.map V.int))) ba = some (.tup (b.map V.int)) := upd_same
    have hD0 : (upd (upd H D (.dT [])) ba (.tup (b.map V.int))) D = some (.dT []) := same_new nba _ _ upd_same
    have s1b := Same.put (o := .tup (b.map V.int)) s1 (s1.free nba)
    generalize upd (upd H D (.dT [])) ba (.tup (b.map V.int)) = H1 at hb0 hD0 s1b ⊢
    refine ⟨Nat.zero_le _, fun r0 nr0 => ?_⟩
    have hD1 : (upd H1 r0 (.lst [])) D = some (.dT []) := same_new nr0 _ _ hD0
    refine ⟨hD1, ba, b.map Sum.inl, .ref r0, rfl, by rw [key_ints]; exact same_new nr0 _ _ hb0, ?_⟩
    have s2 : Same H (upd (upd H1 r0 (.lst [])) D (.dT [(b.map Sum.inl, .ref r0)])) := Same.put (s1b.trans (same_new nr0)) nD
    have hD2 : (upd (upd H1 r0 (.lst [])) D (.dT [(b.map Sum.inl, .ref r0)])) D = some (.dT [(b.map Sum.inl, .ref r0)]) := upd_same
    have nr0D : r0 ≠ D := (ne_of_none hD0 nr0).symm
    have nbaD : ba ≠ D := fun z => by rw [z, hD0] at hb0; cases hb0
    have hr2 : (upd (upd H1 r0 (.lst [])) D (.dT [(b.map Sum.inl, .ref r0)])) r0 = some (.lst []) := by
      rw [upd_ne nr0D]
      exact upd_same
    have hb2 : (upd (upd H1 r0 (.lst [])) D (.dT [(b.map Sum.inl, .ref r0)])) ba = some (.tup (b.map V.int)) := by
      rw [upd_ne nbaD]
      exact same_new nr0 _ _ hb0
    generalize upd (upd H1 r0 (.lst [])) D (.dT [(b.map Sum.inl, .ref r0)]) = H2 at s2 hD2 hr2 hb2 ⊢
    -- waiting = list(rows)
    refine ⟨.ref D, rfl, D, _, [b], rfl, hD2, rfl, by show 1 ≤ 1000; decide, fun L F' hL hL2 nF => ?_⟩
    obtain ⟨bq, eL⟩ : ∃ bq : Addr × List Int, L = [bq] := List.length_eq_one_iff.mp (by rw [← List.length_map (f := (·.2)), hL2]; rfl)
    subst eL
    have ebq : bq.2 = b := by
      injection hL2
    have hbq : H2 bq.1 = some (.tup (b.map V.int)) := by
      rw [← ebq]
      exact hL bq List.mem_cons_self
    have nF0 := s2.free nF
    have nDF : D ≠ F' := ne_of_none hD2 nF
    have sea0 : Sea H (upd H2 F' (.lst [.ref bq.1])) D F' (bfsN many ms b 0) := ⟨s2.trans (same_new nF), _, _, same_new nF _ _ hD2, upd_same, .cons ⟨rfl, r0, rfl, same_new nF _ _ hr2⟩ .nil, .cons ⟨bq.1, rfl, same_new nF _ _ hbq⟩ .nil⟩
    show tSeq _ _ _ _ (upd H2 F' (.lst [.ref bq.1]))
    generalize upd H2 F' (.lst [.ref bq.1]) = H3 at sea0 ⊢
    refine while_by (fun σ H' => ∃ (d : Nat) (y4 y5 y6 : Option V), σ = [some (.ref t), some (.ref D), some (.ref F'), some (.int (d : Int)), y4, y5, y6, none] ∧ d ≤ KK ∧ Sea H H' D F' (bfsN many ms b d))
      (fun σ _ => match σ with | [_, _, _, some (.int d), _, _, _, _] => 65 - d.toNat | _ => 0) ⟨0, none, none, none, rfl, Nat.zero_le _, sea0⟩ ?_ ?_
    · rintro σ H4 ⟨d, y4, y5, y6, rfl, hd, sea⟩
      obtain ⟨s4, kvs, fs, hD4, hF4, pk, pf⟩ := id sea
      obtain ⟨eat, lt⟩ := atB d (by omega)
      obtain ⟨p, ep'⟩ : ∃ p, (bfsN many ms b d)[d]? = some p := ⟨_, List.getElem?_eq_getElem lt⟩
      have hp := List.mem_of_getElem? ep'
      obtain ⟨v, ev, ga, rfl, hga⟩ := paired_get (F := fun v (p : GR) => ∃ a, v = V.ref a ∧ H4 a = some (.tup (p.1.map V.int))) pf ep'
      have lenF : fs.length = (bfsN many ms b d).length := pf.length
      have gp : goodG many p.1 := bfsN_good (ms := ms) gb d p hp
      have epg : gl[d]? = some p := by rw [← eat]; exact ep'
      have pne : p.1.length ≠ 0 := fun z => by
        obtain ⟨e1, e2⟩ := rows p (List.mem_of_getElem? epg)
        have := runG_ne G.mv gb e2 ne
        rw [e1] at this
        exact this (List.eq_nil_of_length_eq_zero z)
      refine ⟨.ref F', rfl, .int (d : Int), rfl, F', _, _, _, rfl, rfl, SqL.of hF4, atI_nat ev, ga, _, rfl, .inr (SqT.of hga), _, _, rfl, rfl, _, rfl, ite2 (fun c => ?_) (fun c => ?_)⟩
      · have pl : 1 < p.1.length := by
          have h1 := of_decide_eq_true c
          rw [List.length_map] at h1
          omega
        have dK : d < KK := by
          refine Nat.lt_of_le_of_ne hd fun z => ?_
          rw [z, eK] at epg
          have := of_decide_eq_true lK
          cases epg
          omega
        have hT4 := hT.same s4
        refine ⟨.ref F', rfl, .int (d : Int), rfl, F', _, _, _, rfl, rfl, SqL.of hF4, atI_nat ev, .int (d : Int), rfl, (d : Int), 1, rfl, rfl, ?_⟩
        refine ⟨.ref t, rfl, t, _, 1, _, rfl, rfl, SqT.of hT4.1, atI_nat (j := 1) rfl, m, ws, rfl, .inl (SqL.of hT4.2.1), _, rfl, by omega, by omega, ?_⟩
        refine for_range (lo := 0) (n := ((ws.length : Nat) : Int).toNat) (fun k σ H' => ∃ y5 y6, σ = [some (.ref t), some (.ref D), some (.ref F'), some (.int ((d : Int) + 1)), some (.ref ga), y5, y6, none] ∧ Sea H H' D F' (visitN many ms p.1 p.2 (bfsN many ms b d) k) ∧ H' ga = some (.tup (p.1.map V.int)) ∧ ∃ fs', H' F' = some (.lst fs') ∧ fs'[d]? = some (.ref ga))
          ⟨y5, y6, rfl, sea, hga, fs, hF4, ev⟩ ?_ ?_
        · rintro k σ H5 hk ⟨y5, y6, rfl, sea5, hga5, fs5, hF5, ev5⟩
          rw [Int.toNat_natCast] at hk
          obtain ⟨mv, emv⟩ : ∃ mv, ms[k]? = some mv := ⟨_, List.getElem?_eq_getElem (by omega)⟩
          have hk8 : k < ms.length := by omega
          obtain ⟨s5, kvs5, fs5', hD5, hF5', pk5, pf5⟩ := sea5
          have efs : fs5' = fs5 := by
            rw [hF5] at hF5'
            cases hF5'
            rfl
          subst efs
          have gm := G.mv mv (List.mem_of_getElem? emv)
          -- the group behind
          have hT5 := hT.same s5
          obtain ⟨w', ew, hmv⟩ := hT5.2.2.get emv
          obtain ⟨ta, tb, rfl, hta, htb⟩ := hmv
          refine ⟨.ref ga, rfl, ga, rfl, ⟨_, SqT.of hga5⟩, fun E1 nE1 => ?_⟩
          refine lc_tup (K := K) (a := ga) (xs := p.1.map V.int) (fun e H' => Same H5 H' ∧ H' E1 = some (.lst (((p.1.map (goK mv.2)).take e).map V.int))) ⟨same_new nE1, by rw [List.take_zero]; exact upd_same⟩ (fun e H' _ h => SqT.of (h.1 _ _ hga5)) ?_ ?_
          · rintro e v H6 hv ⟨s6, hE⟩
            rw [List.getElem?_map] at hv
            obtain ⟨z, hz, rfl⟩ := Option.map_eq_some_iff.mp hv
            obtain ⟨z0, z1⟩ := gp.2 z (List.mem_of_getElem? hz)
            refine ⟨rfl, .ref t, rfl, t, _, 1, _, rfl, rfl, SqT.of (s6 _ _ hT5.1), atI_nat (j := 1) rfl, .int (0 + (k : Int)), rfl, m, _, _, _, rfl, rfl, SqL.of (s6 _ _ hT5.2.1), at_of (show (0 + (k : Int)) = ((k : Nat) : Int) by omega) ew, ta, _, 1, _, rfl, rfl, SqT.of (s6 _ _ hta), atI_nat (j := 1) rfl, .int z, rfl, tb, _, z, _, rfl, rfl, SqT.of (s6 _ _ htb), at_of (show z = ((z.toNat : Nat) : Int) by omega) (at_goK z0 (by rw [gm.2.2.1]; omega)), ?_⟩
            refine ⟨_, hE, by rw [List.length_map, List.length_take]; exact small8 (Nat.le_trans (Nat.min_le_right _ _) (by rw [List.length_map]; have := gp.len; omega)), fun b u e => by rw [upd_ne (ne_of_none e nE1)]; exact s6 _ _ e, ?_⟩
            have ez : (p.1.map (goK mv.2))[e]? = some (goK mv.2 z) := by rw [List.getElem?_map, hz]; rfl
            rw [upd_same, take_snoc ez, List.map_append]
            rfl
          · rintro H6 ⟨s6, hE⟩
            rw [List.length_map, List.take_of_length_le (by rw [List.length_map]; exact Nat.le_refl _)] at hE
            refine ⟨E1, _, rfl, SqL.of hE, by rw [List.length_map]; have := gp.len; omega, fun sp xs c hxs hmem _ _ nsp => ?_⟩
            have exs : xs = ledG many mv.2 p.1 := rise_same hxs (ledG_good _ _ _).1 fun u => by
              rw [hmem, mem_ledG gm.2.2 gp.2, List.mem_map]
            subst exs
            have s7 := same_new (o := .lst ((ledG many mv.2 p.1).map V.int)) nsp
            refine ⟨sp, _, rfl, .inl ⟨SqL.of upd_same, fun g7 ng7 => ?_⟩⟩
            have sT7 := (s6.trans s7).trans (same_new (o := .tup ((ledG many mv.2 p.1).map V.int)) ng7)
            have hg7 : (upd (upd H6 sp (.lst ((ledG many mv.2 p.1).map V.int))) g7 (.tup ((ledG many mv.2 p.1).map V.int))) g7 = some (.tup ((ledG many mv.2 p.1).map V.int)) := upd_same
            generalize upd (upd H6 sp (.lst ((ledG many mv.2 p.1).map V.int))) g7 (.tup ((ledG many mv.2 p.1).map V.int)) = H7 at sT7 hg7 ⊢
            have hD7 := sT7 _ _ hD5
            have hF7 := sT7 _ _ hF5
            have pk7 : Paired (KvAt H7) kvs5 _ := L2.Paired.mapP pk5 fun kv q ⟨h1, a, h2, h3⟩ => ⟨h1, a, h2, sT7 _ _ h3⟩
            have pf7 := GrpsAt.same (Same.tups sT7) pf5
            have erow : rowM ms k = mv.2 := rowM_at emv
            have evis : visitN many ms p.1 p.2 (bfsN many ms b d) (k + 1) = addG (visitN many ms p.1 p.2 (bfsN many ms b d) k) (ledG many mv.2 p.1) (p.2 ++ [(k : Int)]) := by
              show addG _ (ledG many (rowM ms k) p.1) _ = _
              rw [erow]
            have hga7 := sT7 _ _ hga5
            have s07 := s5.trans sT7
            refine ⟨.ref g7, rfl, .ref D, rfl, D, _, rfl, DGet.t hD7 (by rw [key_ints]; exact hg7), ?_⟩
            rw [key_dec pk7]
            refine ⟨_, rfl, ite2 (fun c => ?_) (fun c => ?_)⟩
            · -- a new group
              have nm : ledG many mv.2 p.1 ∉ keysG (visitN many ms p.1 p.2 (bfsN many ms b d) k) := fun mem => by
                rw [decide_eq_true mem] at c
                cases c
              have lenK : kvs5.length ≤ 64 := by
                rw [pk5.length]
                have h1 := (visitN_pre many ms p.1 p.2 (bfsN many ms b d) k)
                have : Pre (visitN many ms p.1 p.2 (bfsN many ms b d) k) (visitN many ms p.1 p.2 (bfsN many ms b d) ms.length) := by
                  have : ∀ j, Pre (visitN many ms p.1 p.2 (bfsN many ms b d) k) (visitN many ms p.1 p.2 (bfsN many ms b d) (k + j)) := by
                    intro j
                    induction j with
                    | zero => exact Pre.refl _
                    | succ j ih => exact ih.trans (addG_pre _ _ _)
                  have h2 := this (ms.length - k)
                  rw [show k + (ms.length - k) = ms.length by omega] at h2
                  exact h2
                have h3 := this.len
                have h4 : bfsN many ms b (d + 1) = visitN many ms p.1 p.2 (bfsN many ms b d) ms.length := by
                  show stepN many ms (bfsN many ms b d) d = _
                  unfold stepN
                  rw [ep']
                have h5 := lenB (d + 1)
                rw [h4] at h5
                omega
              have lenF5 : fs5'.length ≤ 64 := by
                have h1 := pf5.length
                have h2 := pk5.length
                omega
              have lenR : p.2.length ≤ 64 := by
                have h1 := bfsN_rowlen d p hp
                have h2 := lenB d
                omega
              have hin : p ∈ visitN many ms p.1 p.2 (bfsN many ms b d) k := by
                obtain ⟨u, eu⟩ := visitN_pre many ms p.1 p.2 (bfsN many ms b d) k
                rw [eu]
                exact List.mem_append.mpr (.inl hp)
              obtain ⟨ra, hval, hra7⟩ := val_some pk7 (visitN_nodup (bfsN_nodup many ms b d) k) hin
              refine ⟨.ref D, rfl, .ref ga, rfl, D, .ref ra, rfl, by rw [← hval]; exact DGet.t hD7 (by rw [key_ints]; exact hga7), .int (k : Int), by simp, (by show 1 ≤ sizeLine; decide), fun c1 nc1 => ⟨ra, c1, _, _, rfl, rfl, same_new nc1 _ _ hra7, upd_same, le1k (by rw [List.length_map]; show p.2.length + 1 ≤ 1000; omega), fun c2 nc2 => ?_⟩⟩
              have er : p.2.map V.int ++ [V.int (k : Int)] = (p.2 ++ [(k : Int)]).map V.int := by rw [List.map_append]; rfl
              rw [er]
              have s8 := (same_new (o := .lst [.int (k : Int)]) nc1).trans (same_new (o := .lst ((p.2 ++ [(k : Int)]).map V.int)) nc2)
              have hc2 : (upd (upd H7 c1 (.lst [.int (k : Int)])) c2 (.lst ((p.2 ++ [(k : Int)]).map V.int))) c2 = some (.lst ((p.2 ++ [(k : Int)]).map V.int)) := upd_same
              generalize upd (upd H7 c1 (.lst [.int (k : Int)])) c2 (.lst ((p.2 ++ [(k : Int)]).map V.int)) = H8 at s8 hc2 ⊢
              have hD8 := s8 _ _ hD7
              have hF8 := s8 _ _ hF7
              have hg8 := s8 _ _ hg7
              refine ⟨.ref D, rfl, .ref g7, rfl, D, _, rfl, DPut.t hD8 (by rw [key_ints]; exact hg8) (lt1k (by omega)), ?_⟩
              rw [putK_new _ (val_none pk7 nm)]
              have neD : ∀ {b o}, H8 b = some o → (∀ kvs, o ≠ .dT kvs) → b ≠ D := fun e n z => by
                rw [z, hD8] at e
                exact n _ (Option.some.inj e).symm
              have hF9 : (upd H8 D (.dT (kvs5 ++ [((ledG many mv.2 p.1).map Sum.inl, .ref c2)]))) F' = some (.lst fs5') := by
                rw [upd_ne (Ne.symm nDF)]
                exact hF8
              refine ⟨.ref F', rfl, .inl ⟨rfl, _, SqL.of hF9⟩, .ref g7, rfl, F', _, _, rfl, rfl, hF9, lt1k (by omega), ?_⟩
              have k9 : ∀ b o, b ≠ D → b ≠ F' → H8 b = some o → (upd (upd H8 D (.dT (kvs5 ++ [((ledG many mv.2 p.1).map Sum.inl, .ref c2)]))) F' (.lst (fs5' ++ [.ref g7]))) b = some o := fun b o n1 n2 e => by
                rw [upd_ne n2, upd_ne n1]
                exact e
              have neF : ∀ {b xs}, H8 b = some (.tup xs) → b ≠ F' := fun e z => by
                rw [z, hF8] at e
                cases e
              have kt : ∀ b xs, H8 b = some (.tup xs) → (upd (upd H8 D (.dT (kvs5 ++ [((ledG many mv.2 p.1).map Sum.inl, .ref c2)]))) F' (.lst (fs5' ++ [.ref g7]))) b = some (.tup xs) := fun b xs e => k9 b _ (neD e fun _ z => nomatch z) (neF e) e
              have neI : ∀ {b : Addr} {ns : List Int}, H8 b = some (.lst (ns.map V.int)) → b ≠ F' := fun {b ns} e z => by
                rw [z, hF8] at e
                injection e with e
                injection e with e
                rw [e] at ev5
                exact ints_no_ref ev5
              have kl : ∀ (b : Addr) (ns : List Int), H8 b = some (.lst (ns.map V.int)) → (upd (upd H8 D (.dT (kvs5 ++ [((ledG many mv.2 p.1).map Sum.inl, .ref c2)]))) F' (.lst (fs5' ++ [.ref g7]))) b = some (.lst (ns.map V.int)) := fun b ns e => k9 b _ (neD e fun _ z => nomatch z) (neI e) e
              have e2 : visitN many ms p.1 p.2 (bfsN many ms b d) (k + 1) = visitN many ms p.1 p.2 (bfsN many ms b d) k ++ [(ledG many mv.2 p.1, p.2 ++ [(k : Int)])] := by
                rw [evis]
                unfold addG
                rw [if_neg nm]
              refine ⟨some (.int (0 + (k : Int))), some (.ref g7), rfl, ?_, kt _ _ (s8 _ _ hga7), _, upd_same, ?_⟩
              · rw [e2]
                refine ⟨fun b o e => k9 b o (ne_of_none e nD) (ne_of_none e nF0) (s8 _ _ (s07 _ _ e)), kvs5 ++ [((ledG many mv.2 p.1).map Sum.inl, .ref c2)], fs5' ++ [.ref g7], ?_, upd_same, ?_, ?_⟩
                · rw [upd_ne nDF]
                  exact upd_same
                · exact paired_end (F := KvAt _) ⟨rfl, c2, rfl, kl _ _ hc2⟩ (L2.Paired.mapP pk7 fun kv q ⟨h1, a, h2, h3⟩ => ⟨h1, a, h2, kl _ _ (s8 _ _ h3)⟩)
                · exact GrpsAt.snoc (GrpsAt.same (fun b xs e => kt b xs (s8 _ _ e)) pf7) (kt _ _ hg8)
              · rw [List.getElem?_append_left (by obtain ⟨h, _⟩ := List.getElem?_eq_some_iff.mp ev5; exact h)]
                exact ev5
            · -- it is there already
              have mem : ledG many mv.2 p.1 ∈ keysG (visitN many ms p.1 p.2 (bfsN many ms b d) k) := by
                by_cases mm : ledG many mv.2 p.1 ∈ keysG (visitN many ms p.1 p.2 (bfsN many ms b d) k)
                · exact mm
                · rw [decide_eq_false mm] at c
                  exact absurd rfl c
              have e2 : visitN many ms p.1 p.2 (bfsN many ms b d) (k + 1) = visitN many ms p.1 p.2 (bfsN many ms b d) k := by
                rw [evis]
                unfold addG
                rw [if_pos mem]
              refine ⟨some (.int (0 + (k : Int))), some (.ref g7), rfl, ?_, hga7, fs5', hF7, ev5⟩
              rw [e2]
              exact ⟨s07, kvs5, fs5', hD7, hF7, pk7, pf7⟩
        · rintro σ H5 ⟨y5, y6, rfl, sea5, _⟩
          rw [Int.toNat_natCast] at sea5
          have eb : visitN many ms p.1 p.2 (bfsN many ms b d) ws.length = bfsN many ms b (d + 1) := by
            show _ = stepN many ms (bfsN many ms b d) d
            unfold stepN
            rw [ep', lenW]
          rw [eb] at sea5
          have h64 := lenB d
          refine ⟨⟨d + 1, some (.ref ga), y5, y6, rfl, dK, sea5⟩, ?_⟩
          show 65 - ((d : Int) + 1).toNat < 65 - ((d : Int)).toNat
          omega
      · have p1 : p.1.length = 1 := by
          have h1 : ¬ ((1 : Int) < (((p.1.map V.int).length : Nat) : Int)) := fun z => c (decide_eq_true z)
          rw [List.length_map] at h1
          omega
        have dK : d = KK := by
          refine Nat.le_antisymm hd (Nat.le_of_not_lt fun z => ?_)
          have := bef d p z epg
          rw [decide_eq_true p1] at this
          cases this
        subst dK
        have epk : p = pK := by
          rw [epg] at eK
          exact Option.some.inj eK
        subst epk
        obtain ⟨ra, hval, hra⟩ := val_some pk (bfsN_nodup many ms b d) hp
        exact ⟨.ref D, rfl, .ref F', rfl, .int (d : Int), rfl, F', _, _, _, rfl, rfl, SqL.of hF4, atI_nat ev, D, .ref ra, rfl, by rw [← hval]; exact DGet.t hD4 (by rw [key_ints]; exact hga), q ra H4 s4 hra⟩
    · rintro σ H2 Q1 Q2 hq ⟨u, e2, u2, e3, p, xs, i, v, e4, e5, e6, e7, p2, ys, e8, e9, i1, j1, e10, e11, b, e12, h⟩
      exact ⟨u, e2, u2, e3, p, xs, i, v, e4, e5, e6, e7, p2, ys, e8, e9, i1, j1, e10, e11, b, e12, hq _ _ h⟩
end
/-! ### _law_apart: the mathematics -/
/-- where a move leads a pair, the lesser first -/
def bhP (row g : List Int) : List Int := if goK row (g.getD 0 0) ≤ goK row (g.getD 1 0) then [goK row (g.getD 0 0), goK row (g.getD 1 0)] else [goK row (g.getD 1 0), goK row (g.getD 0 0)]
def addA (kn : List (List Int)) (g row : List Int) : List (List Int) := if g ∉ kn ∧ ((bhP row g).getD 0 0 = (bhP row g).getD 1 0 ∨ bhP row g ∈ kn) then kn ++ [g] else kn
def movA (ms : List Mv) (g : List Int) (kn : List (List Int)) : Nat → List (List Int)
  | 0 => kn
  | k + 1 => addA (movA ms g kn k) g (rowM ms k)
def turnA (ms : List Mv) (ps kn : List (List Int)) : Nat → List (List Int)
  | 0 => kn
  | k + 1 => movA ms (ps.getD k []) (turnA ms ps kn k) ms.length
def knownA (ms : List Mv) (ps : List (List Int)) : Nat → List (List Int)
  | 0 => []
  | t + 1 => turnA ms ps (knownA ms ps t) ps.length
/-- what a list becomes by adding at its end -/
def Ext {α : Type} (a b : List α) : Prop := ∃ t, b = a ++ t
theorem Ext.refl {α : Type} (a : List α) : Ext a a := ⟨[], (List.append_nil a).symm⟩
theorem Ext.trans {α : Type} {a b c : List α} (h : Ext a b) (k : Ext b c) : Ext a c := by
  obtain ⟨t, rfl⟩ := h
  obtain ⟨u, rfl⟩ := k
  exact ⟨t ++ u, List.append_assoc _ _ _⟩
theorem Ext.len {α : Type} {a b : List α} (h : Ext a b) : a.length ≤ b.length := by
  obtain ⟨t, rfl⟩ := h
  rw [List.length_append]
  omega
theorem Ext.eq {α : Type} {a b : List α} (h : Ext a b) (l : b.length ≤ a.length) : b = a := by
  obtain ⟨t, rfl⟩ := h
  rw [List.length_append] at l
  have : t = [] := List.eq_nil_of_length_eq_zero (by omega)
  rw [this, List.append_nil]
theorem Ext.mem {α : Type} {a b : List α} (h : Ext a b) {x : α} (m : x ∈ a) : x ∈ b := by
  obtain ⟨t, rfl⟩ := h
  exact List.mem_append.mpr (.inl m)
theorem addA_ext (kn : List (List Int)) (g row : List Int) : Ext kn (addA kn g row) := by
  unfold addA
  split
  · exact ⟨_, rfl⟩
  · exact Ext.refl _
theorem movA_ext (ms : List Mv) (g : List Int) (kn : List (List Int)) : ∀ k, Ext kn (movA ms g kn k)
  | 0 => Ext.refl _
  | k + 1 => (movA_ext ms g kn k).trans (addA_ext _ _ _)
theorem turnA_ext (ms : List Mv) (ps kn : List (List Int)) : ∀ k, Ext kn (turnA ms ps kn k)
  | 0 => Ext.refl _
  | k + 1 => (turnA_ext ms ps kn k).trans (movA_ext _ _ _ _)
theorem knownA_ext (ms : List Mv) (ps : List (List Int)) (t : Nat) : Ext (knownA ms ps t) (knownA ms ps (t + 1)) := turnA_ext _ _ _ _
/-- a property that each addition keeps -/
theorem addA_all {F : List (List Int) → Prop} {kn : List (List Int)} {g row : List Int} (h : F kn) (n : g ∉ kn → ((bhP row g).getD 0 0 = (bhP row g).getD 1 0 ∨ bhP row g ∈ kn) → F (kn ++ [g])) : F (addA kn g row) := by
  unfold addA
  split
  · rename_i c
    exact n c.1 c.2
  · exact h
theorem movA_all {F : List (List Int) → Prop} {ms : List Mv} {g : List Int} {kn : List (List Int)} (h : F kn) (n : ∀ kn k, k < ms.length → F kn → g ∉ kn → ((bhP (rowM ms k) g).getD 0 0 = (bhP (rowM ms k) g).getD 1 0 ∨ bhP (rowM ms k) g ∈ kn) → F (kn ++ [g])) : ∀ k, k ≤ ms.length → F (movA ms g kn k)
  | 0, _ => h
  | k + 1, hk => addA_all (movA_all h n k (by omega)) (n _ k (by omega) (movA_all h n k (by omega)))
theorem turnA_all {F : List (List Int) → Prop} {ms : List Mv} {ps kn : List (List Int)} (h : F kn) (n : ∀ kn g k, g ∈ ps → k < ms.length → F kn → g ∉ kn → ((bhP (rowM ms k) g).getD 0 0 = (bhP (rowM ms k) g).getD 1 0 ∨ bhP (rowM ms k) g ∈ kn) → F (kn ++ [g])) : ∀ k, k ≤ ps.length → F (turnA ms ps kn k)
  | 0, _ => h
  | k + 1, hk => by
    refine movA_all (turnA_all h n k (by omega)) (fun kn j hj => n kn _ j ?_ hj) _ (Nat.le_refl _)
    rw [List.getD_eq_getElem?_getD, List.getElem?_eq_getElem (by omega)]
    exact List.getElem_mem (by omega)
theorem knownA_all {F : List (List Int) → Prop} {ms : List Mv} {ps : List (List Int)} (h : F []) (n : ∀ kn g k, g ∈ ps → k < ms.length → F kn → g ∉ kn → ((bhP (rowM ms k) g).getD 0 0 = (bhP (rowM ms k) g).getD 1 0 ∨ bhP (rowM ms k) g ∈ kn) → F (kn ++ [g])) : ∀ t, F (knownA ms ps t)
  | 0 => h
  | t + 1 => turnA_all (knownA_all h n t) n _ (Nat.le_refl _)
theorem knownA_sub (ms : List Mv) (ps : List (List Int)) (t : Nat) : (knownA ms ps t).Nodup ∧ ∀ g ∈ knownA ms ps t, g ∈ ps :=
  knownA_all (F := fun kn => kn.Nodup ∧ ∀ g ∈ kn, g ∈ ps) ⟨List.nodup_nil, fun _ h => nomatch h⟩ (fun kn g k hg hk h no c => ⟨List.nodup_append.mpr ⟨h.1, by simp, fun a ha b hb => by
    rw [List.mem_singleton.mp hb]
    intro e
    exact no (e ▸ ha)⟩, fun x hx => (List.mem_append.mp hx).elim (h.2 x) fun e => by rw [List.mem_singleton.mp e]; exact hg⟩) t
theorem knownA_len (ms : List Mv) (ps : List (List Int)) (t : Nat) : (knownA ms ps t).length ≤ ps.length := pigeon (knownA_sub ms ps t).1 (knownA_sub ms ps t).2
/-- behind so many turns as there are pairs nothing more is added -/
theorem knownA_still (ms : List Mv) (ps : List (List Int)) : ∀ t, t + 1 ≤ (knownA ms ps (t + 1)).length ∨ knownA ms ps (t + 1) = knownA ms ps t
  | 0 => by
    by_cases c : (knownA ms ps 1).length ≤ (knownA ms ps 0).length
    · exact .inr ((knownA_ext ms ps 0).eq c)
    · have : (knownA ms ps 0).length = 0 := rfl
      exact .inl (by show 1 ≤ (knownA ms ps 1).length; omega)
  | t + 1 => by
    by_cases c : (knownA ms ps (t + 2)).length ≤ (knownA ms ps (t + 1)).length
    · exact .inr ((knownA_ext ms ps (t + 1)).eq c)
    · rcases knownA_still ms ps t with h | h
      · exact .inl (by show t + 2 ≤ (knownA ms ps (t + 2)).length; omega)
      · refine .inr ?_
        show turnA ms ps (knownA ms ps (t + 1)) ps.length = _
        rw [h]
        exact h
theorem knownA_end (ms : List Mv) (ps : List (List Int)) : knownA ms ps (ps.length + 1) = knownA ms ps ps.length := by
  rcases knownA_still ms ps ps.length with h | h
  · have := knownA_len ms ps (ps.length + 1)
    omega
  · exact h
/-- what a turn that adds nothing has seen -/
theorem still_add {kn : List (List Int)} {g row : List Int} (h : addA kn g row = kn) (c : (bhP row g).getD 0 0 = (bhP row g).getD 1 0 ∨ bhP row g ∈ kn) : g ∈ kn := by
  unfold addA at h
  refine Classical.byContradiction fun no => ?_
  rw [if_pos ⟨no, c⟩] at h
  have := congrArg List.length h
  rw [List.length_append] at this
  have e : [g].length = 1 := rfl
  omega
theorem still_mov {ms : List Mv} {g : List Int} {kn : List (List Int)} (h : movA ms g kn ms.length = kn) {k : Nat} (hk : k < ms.length) (c : (bhP (rowM ms k) g).getD 0 0 = (bhP (rowM ms k) g).getD 1 0 ∨ bhP (rowM ms k) g ∈ kn) : g ∈ kn := by
  have up : ∀ j, Ext (movA ms g kn j) (movA ms g kn ms.length) ∨ ms.length < j := by
    intro j
    by_cases cj : ms.length < j
    · exact .inr cj
    · refine .inl ?_
      have : ∀ e, Ext (movA ms g kn j) (movA ms g kn (j + e)) := fun e => by
        induction e with
        | zero => exact Ext.refl _
        | succ e ih => exact ih.trans (addA_ext _ _ _)
      have := this (ms.length - j)
      rw [show j + (ms.length - j) = ms.length by omega] at this
      exact this
  have eq : ∀ j, j ≤ ms.length → movA ms g kn j = kn := fun j hj => by
    rcases up j with u | u
    · refine (movA_ext ms g kn j).eq ?_
      have := u.len
      rw [h] at this
      exact this
    · omega
  have e1 := eq (k + 1) (by omega)
  have e0 := eq k (by omega)
  have : addA (movA ms g kn k) g (rowM ms k) = kn := e1
  rw [e0] at this
  exact still_add this c
theorem still_turn {ms : List Mv} {ps kn : List (List Int)} (h : turnA ms ps kn ps.length = kn) {g : List Int} (hg : g ∈ ps) {k : Nat} (hk : k < ms.length) (c : (bhP (rowM ms k) g).getD 0 0 = (bhP (rowM ms k) g).getD 1 0 ∨ bhP (rowM ms k) g ∈ kn) : g ∈ kn := by
  have up : ∀ j, j ≤ ps.length → Ext (turnA ms ps kn j) (turnA ms ps kn ps.length) := by
    intro j cj
    have : ∀ e, Ext (turnA ms ps kn j) (turnA ms ps kn (j + e)) := fun e => by
      induction e with
      | zero => exact Ext.refl _
      | succ e ih => exact ih.trans (movA_ext _ _ _ _)
    have := this (ps.length - j)
    rw [show j + (ps.length - j) = ps.length by omega] at this
    exact this
  have eq : ∀ j, j ≤ ps.length → turnA ms ps kn j = kn := fun j hj => by
    refine (turnA_ext ms ps kn j).eq ?_
    have := (up j hj).len
    rw [h] at this
    exact this
  obtain ⟨j, hj, e⟩ := List.getElem_of_mem hg
  have e1 := eq (j + 1) (by omega)
  have e0 := eq j (by omega)
  have : movA ms (ps.getD j []) (turnA ms ps kn j) ms.length = kn := e1
  rw [e0, List.getD_eq_getElem?_getD, List.getElem?_eq_getElem hj, e] at this
  exact still_mov this hk c
/-- a move and a pair -/
theorem ledG_pair {many : Nat} {row : List Int} (gr : GoodRow many row) {x y : Int} (x0 : 0 ≤ x) (xy : x < y) (ym : y < (many : Int)) :
    (goK row x = goK row y → ledG many row [x, y] = [goK row x]) ∧ (goK row x ≠ goK row y → ledG many row [x, y] = bhP row [x, y]) := by
  have gx := goK_in' gr x0 (by omega)
  have gy := goK_in' gr (by omega : 0 ≤ y) ym
  have gp := pair_good x0 xy ym
  refine ⟨fun e => rise_same (ledG_good _ _ _).1 (List.pairwise_singleton _ _) fun k => ?_, fun n => rise_same (ledG_good _ _ _).1 ?_ fun k => ?_⟩
  · rw [mem_ledG gr gp.2]
    simp [← e, eq_comm]
  · unfold bhP
    show (if goK row x ≤ goK row y then [goK row x, goK row y] else [goK row y, goK row x]).Pairwise (· < ·)
    split
    · exact List.pairwise_cons.mpr ⟨fun z hz => by rw [List.mem_singleton.mp hz]; omega, List.pairwise_singleton _ _⟩
    · exact List.pairwise_cons.mpr ⟨fun z hz => by rw [List.mem_singleton.mp hz]; omega, List.pairwise_singleton _ _⟩
  · rw [mem_ledG gr gp.2]
    unfold bhP
    show _ ↔ k ∈ (if goK row x ≤ goK row y then [goK row x, goK row y] else [goK row y, goK row x])
    split
    · simp [eq_comm]
    · simp [eq_comm, or_comm]
theorem bhP_eq {row : List Int} {x y : Int} : ((bhP row [x, y]).getD 0 0 = (bhP row [x, y]).getD 1 0) ↔ goK row x = goK row y := by
  unfold bhP
  show ((if goK row x ≤ goK row y then [goK row x, goK row y] else [goK row y, goK row x]).getD 0 0 = (if goK row x ≤ goK row y then [goK row x, goK row y] else [goK row y, goK row x]).getD 1 0) ↔ _
  split
  · exact Iff.rfl
  · exact eq_comm
theorem known_sound {many : Nat} {ms : List Mv} (G : GoodAll many ms) (t : Nat) : ∀ g ∈ knownA ms (pairsL many) t, Meets many ms g :=
  knownA_all (F := fun kn => ∀ g ∈ kn, Meets many ms g) (fun _ h => nomatch h) (fun kn g k hg hk h no c z hz => by
    rcases List.mem_append.mp hz with hz | hz
    · exact h z hz
    · rw [List.mem_singleton.mp hz]
      obtain ⟨x, y, x0, xy, ym, rfl⟩ := mem_pairsL.mp hg
      have gr : GoodRow many (rowM ms k) := rowM_good G hk
      obtain ⟨l1, l2⟩ := ledG_pair gr x0 xy ym
      have step : Meets many ms (ledG many (rowM ms k) [x, y]) → Meets many ms [x, y] := fun ⟨r, hv, hl⟩ => ⟨(k : Int) :: r, fun n hn => by
        rcases List.mem_cons.mp hn with e | hn
        · rw [e]; omega
        · exact hv n hn, by rw [runG_cons, Int.toNat_natCast]; exact hl⟩
      by_cases e : goK (rowM ms k) x = goK (rowM ms k) y
      · exact step ⟨[], (fun _ h => nomatch h), by rw [l1 e]; rfl⟩
      · rcases c with c | c
        · exact absurd (bhP_eq.mp c) e
        · exact step (by rw [l2 e]; exact h _ c)) t
theorem known_all {many : Nat} {ms : List Mv} (G : GoodAll many ms) : ∀ (r g : List Int), g ∈ pairsL many → Valid ms r → (runG many ms g r).length = 1 → g ∈ knownA ms (pairsL many) (pairsL many).length
  | [], g, hg, _, hl => by
    obtain ⟨x, y, _, _, _, rfl⟩ := mem_pairsL.mp hg
    exact absurd hl (by show ¬ [x, y].length = 1; simp)
  | n :: r, g, hg, hv, hl => by
    have hn := hv n List.mem_cons_self
    obtain ⟨x, y, x0, xy, ym, rfl⟩ := mem_pairsL.mp hg
    have hk : n.toNat < ms.length := by omega
    have gr : GoodRow many (rowM ms n.toNat) := rowM_good G hk
    obtain ⟨l1, l2⟩ := ledG_pair gr x0 xy ym
    refine still_turn (knownA_end ms (pairsL many)) hg hk ?_
    by_cases e : goK (rowM ms n.toNat) x = goK (rowM ms n.toNat) y
    · exact .inl (bhP_eq.mpr e)
    · refine .inr ?_
      rw [runG_cons, l2 e] at hl
      refine known_all G r _ ?_ (fun z hz => hv z (List.mem_cons_of_mem _ hz)) hl
      have gg : goodG many (bhP (rowM ms n.toNat) [x, y]) := by rw [← l2 e]; exact ledG_good _ _ _
      obtain ⟨u, v, ep⟩ : ∃ u v, bhP (rowM ms n.toNat) [x, y] = [u, v] := by
        unfold bhP
        split
        · exact ⟨_, _, rfl⟩
        · exact ⟨_, _, rfl⟩
      rw [ep] at gg ⊢
      exact mem_pairsL.mpr ⟨u, v, (gg.2 u List.mem_cons_self).1, (List.pairwise_cons.mp gg.1).1 v List.mem_cons_self, (gg.2 v (List.mem_cons_of_mem _ List.mem_cons_self)).2, rfl⟩
/-- the pairs that never meet -/
theorem known_meets {many : Nat} {ms : List Mv} (G : GoodAll many ms) {g : List Int} (hg : g ∈ pairsL many) : g ∈ knownA ms (pairsL many) ((pairsL many).length + 1) ↔ Meets many ms g := by
  refine ⟨known_sound G _ g, fun ⟨r, hv, hl⟩ => ?_⟩
  rw [knownA_end]
  exact known_all G r g hg hv hl
section
variable {P : Program} {w : World} {K : PySem.W.Frag} {mg : Str → Option Value} {base : Heap} {C : Addr}
/-! ### _law_apart -/
theorem scAp : FnScope ["_law_told", "_law_pairs", "_law_one", "_law_known", "_law_turn", "_law_pair", "_law_move", "_law_behind_here", "_law_other"] ["_law_told"] (defScope sLawApart) := ⟨rfl, rfl, rfl, by decide +kernel, rfl, by decide +kernel, by decide +kernel⟩
/-- the pairs whose first is below i -/
def pairsTo (many i : Nat) : List (List Int) := ((List.range i).flatMap fun i => (List.range' (i + 1) (many - (i + 1))).map fun j => [i, j]).map fun g => g.map fun (i : Nat) => (i : Int)
def pairsAt (many i : Nat) : List (List Int) := (List.range (many - (i + 1))).map fun (e : Nat) => [(i : Int), (i : Int) + 1 + (e : Int)]
theorem pairsTo_zero (many : Nat) : pairsTo many 0 = [] := rfl
theorem pairsTo_succ (many i : Nat) : pairsTo many (i + 1) = pairsTo many i ++ pairsAt many i := by
  unfold pairsTo pairsAt
  rw [List.range_succ, List.flatMap_append, List.map_append]
  congr 1
  rw [List.flatMap_singleton, List.map_map, List.range'_eq_map_range, List.map_map]
  refine List.map_congr_left fun e _ => ?_
  show [((i : Nat) : Int), ((i + 1 + e : Nat) : Int)] = _
  rw [show ((i + 1 + e : Nat) : Int) = (i : Int) + 1 + (e : Int) by omega]
theorem pairsTo_len {many : Nat} (m6 : many ≤ 6) : ∀ i, (pairsTo many i).length ≤ 6 * i
  | 0 => Nat.zero_le _
  | i + 1 => by
    have ih := pairsTo_len m6 i
    rw [pairsTo_succ, List.length_append]
    unfold pairsAt
    rw [List.length_map, List.length_range]
    omega
theorem pairsTo_all (many : Nat) : pairsTo many many = pairsL many := rfl
theorem paired_getL {α β : Type} {F : α → β → Prop} : ∀ {l₁ : List α} {l₂ : List β} {i : Nat} {a : α}, Paired F l₁ l₂ → l₁[i]? = some a → ∃ b, l₂[i]? = some b ∧ F a b
  | _, _, _, _, .nil, e => by simp at e
  | _, _, 0, _, .cons h _, e => by
    cases e
    exact ⟨_, rfl, h⟩
  | _, _, i + 1, _, .cons _ r, e => paired_getL (i := i) r e
theorem movA_len (ms : List Mv) (ps : List (List Int)) (i : Nat) {j k : Nat} {g : List Int} (hj : j ≤ ps.length) (hg : g ∈ ps) (hk : k ≤ ms.length) : (movA ms g (turnA ms ps (knownA ms ps i) j) k).length ≤ ps.length := by
  have step : ∀ (kn : List (List Int)) (g : List Int), g ∈ ps → (kn.Nodup ∧ ∀ x ∈ kn, x ∈ ps) → g ∉ kn → ((kn ++ [g]).Nodup ∧ ∀ x ∈ kn ++ [g], x ∈ ps) := fun kn g hg h no => ⟨List.nodup_append.mpr ⟨h.1, by simp, fun a ha b hb => by
    rw [List.mem_singleton.mp hb]
    intro e
    exact no (e ▸ ha)⟩, fun x hx => (List.mem_append.mp hx).elim (h.2 x) fun e => by rw [List.mem_singleton.mp e]; exact hg⟩
  have h := movA_all (F := fun kn => kn.Nodup ∧ ∀ x ∈ kn, x ∈ ps) (ms := ms) (g := g) (turnA_all (F := fun kn => kn.Nodup ∧ ∀ x ∈ kn, x ∈ ps) (ms := ms) (ps := ps) (knownA_sub ms ps i) (fun kn g k hg _ h no _ => step kn g hg h no) j hj) (fun kn _ _ h no _ => step kn g hg h no) k hk
  exact pigeon h.1 h.2
theorem two_sort {row : List Int} {x y : Int} {ns : List Int} (hp : ns.Perm [goK row x, goK row y]) (hs : ns.Pairwise (· ≤ ·)) : ns = bhP row [x, y] := by
  unfold bhP
  show ns = (if goK row x ≤ goK row y then [goK row x, goK row y] else [goK row y, goK row x])
  split
  · rename_i c
    exact List.Perm.eq_of_pairwise (fun a b _ _ => Int.le_antisymm) hs (List.pairwise_cons.mpr ⟨fun z hz => by rw [List.mem_singleton.mp hz]; exact c, List.pairwise_singleton _ _⟩) hp
  · exact List.Perm.eq_of_pairwise (fun a b _ _ => Int.le_antisymm) hs (List.pairwise_cons.mpr ⟨fun z hz => by rw [List.mem_singleton.mp hz]; omega, List.pairwise_singleton _ _⟩) (hp.trans (List.Perm.swap _ _ _))
theorem eqv_tupI (xs ys : List Int) : PyData.eqv (.tuple (xs.map PyData.int)) (.tuple (ys.map PyData.int)) = decide (xs = ys) := by
  simp only [PyData.eqv]
  exact PySem.W.ked_eqvAll xs ys
theorem any_tups (g : List Int) : ∀ xss : List (List Int), ((xss.map fun xs => PyData.tuple (xs.map PyData.int)).any fun z => PyData.eqv z (.tuple (g.map PyData.int))) = decide (g ∈ xss)
  | [] => by rw [decide_eq_false (by simp)]; rfl
  | x :: xss => by
    rw [List.map_cons, List.any_cons, eqv_tupI, any_tups g xss]
    by_cases c : x = g
    · subst c
      rw [decide_eq_true rfl, decide_eq_true List.mem_cons_self]
      rfl
    · rw [decide_eq_false c, Bool.false_or]
      refine decide_eq_decide.mpr ⟨fun h => List.mem_cons_of_mem _ h, fun h => ?_⟩
      rcases List.mem_cons.mp h with e | h
      · exact absurd e.symm c
      · exact h
/-- a tuple of ints -/
abbrev TupG (H : Hp) : V → List Int → Prop := fun v g => ∃ t, v = V.ref t ∧ H t = some (.tup (g.map V.int))
theorem dp_tups {K : PySem.W.Frag} {H : Hp} : ∀ {vs : List V} {gs : List (List Int)}, Paired (TupG H) vs gs → DpAll K H vs (gs.map fun g => .tuple (g.map PyData.int))
  | _, _, .nil => .nil
  | _, _, .cons ⟨t, e, ht⟩ r => .cons (by rw [e]; exact dp_tup ht) (dp_tups r)
theorem Sh.tups (xss : List (List Int)) : Sh 2 (.list (xss.map fun xs => .tuple (xs.map PyData.int))) := Sh.list fun d hd => by
  obtain ⟨xs, _, rfl⟩ := List.mem_map.mp hd
  exact Sh.tuple (Sh.ints xs)
theorem TupG.all {H H' : Hp} (s : ∀ b xs, H b = some (.tup xs) → H' b = some (.tup xs)) {vs : List V} {gs : List (List Int)} (h : Paired (TupG H) vs gs) : Paired (TupG H') vs gs := L2.Paired.mapP h fun _ _ ⟨t, e, ht⟩ => ⟨t, e, s _ _ ht⟩
/-- the pairs that never meet, rising -/
def apartL (many : Nat) (ms : List Mv) : List (List Int) := (pairsL many).filter fun g => !decide (g ∈ knownA ms (pairsL many) ((pairsL many).length + 1))
def spAp : Sp := fun vs H Q _ => ∃ (t m : Addr) (many : Nat) (ws : List V) (ms : List Mv), vs = [.ref t] ∧ ToldAt H t m many ws ms ∧ Good many ms ∧ ∀ a H', Same H H' → TupsAt H' a (apartL many ms) → Q (.ref a) H'
theorem ok_ap {k : Nat} {f : Addr} {fd : FuncData} (F : Fun K "_law_apart" "_law_apart" sLawApart f fd) (mr : mg "range" = none) (ml : mg "len" = none) (mt : mg "tuple" = none) (ms' : mg "sorted" = none) : FnOk P w K mg base CX0 (k + 1) f fd ["_law_told"] spAp := by
  refine F.ok scAp (fun vs H Q E h => ?_) (fun cdv A outer s H vs Q E hr h => ?_)
  · obtain ⟨t, m, many, ws, ms, rfl, _⟩ := h
    rfl
  · obtain ⟨t, m, many, ws, ms, rfl, hT, G, q⟩ := h
    have hu := hu64 hr
    have hu5 : (A.deeper (envOfC "_law_apart" (defScope sLawApart) s.heap.objs.size f cdv)).units + 65 < cLine := by
      have := hr.un
      omega
    refine ⟨_, (pss_cons (ps_set (i := 1) scAp.nd rfl (.inl rfl) (pe_lst pa_nil))
      (pss_cons (ps_for PassesOwn.never rfl (pi_range1 (by rfl) mr (pa_cons (pe_ix ix_tup (pv 0) pe_int (fun _ _ => rfl)) pa_nil)) (pg_name (i := 2) scAp.nd rfl (.inr rfl)) (pss_one (ps_set (i := 1) scAp.nd rfl (.inl rfl) (pe_op op_cat (pv 1) (pe_lc (own := [("_law_other", 8)]) (g := gName 8) (tt := tYes) (te := (tTup (tCons (tVar 2) (tCons (tVar 8) tNil)))) rfl scAp.nd (pi_range2 (by rfl) mr (pa_cons (pe_op op_add (pv 2) pe_int) (pa_cons (pe_ix ix_tup (pv 0) pe_int (fun _ _ => rfl)) pa_nil))) (blkOk_by (N := ["_law_told", "_law_pairs", "_law_one", "_law_known", "_law_turn", "_law_pair", "_law_move", "_law_behind_here", "_law_other"]) (sc := defScope sLawApart) (by decide +kernel)) (fun _ _ _ _ _ => by exact (pg_name (i := 8) scAp.nd rfl (.inl rfl))) (fun _ _ _ _ _ => pts_nil) (fun _ _ _ _ _ => by exact (pe_tup (pa_cons (pv 2) (pa_cons (pv 8) pa_nil)))))))))
      (pss_cons (ps_set (i := 3) scAp.nd rfl (.inr rfl) (pe_lst pa_nil))
      (pss_cons (ps_for PassesOwn.never rfl (pi_range1 (by rfl) mr (pa_cons (pe_op op_add (pe_callB call_len_seq (by rfl) ml PySem.boot_len (pa_cons (pv 1) pa_nil)) pe_int) pa_nil)) (pg_name (i := 4) scAp.nd rfl (.inl rfl)) (pss_one (ps_for PassesOwn.never rfl (pi_list (pv 1)) (pg_name (i := 5) scAp.nd rfl (.inl rfl)) (pss_one (ps_for PassesOwn.never rfl (pi_list (pe_ix ix_tup (pv 0) pe_int (fun _ _ => rfl))) (pg_name (i := 6) scAp.nd rfl (.inl rfl)) (pss_cons (ps_set (i := 7) scAp.nd rfl (.inl rfl) (pe_callTy call_tuple_of (by rfl) mt (by decide +kernel) (pa_cons (pe_callB cr_sorted (by rfl) ms' (by decide +kernel) (pa_cons (pe_lst (pa_cons (pe_ix ix_tup (pe_ix ix_tup (pv 6) pe_int (fun _ _ => rfl)) (pe_ix ix_tup (pv 5) pe_int (fun _ _ => rfl)) (fun _ _ => rfl)) (pa_cons (pe_ix ix_tup (pe_ix ix_tup (pv 6) pe_int (fun _ _ => rfl)) (pe_ix ix_tup (pv 5) pe_int (fun _ _ => rfl)) (fun _ _ => rfl)) pa_nil))) pa_nil)) pa_nil)))
      (pss_one (ps_if (PW.pt (pw_and (pt_cmpR (op_notInD hu5) (pv 5) (pv 3) (by with_unfolding_all rfl)) (pw_and1 (PW.pt (pw_or (pt_cmpR op_eq (pe_ix ix_tup (pv 7) pe_int (fun _ _ => rfl)) (pe_ix ix_tup (pv 7) pe_int (fun _ _ => rfl)) (nomark _)) (pw_or1 (pt_cmpR (op_inD hu5) (pv 7) (pv 3) (by with_unfolding_all rfl)))))))) (pss_one (ps_expr (pe_bm PySem.F.plainAttrs_list PySem.F.slot_list_append PySem.F.type_list_append mt_append (pv 3) (pa_cons (pv 5) pa_nil)))) pss_nil))))))))
      (pss_one (ps_ret (pe_lc (own := [("_law_pair", 5)]) (g := gName 5) (tt := (tTest (tOp (rNotInD K) (tVar 5) (tVar 3)))) (te := (tVar 5)) rfl scAp.nd (pi_list (pv 1)) (blkOk_by (N := ["_law_told", "_law_pairs", "_law_one", "_law_known", "_law_turn", "_law_pair", "_law_move", "_law_behind_here", "_law_other"]) (sc := defScope sLawApart) (by decide +kernel)) (fun _ _ _ _ _ => by exact (pg_name (i := 5) scAp.nd rfl (.inl rfl))) (fun _ _ _ _ _ => by exact (pts_one (pt_cmpR (op_notInD hu5) (pv 5) (pv 3) (by with_unfolding_all rfl)))) (fun _ _ _ _ _ => by exact (pv 5))))))))), ?_⟩
    have m6 := G.m6
    have m1 := G.m1
    have l8 := G.l8
    refine ⟨Nat.zero_le _, fun p0 np0 => ?_⟩
    have s0 := same_new (o := .lst []) np0
    have hp0 : (upd H p0 (.lst [])) p0 = some (.lst []) := upd_same
    generalize upd H p0 (.lst []) = H0 at s0 hp0 ⊢
    have hT0 := hT.same s0
    refine ⟨.ref t, rfl, t, _, 0, _, rfl, rfl, SqT.of hT0.1, atI_nat (j := 0) rfl, _, rfl, by omega, by omega, ?_⟩
    refine for_range (lo := 0) (n := ((many : Nat) : Int).toNat) (fun i σ H' => ∃ p y2 vs, σ = [some (.ref t), some (.ref p), y2, none, none, none, none, none, none] ∧ Same H0 H' ∧ H' p = some (.lst vs) ∧ Paired (TupG H') vs (pairsTo many i))
      ⟨p0, none, [], rfl, Same.refl _, hp0, .nil⟩ ?_ ?_
    · rintro i σ H1 hi ⟨p, y2, vs, rfl, s1, hp, pv⟩
      rw [Int.toNat_natCast] at hi
      have hT1 := hT0.same s1
      refine ⟨.ref p, rfl, .int (0 + (i : Int)), rfl, (0 + (i : Int)), 1, rfl, rfl, .ref t, rfl, t, _, 0, _, rfl, rfl, SqT.of hT1.1, atI_nat (j := 0) rfl, _, _, rfl, ⟨by omega, by omega, by omega, by omega⟩, fun D nD => ?_⟩
      refine lc_range (lo := 0 + (i : Int) + 1) (n := ((many : Int) - (0 + (i : Int) + 1)).toNat) (fun e H' => Same H1 H' ∧ ∃ ds, H' D = some (.lst ds) ∧ Paired (TupG H') ds ((pairsAt many i).take e)) ⟨same_new nD, [], upd_same, by rw [List.take_zero]; exact .nil⟩ ?_ ?_
      · rintro e H2 he ⟨s2, ds, hD, pd⟩
        refine ⟨rfl, .int (0 + (i : Int)), rfl, .int (0 + (i : Int) + 1 + (e : Int)), rfl, (by show 2 ≤ sizeLine; decide), fun g ng => ?_⟩
        have s3 := same_new (o := .tup [.int (0 + (i : Int)), .int (0 + (i : Int) + 1 + (e : Int))]) ng
        have ld : ds.length ≤ 8 := by
          have := pd.length
          rw [List.length_take] at this
          have l2 : (pairsAt many i).length ≤ 6 := by
            unfold pairsAt
            rw [List.length_map, List.length_range]
            omega
          omega
        have ee : (pairsAt many i)[e]? = some [0 + (i : Int), 0 + (i : Int) + 1 + (e : Int)] := by
          unfold pairsAt
          rw [List.getElem?_map, List.getElem?_range (by omega)]
          show some [(i : Int), (i : Int) + 1 + (e : Int)] = _
          rw [show (0 + (i : Int)) = (i : Int) by omega]
        have tk : ∀ b xs, (upd H2 g (.tup [.int (0 + (i : Int)), .int (0 + (i : Int) + 1 + (e : Int))])) b = some (.tup xs) → (upd (upd H2 g (.tup [.int (0 + (i : Int)), .int (0 + (i : Int) + 1 + (e : Int))])) D (.lst (ds ++ [.ref g]))) b = some (.tup xs) := fun b xs e1 => by
          rw [upd_ne (fun z => by rw [z, s3 _ _ hD] at e1; cases e1)]
          exact e1
        refine ⟨ds, s3 _ _ hD, small8 ld, fun b u e1 => by rw [upd_ne (ne_of_none e1 nD)]; exact s3 _ _ (s2 _ _ e1), ds ++ [.ref g], upd_same, ?_⟩
        rw [take_snoc ee]
        exact paired_end (F := TupG _) ⟨g, rfl, tk _ _ upd_same⟩ (TupG.all (fun b xs e1 => tk b xs (s3 _ _ e1)) pd)
      · rintro H2 ⟨s2, ds, hD, pd⟩
        rw [List.take_of_length_le (by unfold pairsAt; rw [List.length_map, List.length_range]; omega)] at pd
        have pv2 := TupG.all (Same.tups s2) pv
        have lp := pairsTo_len m6 i
        have la : (pairsAt many i).length ≤ 6 := by
          unfold pairsAt
          rw [List.length_map, List.length_range]
          omega
        refine ⟨p, D, _, _, rfl, rfl, s2 _ _ hp, hD, le1k (by have := pd.length; have := pv2.length; omega), fun p2 np2 => ⟨p2, _, vs ++ ds, rfl, (s1.trans s2).trans (same_new np2), upd_same, ?_⟩⟩
        rw [pairsTo_succ]
        exact TupG.all (Same.tups (same_new np2)) (paired_app pv2 pd)
    rintro σ H1 ⟨p, y2, vs, rfl, s1, hp, pv⟩
    rw [Int.toNat_natCast, pairsTo_all] at pv
    have lpv := pv.length
    have l15 : (pairsL many).length ≤ 15 := by
      have := combOk_len (Cm.combOk_small many m6)
      unfold pairsL
      rw [List.length_map, ← combs_eq many m6]
      omega
    have hT1 := hT0.same s1
    refine ⟨Nat.zero_le _, fun kq nkq => ?_⟩
    have s2 := same_new (o := .lst []) nkq
    have hq2 : (upd H1 kq (.lst [])) kq = some (.lst []) := upd_same
    have hp2 := s2 _ _ hp
    have hT2 := hT1.same s2
    have pv2 := TupG.all (Same.tups s2) pv
    have npq : p ≠ kq := ne_of_none hp nkq
    have s02 := (s0.trans s1).trans s2
    have off0 : ∀ {b o}, H b = some o → b ≠ kq := fun {b o} e => ne_of_none ((s0.trans s1) _ _ e) nkq
    have ntq : t ≠ kq := ne_of_none hT1.1 nkq
    have nmq : m ≠ kq := ne_of_none hT1.2.1 nkq
    generalize upd H1 kq (.lst []) = H2 at s2 hq2 hp2 hT2 pv2 s02 ⊢
    refine ⟨.ref p, rfl, p, _, rfl, .inl (SqL.of hp2), _, _, rfl, rfl, _, rfl, by omega, by omega, ?_⟩
    -- all that stays but the list of the known
    let Off : Hp → Prop := fun H' => ∀ b o, b ≠ kq → H2 b = some o → H' b = some o
    refine for_range (lo := 0) (n := (((vs.length : Nat) : Int) + 1).toNat) (fun i σ H' => ∃ y4 y5 y6 y7, σ = [some (.ref t), some (.ref p), y2, some (.ref kq), y4, y5, y6, y7, none] ∧ Off H' ∧ ∃ ks, H' kq = some (.lst ks) ∧ Paired (TupG H') ks (knownA ms (pairsL many) i))
      ⟨none, none, none, none, rfl, fun b o _ e => e, [], hq2, .nil⟩ ?_ ?_
    · rintro i σ H3 hi ⟨y4, y5, y6, y7, rfl, off3, ks3, hk3, pk3⟩
      refine ⟨.ref p, rfl, p, rfl, ⟨_, SqL.of (off3 _ _ npq hp2)⟩, ?_⟩
      refine for_list (K := K) (a := p) (xs := vs) (fun j σ H' => ∃ y5 y6 y7, σ = [some (.ref t), some (.ref p), y2, some (.ref kq), some (.int (0 + (i : Int))), y5, y6, y7, none] ∧ Off H' ∧ ∃ ks, H' kq = some (.lst ks) ∧ Paired (TupG H') ks (turnA ms (pairsL many) (knownA ms (pairsL many) i) j))
        ⟨y5, y6, y7, rfl, off3, ks3, hk3, pk3⟩ (fun j σ H' _ ⟨_, _, _, _, off, _⟩ => SqL.of (off _ _ npq hp2)) ?_ ?_
      · rintro j v σ H4 hv ⟨y5, y6, y7, rfl, off4, ks4, hk4, pk4⟩
        obtain ⟨g, eg, tg, rfl, htg⟩ := paired_getL pv2 hv
        obtain ⟨gx, gy, x0, xy, ym, rfl⟩ := mem_pairsL.mp (List.mem_of_getElem? eg)
        have eg2 : (pairsL many).getD j [] = [gx, gy] := by
          rw [List.getD_eq_getElem?_getD, eg]
          rfl
        have offT : ∀ {H'}, Off H' → ∀ b xs, H2 b = some (.tup xs) → H' b = some (.tup xs) := fun {H'} o b xs e => o b _ (fun z => by rw [z, hq2] at e; cases e) e
        have hT4 : ToldAt H4 t m many ws ms := ⟨offT off4 _ _ hT2.1, off4 _ _ nmq hT2.2.1, hT2.2.2.same (offT off4)⟩
        refine ⟨.ref t, rfl, t, _, 1, _, rfl, rfl, SqT.of hT4.1, atI_nat (j := 1) rfl, m, rfl, ⟨_, SqL.of hT4.2.1⟩, ?_⟩
        refine for_list (K := K) (a := m) (xs := ws) (fun k σ H' => ∃ y6 y7, σ = [some (.ref t), some (.ref p), y2, some (.ref kq), some (.int (0 + (i : Int))), some (.ref tg), y6, y7, none] ∧ Off H' ∧ ∃ ks, H' kq = some (.lst ks) ∧ Paired (TupG H') ks (movA ms [gx, gy] (turnA ms (pairsL many) (knownA ms (pairsL many) i) j) k))
          ⟨y6, y7, rfl, off4, ks4, hk4, pk4⟩ (fun k σ H' _ ⟨_, _, _, off, _⟩ => SqL.of (off _ _ nmq hT2.2.1)) ?_ ?_
        · rintro k w1 σ H5 hw ⟨y6, y7, rfl, off5, ks5, hk5, pk5⟩
          have hT5 : ToldAt H5 t m many ws ms := ⟨offT off5 _ _ hT2.1, off5 _ _ nmq hT2.2.1, hT2.2.2.same (offT off5)⟩
          obtain ⟨mv, emv, ta, tb, rfl, hta, htb⟩ := paired_getL hT5.2.2 hw
          have hk8 : k < ms.length := (List.getElem?_eq_some_iff.mp emv).1
          have gm := G.mv mv (List.mem_of_getElem? emv)
          have htg5 := offT off5 _ _ htg
          have erow : rowM ms k = mv.2 := rowM_at emv
          have two : (2 : Nat) ≤ sizeLine := by decide
          refine ⟨.ref ta, rfl, ta, _, 1, _, rfl, rfl, SqT.of hta, atI_nat (j := 1) rfl, .ref tg, rfl, tg, _, 0, _, rfl, rfl, SqT.of htg5, atI_nat (j := 0) rfl, tb, _, gx, _, rfl, rfl, SqT.of htb, at_of (show gx = ((gx.toNat : Nat) : Int) by omega) (at_goK x0 (by rw [gm.2.2.1]; omega)), ?_⟩
          refine ⟨.ref ta, rfl, ta, _, 1, _, rfl, rfl, SqT.of hta, atI_nat (j := 1) rfl, .ref tg, rfl, tg, _, 1, _, rfl, rfl, SqT.of htg5, atI_nat (j := 1) rfl, tb, _, gy, _, rfl, rfl, SqT.of htb, at_of (show gy = ((gy.toNat : Nat) : Int) by omega) (at_goK (by omega) (by rw [gm.2.2.1]; omega)), two, fun L nL => ?_⟩
          have s6 := same_new (o := .lst [V.int (goK mv.2 gx), V.int (goK mv.2 gy)]) nL
          refine ⟨L, [goK mv.2 gx, goK mv.2 gy], rfl, SqL.of upd_same, (by show 2 < 64; decide), fun ns sp hperm hsort nsp => ?_⟩
          have ens : ns = bhP mv.2 [gx, gy] := two_sort hperm hsort
          subst ens
          have s7 := same_new (o := .lst ((bhP mv.2 [gx, gy]).map V.int)) nsp
          refine ⟨sp, _, rfl, .inl ⟨SqL.of upd_same, fun g7 ng7 => ?_⟩⟩
          have s57 := (s6.trans s7).trans (same_new (o := .tup ((bhP mv.2 [gx, gy]).map V.int)) ng7)
          have hg7 : (upd (upd (upd H5 L (.lst [V.int (goK mv.2 gx), V.int (goK mv.2 gy)])) sp (.lst ((bhP mv.2 [gx, gy]).map V.int))) g7 (.tup ((bhP mv.2 [gx, gy]).map V.int))) g7 = some (.tup ((bhP mv.2 [gx, gy]).map V.int)) := upd_same
          generalize upd (upd (upd H5 L (.lst [V.int (goK mv.2 gx), V.int (goK mv.2 gy)])) sp (.lst ((bhP mv.2 [gx, gy]).map V.int))) g7 (.tup ((bhP mv.2 [gx, gy]).map V.int)) = H7 at s57 hg7 ⊢
          have hk7 := s57 _ _ hk5
          have pk7 := TupG.all (Same.tups s57) pk5
          have htg7 := s57 _ _ htg5
          have off7 : Off H7 := fun b o nb e => s57 _ _ (off5 b o nb e)
          have emov : movA ms [gx, gy] (turnA ms (pairsL many) (knownA ms (pairsL many) i) j) (k + 1) = addA (movA ms [gx, gy] (turnA ms (pairsL many) (knownA ms (pairsL many) i) j) k) [gx, gy] mv.2 := by
            show addA _ _ (rowM ms k) = _
            rw [erow]
          have jl : j < (pairsL many).length := (List.getElem?_eq_some_iff.mp eg).1
          have kl := movA_len ms (pairsL many) i (j := j) (k := k) (by omega) (List.mem_of_getElem? eg) (by omega)
          generalize movA ms [gx, gy] (turnA ms (pairsL many) (knownA ms (pairsL many) i) j) k = kn at pk7 emov kl
          have hdk : Dp K H7 (.ref kq) (.list (kn.map fun g => .tuple (g.map PyData.int))) := .lst (SqL.of hk7) (dp_tups pk7)
          obtain ⟨u, v, euv⟩ : ∃ u v, bhP mv.2 [gx, gy] = [u, v] := by
            unfold bhP
            split
            · exact ⟨_, _, rfl⟩
            · exact ⟨_, _, rfl⟩
          have sh1 : ∀ g : List Int, SeqAt.shaped (.tuple (g.map PyData.int)) = true := fun g => (Sh.tuple (n := 0) (Sh.ints g)).shaped (by decide)
          have sh2 := (Sh.tups kn).shaped (by decide)
          refine ⟨.ref tg, rfl, .ref kq, rfl, _, _, dp_tup htg7, hdk, sh1 _, sh2, _, rfl, ?_⟩
          rw [any_tups]
          by_cases c1 : [gx, gy] ∈ kn
          · rw [decide_eq_true c1]
            refine iteF (iteF ⟨_, _, rfl, off7, ks5, hk7, ?_⟩)
            rw [emov]
            unfold addA
            rw [if_neg (fun z => z.1 c1)]
            exact pk7
          rw [decide_eq_false c1]
          have hg7' : H7 g7 = some (.tup [.int u, .int v]) := by rw [hg7, euv]; rfl
          have app : (u = v ∨ [u, v] ∈ kn) → Off (upd H7 kq (.lst (ks5 ++ [.ref tg]))) ∧ Paired (TupG (upd H7 kq (.lst (ks5 ++ [.ref tg])))) (ks5 ++ [.ref tg]) (addA kn [gx, gy] mv.2) := fun c => by
            refine ⟨fun b o nb e => by rw [upd_ne nb]; exact off7 b o nb e, ?_⟩
            have ea : addA kn [gx, gy] mv.2 = kn ++ [[gx, gy]] := by
              unfold addA
              rw [euv, if_pos ⟨c1, c⟩]
            have kt : ∀ b xs, H7 b = some (.tup xs) → (upd H7 kq (.lst (ks5 ++ [.ref tg]))) b = some (.tup xs) := fun b xs e => by
              rw [upd_ne (fun z => by rw [z, hk7] at e; cases e)]
              exact e
            rw [ea]
            exact paired_end (F := TupG _) ⟨tg, rfl, kt _ _ htg7⟩ (TupG.all kt pk7)
          have lks : ks5.length ≤ 15 := by
            have := pk7.length
            omega
          refine iteT ⟨.ref g7, rfl, g7, _, 0, _, rfl, rfl, SqT.of hg7', atI_nat (j := 0) rfl, .ref g7, rfl, g7, _, 1, _, rfl, rfl, SqT.of hg7', atI_nat (j := 1) rfl, rfl, _, rfl, ?_⟩
          by_cases c2 : u = v
          · rw [decide_eq_true (show V.int u = V.int v by rw [c2])]
            obtain ⟨a1, a2⟩ := app (.inl c2)
            exact iteT (iteT ⟨.ref kq, rfl, .inl ⟨rfl, _, SqL.of hk7⟩, .ref tg, rfl, kq, _, _, rfl, rfl, hk7, lt1k (by omega), ⟨_, _, rfl, a1, _, upd_same, by rw [emov]; exact a2⟩⟩)
          · rw [decide_eq_false (show ¬ V.int u = V.int v from fun z => c2 (by injection z))]
            refine iteF ⟨.ref g7, rfl, .ref kq, rfl, _, _, dp_tup hg7, hdk, sh1 _, sh2, _, rfl, ?_⟩
            rw [any_tups]
            by_cases c3 : bhP mv.2 [gx, gy] ∈ kn
            · rw [decide_eq_true c3]
              obtain ⟨a1, a2⟩ := app (.inr (by rw [← euv]; exact c3))
              exact iteT ⟨.ref kq, rfl, .inl ⟨rfl, _, SqL.of hk7⟩, .ref tg, rfl, kq, _, _, rfl, rfl, hk7, lt1k (by omega), ⟨_, _, rfl, a1, _, upd_same, by rw [emov]; exact a2⟩⟩
            · rw [decide_eq_false c3]
              refine iteF ⟨_, _, rfl, off7, ks5, hk7, ?_⟩
              rw [emov]
              unfold addA
              rw [if_neg (fun z => z.2.elim (fun e => c2 (by rw [euv] at e; exact e)) c3)]
              exact pk7
        · rintro σ H5 ⟨y6, y7, rfl, off5, ks5, hk5, pk5⟩
          rw [hT2.2.2.length] at pk5
          refine ⟨_, y6, y7, rfl, off5, ks5, hk5, ?_⟩
          show Paired _ _ (movA ms ((pairsL many).getD j []) (turnA ms (pairsL many) (knownA ms (pairsL many) i) j) ms.length)
          rw [eg2]
          exact pk5
      · rintro σ H4 ⟨y5, y6, y7, rfl, off4, ks4, hk4, pk4⟩
        rw [lpv] at pk4
        exact ⟨_, y5, y6, y7, rfl, off4, ks4, hk4, pk4⟩
    · rintro σ H3 ⟨y4, y5, y6, y7, rfl, off3, ks3, hk3, pk3⟩
      rw [show (((vs.length : Nat) : Int) + 1).toNat = (pairsL many).length + 1 by omega] at pk3
      have offT : ∀ b xs, H2 b = some (.tup xs) → H3 b = some (.tup xs) := fun b xs e => off3 b _ (fun z => by rw [z, hq2] at e; cases e) e
      have pv3 := TupG.all offT pv2
      have sh1 : ∀ g : List Int, SeqAt.shaped (.tuple (g.map PyData.int)) = true := fun g => (Sh.tuple (n := 0) (Sh.ints g)).shaped (by decide)
      unfold apartL at q
      generalize knownA ms (pairsL many) ((pairsL many).length + 1) = kn at pk3 q
      refine ⟨.ref p, rfl, p, rfl, ⟨_, SqL.of (off3 _ _ npq hp2)⟩, fun D nD => ?_⟩
      refine lc_list (K := K) (a := p) (xs := vs) (fun e H' => Same H3 H' ∧ ∃ ds, H' D = some (.lst ds) ∧ Paired (TupG H') ds (((pairsL many).take e).filter fun g => !decide (g ∈ kn)))
        ⟨same_new nD, [], upd_same, by rw [List.take_zero]; exact .nil⟩ (fun e H' _ h => SqL.of (h.1 _ _ (off3 _ _ npq hp2))) ?_ ?_
      · rintro e v H4 hv ⟨s4, ds, hD, pd⟩
        obtain ⟨g, eg, tg, rfl, htg⟩ := paired_getL pv3 hv
        have htg4 := s4 _ _ htg
        have pk4 := TupG.all (Same.tups s4) pk3
        have el : e < (pairsL many).length := (List.getElem?_eq_some_iff.mp eg).1
        have ld : ds.length ≤ 15 := by
          have h1 := pd.length
          have h2 := List.length_filter_le (fun g => !decide (g ∈ kn)) ((pairsL many).take e)
          rw [List.length_take] at h2
          omega
        refine ⟨rfl, .ref tg, rfl, .ref kq, rfl, _, _, dp_tup htg4, .lst (SqL.of (s4 _ _ hk3)) (dp_tups pk4), sh1 _, (Sh.tups kn).shaped (by decide), _, rfl, ?_⟩
        rw [any_tups]
        have et : ((pairsL many).take (e + 1)).filter (fun g => !decide (g ∈ kn)) = ((pairsL many).take e).filter (fun g => !decide (g ∈ kn)) ++ [g].filter (fun g => !decide (g ∈ kn)) := by rw [take_snoc eg, List.filter_append]
        by_cases c : g ∈ kn
        · rw [decide_eq_true c]
          refine iteF ⟨s4, ds, hD, ?_⟩
          have : [g].filter (fun g => !decide (g ∈ kn)) = [] := by
            rw [List.filter_cons, decide_eq_true c]
            rfl
          rw [et, this, List.append_nil]
          exact pd
        · rw [decide_eq_false c]
          have : [g].filter (fun g => !decide (g ∈ kn)) = [g] := by
            rw [List.filter_cons, decide_eq_false c]
            rfl
          have tk : ∀ b xs, H4 b = some (.tup xs) → (upd H4 D (.lst (ds ++ [.ref tg]))) b = some (.tup xs) := fun b xs e1 => by
            rw [upd_ne (fun z => by rw [z, hD] at e1; cases e1)]
            exact e1
          refine iteT ⟨.ref tg, rfl, ds, hD, lt1k (by omega), fun b u e1 => by rw [upd_ne (ne_of_none e1 nD)]; exact s4 _ _ e1, ds ++ [.ref tg], upd_same, ?_⟩
          rw [et, this]
          exact paired_end (F := TupG _) ⟨tg, rfl, tk _ _ htg4⟩ (TupG.all tk pd)
      · rintro H4 ⟨s4, ds, hD, pd⟩
        rw [List.take_of_length_le (by omega)] at pd
        exact q D H4 (fun b o e => s4 _ _ (off3 _ _ (off0 e) (s02 _ _ e))) ⟨ds, hD, pd⟩
end
/-! ### _law_behind: the mathematics -/
theorem pairs_code : ∀ n, n ≤ 6 → (pairsL n).Pairwise (fun q r => TS.code 64 q < TS.code 64 r) := by
  intro n hn
  match n, hn with
  | 0, _ => decide +kernel
  | 1, _ => decide +kernel
  | 2, _ => decide +kernel
  | 3, _ => decide +kernel
  | 4, _ => decide +kernel
  | 5, _ => decide +kernel
  | 6, _ => decide +kernel
theorem code_inj {many : Nat} (m6 : many ≤ 6) {g h : List Int} (hg : g ∈ pairsL many) (hh : h ∈ pairsL many) (e : TS.code 64 g = TS.code 64 h) : g = h := by
  obtain ⟨x, y, a, b, c, rfl⟩ := mem_pairsL.mp hg
  obtain ⟨u, v, a', b', c', rfl⟩ := mem_pairsL.mp hh
  rw [code_pair, code_pair] at e
  have : x = u := by omega
  have : y = v := by omega
  subst_vars
  rfl
/-- pairs that rise are told by which they are -/
theorem pairs_same {many : Nat} (m6 : many ≤ 6) {L : List (List Int)} {f : List Int → Bool} (nd : L.Nodup) (hm : ∀ g, g ∈ L ↔ g ∈ pairsL many ∧ f g = true) (hs : L.Pairwise (fun q r => TS.code 64 q ≤ TS.code 64 r)) : L = (pairsL many).filter f := by
  have st := pairs_code many m6
  have nd2 : ((pairsL many).filter f).Nodup := List.Pairwise.imp (fun {a b} (h : TS.code 64 a < TS.code 64 b) e => by rw [e] at h; omega) (List.Pairwise.filter f st)
  have pm : L.Perm ((pairsL many).filter f) := (List.perm_ext_iff_of_nodup nd nd2).mpr fun g => by rw [hm, List.mem_filter]
  refine List.Perm.eq_of_pairwise (le := fun q r => TS.code 64 q ≤ TS.code 64 r) (fun a b ha hb h1 h2 => ?_) hs (List.Pairwise.imp (fun {a b} (h : TS.code 64 a < TS.code 64 b) => Int.le_of_lt h) (List.Pairwise.filter f st)) pm
  exact code_inj m6 ((hm a).mp ha).1 (List.mem_filter.mp hb).1 (Int.le_antisymm h1 h2)
/-- all images of pairs under the first k moves, behind the pairs themselves -/
def moreB (ms : List Mv) (L : List (List Int)) : Nat → List (List Int)
  | 0 => L
  | k + 1 => moreB ms L k ++ L.map (bhP (rowM ms k))
theorem mem_moreB {ms : List Mv} {L : List (List Int)} {h : List Int} : ∀ {k}, h ∈ moreB ms L k ↔ h ∈ L ∨ ∃ n, n < k ∧ ∃ g ∈ L, bhP (rowM ms n) g = h
  | 0 => ⟨.inl, fun z => z.elim id fun ⟨_, h, _⟩ => absurd h (Nat.not_lt_zero _)⟩
  | k + 1 => by
    show h ∈ moreB ms L k ++ _ ↔ _
    rw [List.mem_append, mem_moreB, List.mem_map]
    constructor
    · rintro ((h1 | ⟨n, hn, h1⟩) | h1)
      · exact .inl h1
      · exact .inr ⟨n, by omega, h1⟩
      · exact .inr ⟨k, by omega, h1⟩
    · rintro (h1 | ⟨n, hn, h1⟩)
      · exact .inl (.inl h1)
      · by_cases c : n = k
        · rw [c] at h1
          exact .inr h1
        · exact .inl (.inr ⟨n, by omega, h1⟩)
theorem moreB_len (ms : List Mv) (L : List (List Int)) : ∀ k, (moreB ms L k).length = L.length * (k + 1)
  | 0 => by rw [Nat.zero_add, Nat.mul_one]; rfl
  | k + 1 => by
    show (moreB ms L k ++ _).length = _
    rw [List.length_append, moreB_len ms L k, List.length_map, Nat.mul_succ L.length (k + 1)]
/-- what so many turns find -/
def behB (many : Nat) (ms : List Mv) (g : List Int) : Nat → List (List Int)
  | 0 => [g]
  | t + 1 => (pairsL many).filter fun h => decide (h ∈ moreB ms (behB many ms g t) ms.length)
/-- a set of pairs out of which no move leads to one place -/
def ApartS (many : Nat) (ms : List Mv) (L : List (List Int)) : Prop := ∀ h ∈ L, h ∈ pairsL many ∧ ¬ Meets many ms h
theorem apart_step {many : Nat} {ms : List Mv} (G : GoodAll many ms) {h : List Int} (hp : h ∈ pairsL many) (no : ¬ Meets many ms h) {n : Nat} (hn : n < ms.length) : bhP (rowM ms n) h = ledG many (rowM ms n) h ∧ bhP (rowM ms n) h ∈ pairsL many ∧ ¬ Meets many ms (bhP (rowM ms n) h) := by
  obtain ⟨x, y, x0, xy, ym, rfl⟩ := mem_pairsL.mp hp
  obtain ⟨l1, l2⟩ := ledG_pair (rowM_good G hn) x0 xy ym
  have step : Meets many ms (ledG many (rowM ms n) [x, y]) → Meets many ms [x, y] := fun ⟨r, hv, hl⟩ => ⟨(n : Int) :: r, fun z hz => by
    rcases List.mem_cons.mp hz with e | hz
    · rw [e]; omega
    · exact hv z hz, by rw [runG_cons, Int.toNat_natCast]; exact hl⟩
  have ne : goK (rowM ms n) x ≠ goK (rowM ms n) y := fun e => no (step ⟨[], (fun _ h => nomatch h), by rw [l1 e]; rfl⟩)
  have e2 := l2 ne
  refine ⟨e2.symm, ?_, fun m => no (step (by rw [e2]; exact m))⟩
  have gg : goodG many (bhP (rowM ms n) [x, y]) := by rw [← e2]; exact ledG_good _ _ _
  obtain ⟨u, v, ep⟩ : ∃ u v, bhP (rowM ms n) [x, y] = [u, v] := by
    unfold bhP
    split
    · exact ⟨_, _, rfl⟩
    · exact ⟨_, _, rfl⟩
  rw [ep] at gg ⊢
  exact mem_pairsL.mpr ⟨u, v, (gg.2 u List.mem_cons_self).1, (List.pairwise_cons.mp gg.1).1 v List.mem_cons_self, (gg.2 v (List.mem_cons_of_mem _ List.mem_cons_self)).2, rfl⟩
theorem moreB_apart {many : Nat} {ms : List Mv} (G : GoodAll many ms) {L : List (List Int)} (hL : ApartS many ms L) : ApartS many ms (moreB ms L ms.length) := fun h hh => by
  rcases mem_moreB.mp hh with h1 | ⟨n, hn, g, hg, rfl⟩
  · exact hL h h1
  · exact (apart_step G (hL g hg).1 (hL g hg).2 hn).2
theorem behB_apart {many : Nat} {ms : List Mv} (G : GoodAll many ms) {g : List Int} (hg : g ∈ pairsL many) (no : ¬ Meets many ms g) : ∀ t, ApartS many ms (behB many ms g t)
  | 0 => fun h hh => by rw [List.mem_singleton.mp hh]; exact ⟨hg, no⟩
  | t + 1 => fun h hh => moreB_apart G (behB_apart G hg no t) h (of_decide_eq_true (List.mem_filter.mp hh).2)
theorem mem_behB {many : Nat} {ms : List Mv} (G : GoodAll many ms) {g : List Int} (hg : g ∈ pairsL many) (no : ¬ Meets many ms g) {t : Nat} {h : List Int} : h ∈ behB many ms g (t + 1) ↔ h ∈ moreB ms (behB many ms g t) ms.length := by
  show h ∈ (pairsL many).filter _ ↔ _
  rw [List.mem_filter, decide_eq_true_iff]
  exact ⟨fun z => z.2, fun z => ⟨(moreB_apart G (behB_apart G hg no t) h z).1, z⟩⟩
theorem behB_sub {many : Nat} {ms : List Mv} (G : GoodAll many ms) {g : List Int} (hg : g ∈ pairsL many) (no : ¬ Meets many ms g) (t : Nat) : ∀ h ∈ behB many ms g t, h ∈ behB many ms g (t + 1) := fun h hh => (mem_behB G hg no).mpr (mem_moreB.mpr (.inl hh))
theorem behB_nodup {many : Nat} {ms : List Mv} (m6 : many ≤ 6) {g : List Int} : ∀ t, (behB many ms g t).Nodup
  | 0 => by
    show [g].Nodup
    simp
  | t + 1 => List.Pairwise.imp (fun {a b} (h : TS.code 64 a < TS.code 64 b) e => by rw [e] at h; omega) (List.Pairwise.filter _ (pairs_code many m6))
theorem pairsL_len {many : Nat} (m6 : many ≤ 6) : (pairsL many).length ≤ 15 := by
  have := combOk_len (Cm.combOk_small many m6)
  unfold pairsL
  rw [List.length_map, ← combs_eq many m6]
  omega
theorem behB_len {many : Nat} {ms : List Mv} (G : GoodAll many ms) (m6 : many ≤ 6) {g : List Int} (hg : g ∈ pairsL many) (no : ¬ Meets many ms g) (t : Nat) : (behB many ms g t).length ≤ 15 :=
  Nat.le_trans (pigeon (behB_nodup m6 t) fun h hh => (behB_apart G hg no t h hh).1) (pairsL_len m6)
/-- a turn adds, or no turn does from there on -/
theorem behB_grow {many : Nat} {ms : List Mv} (G : GoodAll many ms) (m6 : many ≤ 6) {g : List Int} (hg : g ∈ pairsL many) (no : ¬ Meets many ms g) (t : Nat) (l0 : t + 1 ≤ (behB many ms g t).length) : t + 2 ≤ (behB many ms g (t + 1)).length ∨ ∀ h, h ∈ behB many ms g (t + 1) → h ∈ behB many ms g t := by
  by_cases c : ∀ h, h ∈ behB many ms g (t + 1) → h ∈ behB many ms g t
  · exact .inr c
  · refine .inl ?_
    obtain ⟨h, h1, h2⟩ : ∃ h, h ∈ behB many ms g (t + 1) ∧ h ∉ behB many ms g t := Classical.byContradiction fun z => c fun h h1 => Classical.byContradiction fun h2 => z ⟨h, h1, h2⟩
    have : (h :: behB many ms g t).length ≤ (behB many ms g (t + 1)).length := pigeon (List.nodup_cons.mpr ⟨h2, behB_nodup m6 t⟩) fun z hz => by
      rcases List.mem_cons.mp hz with e | hz
      · rw [e]; exact h1
      · exact behB_sub G hg no t z hz
    rw [List.length_cons] at this
    omega
theorem behB_still {many : Nat} {ms : List Mv} (G : GoodAll many ms) (m6 : many ≤ 6) {g : List Int} (hg : g ∈ pairsL many) (no : ¬ Meets many ms g) : ∀ t, t + 2 ≤ (behB many ms g (t + 1)).length ∨ ∀ h, h ∈ behB many ms g (t + 1) → h ∈ behB many ms g t
  | 0 => behB_grow G m6 hg no 0 (Nat.le_refl _)
  | t + 1 => by
    rcases behB_still G m6 hg no t with u | u
    · exact behB_grow G m6 hg no (t + 1) u
    · refine .inr fun h h1 => (mem_behB G hg no).mpr ?_
      rcases mem_moreB.mp ((mem_behB G hg no).mp h1) with a | ⟨n, hn, g', hg', e⟩
      · exact (mem_behB G hg no).mp a
      · exact mem_moreB.mpr (.inr ⟨n, hn, g', u g' hg', e⟩)
theorem behB_closed {many : Nat} {ms : List Mv} (G : GoodAll many ms) (m6 : many ≤ 6) {g : List Int} (hg : g ∈ pairsL many) (no : ¬ Meets many ms g) {h : List Int} (hh : h ∈ behB many ms g 16) {n : Nat} (hn : n < ms.length) : bhP (rowM ms n) h ∈ behB many ms g 16 := by
  rcases behB_still G m6 hg no 16 with u | u
  · have := behB_len G m6 hg no 17
    have u' : 18 ≤ (behB many ms g 17).length := u
    omega
  · exact u _ ((mem_behB G hg no).mpr (mem_moreB.mpr (.inr ⟨n, hn, h, hh, rfl⟩)))
theorem behB_begin {many : Nat} {ms : List Mv} (G : GoodAll many ms) {g : List Int} (hg : g ∈ pairsL many) (no : ¬ Meets many ms g) : ∀ t, g ∈ behB many ms g t
  | 0 => List.mem_cons_self
  | t + 1 => behB_sub G hg no t g (behB_begin G hg no t)
theorem run_behB {many : Nat} {ms : List Mv} (G : GoodAll many ms) (m6 : many ≤ 6) {g : List Int} (hg : g ∈ pairsL many) (no : ¬ Meets many ms g) : ∀ (r h : List Int), h ∈ behB many ms g 16 → Valid ms r → runG many ms h r ∈ behB many ms g 16
  | [], h, hh, _ => hh
  | n :: r, h, hh, hv => by
    have hn := hv n List.mem_cons_self
    have hk : n.toNat < ms.length := by omega
    obtain ⟨a, b⟩ := behB_apart G hg no 16 h hh
    rw [runG_cons, ← (apart_step G a b hk).1]
    exact run_behB G m6 hg no r _ (behB_closed G m6 hg no hh hk) fun z hz => hv z (List.mem_cons_of_mem _ hz)
theorem behB_run {many : Nat} {ms : List Mv} (G : GoodAll many ms) {g : List Int} (hg : g ∈ pairsL many) (no : ¬ Meets many ms g) : ∀ (t : Nat) (h : List Int), h ∈ behB many ms g t → ∃ r, Valid ms r ∧ runG many ms g r = h
  | 0, h, hh => ⟨[], (fun _ z => nomatch z), (List.mem_singleton.mp hh).symm⟩
  | t + 1, h, hh => by
    rcases mem_moreB.mp ((mem_behB G hg no).mp hh) with a | ⟨n, hn, g', hg', e⟩
    · exact behB_run G hg no t h a
    · obtain ⟨r, hv, e1⟩ := behB_run G hg no t g' hg'
      obtain ⟨a, b⟩ := behB_apart G hg no t g' hg'
      refine ⟨r ++ [(n : Int)], hv.app (Valid.one hn), ?_⟩
      rw [runG_snoc, e1, Int.toNat_natCast, ← (apart_step G a b hn).1]
      exact e
/-- all that is found is all to which rows lead -/
theorem behB_gf {many : Nat} {ms : List Mv} (G : GoodAll many ms) (m6 : many ≤ 6) {g : List Int} (hg : g ∈ pairsL many) (no : ¬ Meets many ms g) {L : List (List Int)} (hL : behindL many ms g L) : L = behB many ms g 16 := by
  obtain ⟨x, y, x0, xy, ym, rfl⟩ := mem_pairsL.mp hg
  have gg := pair_good x0 xy ym
  have rows := gf_row (many := many) (ms := ms) (b := [x, y])
  have runs := fun r h => gf_run (many := many) (ms := ms) (b := [x, y]) gg m6 (r := r) h
  have nd : (keysG (gf many ms [x, y])).Nodup := bfsN_nodup many ms [x, y] 64
  obtain ⟨pm, st⟩ := hL
  have hin : ∀ h, h ∈ keysG (gf many ms [x, y]) ↔ h ∈ behB many ms [x, y] 16 := fun h => by
    constructor
    · intro hh
      obtain ⟨p, hp, rfl⟩ := List.mem_map.mp hh
      obtain ⟨e, hv⟩ := rows p hp
      rw [← e]
      exact run_behB G m6 hg no p.2 _ (behB_begin G hg no 16) hv
    · intro hh
      obtain ⟨r, hv, e⟩ := behB_run G hg no 16 h hh
      rw [← e]
      exact runs r hv
  refine pairs_same m6 (pm.nodup_iff.mpr nd) (fun h => ?_) st
  rw [pm.mem_iff, hin]
  show h ∈ (pairsL many).filter _ ↔ _
  rw [List.mem_filter]
section
variable {P : Program} {w : World} {K : PySem.W.Frag} {mg : Str → Option Value} {base : Heap} {C : Addr}
/-! ### _law_behind -/
def rTupOf (K : PySem.W.Frag) : List V → Hp → VK → Prop := fun xs H Q => ∃ p ys, xs = [V.ref p] ∧ ((SqL K H p ys ∧ ∀ l, H l = none → Q (.ref l) (upd H l (.tup ys))) ∨ (SqT K H p ys ∧ Q (.ref p) H))
theorem scBh : FnScope ["_law_told", "_law_pair", "_law_found", "_law_turn", "_law_more", "_law_move", "_law_one"] ["_law_told", "_law_pair"] (defScope sLawBehind) := ⟨rfl, rfl, rfl, by decide +kernel, rfl, by decide +kernel, by decide +kernel⟩
def spBh : Sp := fun vs H Q _ => ∃ (t m ga : Addr) (many : Nat) (ws : List V) (ms : List Mv) (g : List Int), vs = [.ref t, .ref ga] ∧ ToldAt H t m many ws ms ∧ Good many ms ∧ H ga = some (.tup (g.map V.int)) ∧ g ∈ pairsL many ∧ ¬ Meets many ms g ∧ ∀ a H', Same H H' → TupsAt H' a (behB many ms g 16) → Q (.ref a) H'
theorem tups_ks {H : Hp} : ∀ {vs : List V} {gs : List (List Int)}, Paired (TupG H) vs gs → ∃ ks : List (Addr × List Int), vs = ks.map (fun p => V.ref p.1) ∧ ks.map (·.2) = gs ∧ ∀ p ∈ ks, H p.1 = some (.tup (p.2.map V.int))
  | _, _, .nil => ⟨[], rfl, rfl, fun _ h => nomatch h⟩
  | _, _, .cons ⟨t, e, ht⟩ r => by
    obtain ⟨ks, e1, e2, e3⟩ := tups_ks r
    exact ⟨(t, _) :: ks, by rw [e, e1]; rfl, by rw [List.map_cons, e2], fun p hp => by
      rcases List.mem_cons.mp hp with z | hp
      · rw [z]; exact ht
      · exact e3 p hp⟩
theorem ks_tups {H : Hp} : ∀ (ks : List (Addr × List Int)), (∀ p ∈ ks, H p.1 = some (.tup (p.2.map V.int))) → Paired (TupG H) (ks.map fun p => V.ref p.1) (ks.map (·.2))
  | [], _ => .nil
  | p :: ks, h => .cons ⟨p.1, rfl, h p List.mem_cons_self⟩ (ks_tups ks fun q hq => h q (List.mem_cons_of_mem _ hq))
theorem ok_bh {k : Nat} {f : Addr} {fd : FuncData} (F : Fun K "_law_behind" "_law_behind" sLawBehind f fd) (mr : mg "range" = none) (mt : mg "tuple" = none) (ms' : mg "sorted" = none) (mS : mg "set" = none) (mL : mg "list" = none) : FnOk P w K mg base CX0 (k + 1) f fd ["_law_told", "_law_pair"] spBh := by
  refine F.ok scBh (fun vs H Q E h => ?_) (fun cdv A outer s H vs Q E hr h => ?_)
  · obtain ⟨t, m, ga, many, ws, ms, g, rfl, _⟩ := h
    rfl
  · obtain ⟨t, m, ga, many, ws, ms, g, rfl, hT, G, hga, hg, no, q⟩ := h
    have hu := hu64 hr
    refine ⟨_, (pss_cons (ps_set (i := 2) scBh.nd rfl (.inl rfl) (pe_lst (pa_cons (pv 1) pa_nil)))
      (pss_cons (ps_for PassesOwn.never rfl (pi_range1 (by rfl) mr (pa_cons pe_int pa_nil)) (pg_name (i := 3) scBh.nd rfl (.inl rfl)) (pss_cons (ps_set (i := 4) scBh.nd rfl (.inl rfl) (pe_callTy call_list_of (by rfl) mL (by decide +kernel) (pa_cons (pv 2) pa_nil)))
      (pss_cons (ps_for PassesOwn.never rfl (pi_list (pe_ix ix_tup (pv 0) pe_int (fun _ _ => rfl))) (pg_name (i := 5) scBh.nd rfl (.inr rfl)) (pss_one (ps_set (i := 4) scBh.nd rfl (.inl rfl) (pe_op op_cat (pv 4) (pe_lc (own := [("_law_one", 6)]) (g := gName 6) (tt := tYes) (te := (tCB (rTupOf K) (tCons (tCB (rSorted K) (tCons (tLst (tCons (tOp (rIxT K) (tOp (rIxT K) (tVar 5) (tC (.int 1))) (tOp (rIxT K) (tVar 6) (tC (.int 0)))) (tCons (tOp (rIxT K) (tOp (rIxT K) (tVar 5) (tC (.int 1))) (tOp (rIxT K) (tVar 6) (tC (.int 1)))) tNil))) tNil)) tNil))) rfl scBh.nd (pi_list (pv 2)) (blkOk_by (N := ["_law_told", "_law_pair", "_law_found", "_law_turn", "_law_more", "_law_move", "_law_one"]) (sc := defScope sLawBehind) (by decide +kernel)) (fun _ _ _ _ _ => by exact (pg_name (i := 6) scBh.nd rfl (.inl rfl))) (fun _ _ _ _ _ => pts_nil) (fun _ _ _ _ _ => by exact (pe_callTy call_tuple_of (by rfl) mt (by decide +kernel) (pa_cons (pe_callB cr_sorted (by rfl) ms' (by decide +kernel) (pa_cons (pe_lst (pa_cons (pe_ix ix_tup (pe_ix ix_tup (pv 5) pe_int (fun _ _ => rfl)) (pe_ix ix_tup (pv 6) pe_int (fun _ _ => rfl)) (fun _ _ => rfl)) (pa_cons (pe_ix ix_tup (pe_ix ix_tup (pv 5) pe_int (fun _ _ => rfl)) (pe_ix ix_tup (pv 6) pe_int (fun _ _ => rfl)) (fun _ _ => rfl)) pa_nil))) pa_nil)) pa_nil))))))))
      (pss_one (ps_set (i := 2) scBh.nd rfl (.inl rfl) (pe_callB (cr_sortedT rfl) (by rfl) ms' (by decide +kernel) (pa_cons (pe_callTy (cr_setN rfl hu) (by rfl) mS (by decide +kernel) (pa_cons (pv 4) pa_nil)) pa_nil)))))))
      (pss_one (ps_ret (pv 2))))), ?_⟩
    have m6 := G.m6
    have l8 := G.l8
    have two : (2 : Nat) ≤ sizeLine := by decide
    refine ⟨.ref ga, rfl, (by show 1 ≤ sizeLine; decide), fun F0 nF0 => ?_⟩
    have s0 := same_new (o := .lst [.ref ga]) nF0
    refine ⟨_, rfl, by decide, by decide, ?_⟩
    refine for_range (lo := 0) (n := ((16 : Int)).toNat) (fun i σ H' => ∃ F y3 y4 y5, σ = [some (.ref t), some (.ref ga), some (.ref F), y3, y4, y5, none] ∧ Same H H' ∧ ∃ vs, H' F = some (.lst vs) ∧ Paired (TupG H') vs (behB many ms g i))
      ⟨F0, none, none, none, rfl, s0, [.ref ga], upd_same, .cons ⟨ga, rfl, s0 _ _ hga⟩ .nil⟩ ?_ ?_
    · rintro i σ H1 hi ⟨F, y3, y4, y5, rfl, s1, vs, hF, pv⟩
      have hT1 := hT.same s1
      have ap := behB_apart G.mv hg no i
      have ll := behB_len G.mv m6 hg no i
      have esucc : behB many ms g (i + 1) = (pairsL many).filter fun h => decide (h ∈ moreB ms (behB many ms g i) ms.length) := rfl
      generalize behB many ms g i = LL at pv ap ll esucc
      have lv := pv.length
      refine ⟨.ref F, rfl, F, _, rfl, .inl (SqL.of hF), fun M0 nM0 => ?_⟩
      have s2 := same_new (o := .lst vs) nM0
      have hT2 := hT1.same s2
      refine ⟨.ref t, rfl, t, _, 1, _, rfl, rfl, SqT.of hT2.1, atI_nat (j := 1) rfl, m, rfl, ⟨_, SqL.of hT2.2.1⟩, ?_⟩
      refine for_list (K := K) (a := m) (xs := ws) (fun k σ H' => ∃ M y5, σ = [some (.ref t), some (.ref ga), some (.ref F), some (.int (0 + (i : Int))), some (.ref M), y5, none] ∧ Same H1 H' ∧ ∃ us, H' M = some (.lst us) ∧ Paired (TupG H') us (moreB ms LL k))
        ⟨M0, y5, rfl, s2, vs, upd_same, TupG.all (Same.tups s2) pv⟩ (fun k σ H' _ ⟨_, _, _, s, _⟩ => SqL.of (s _ _ hT1.2.1)) ?_ ?_
      · rintro k w1 σ H3 hw ⟨M, y5, rfl, s3, us, hM, pu⟩
        have hT3 := hT1.same s3
        obtain ⟨mv, emv, ta, tb, rfl, hta, htb⟩ := paired_getL hT3.2.2 hw
        have hk8 : k < ms.length := (List.getElem?_eq_some_iff.mp emv).1
        have gm := G.mv mv (List.mem_of_getElem? emv)
        have erow : rowM ms k = mv.2 := rowM_at emv
        have hF3 := s3 _ _ hF
        have pv3 := TupG.all (Same.tups s3) pv
        have lu := pu.length
        rw [moreB_len] at lu
        have lmul : LL.length * (k + 1) ≤ 15 * 9 := Nat.mul_le_mul ll (by omega)
        refine ⟨.ref M, rfl, .ref F, rfl, F, rfl, ⟨_, SqL.of hF3⟩, fun D nD => ?_⟩
        refine lc_list (K := K) (a := F) (xs := vs) (fun e H' => Same H3 H' ∧ ∃ ds, H' D = some (.lst ds) ∧ Paired (TupG H') ds ((LL.map (bhP mv.2)).take e))
          ⟨same_new nD, [], upd_same, by rw [List.take_zero]; exact .nil⟩ (fun e H' _ h => SqL.of (h.1 _ _ hF3)) ?_ ?_
        · rintro e v H4 hv ⟨s4, ds, hD, pd⟩
          obtain ⟨h, eh, th, rfl, hth⟩ := paired_getL pv3 hv
          have eb : (LL.map (bhP mv.2))[e]? = some (bhP mv.2 h) := by rw [List.getElem?_map, eh]; rfl
          obtain ⟨x, y, x0, xy, ym, rfl⟩ := mem_pairsL.mp (ap h (List.mem_of_getElem? eh)).1
          have hth4 := s4 _ _ hth
          have hta4 := s4 _ _ hta
          have htb4 := s4 _ _ htb
          have ld : ds.length ≤ 15 := by
            have h1 := pd.length
            rw [List.length_take, List.length_map] at h1
            omega
          refine ⟨rfl, .ref ta, rfl, ta, _, 1, _, rfl, rfl, SqT.of hta4, atI_nat (j := 1) rfl, .ref th, rfl, th, _, 0, _, rfl, rfl, SqT.of hth4, atI_nat (j := 0) rfl, tb, _, x, _, rfl, rfl, SqT.of htb4, at_of (show x = ((x.toNat : Nat) : Int) by omega) (at_goK x0 (by rw [gm.2.2.1]; omega)), ?_⟩
          refine ⟨.ref ta, rfl, ta, _, 1, _, rfl, rfl, SqT.of hta4, atI_nat (j := 1) rfl, .ref th, rfl, th, _, 1, _, rfl, rfl, SqT.of hth4, atI_nat (j := 1) rfl, tb, _, y, _, rfl, rfl, SqT.of htb4, at_of (show y = ((y.toNat : Nat) : Int) by omega) (at_goK (by omega) (by rw [gm.2.2.1]; omega)), two, fun L nL => ?_⟩
          have s6 := same_new (o := .lst [V.int (goK mv.2 x), V.int (goK mv.2 y)]) nL
          refine ⟨L, [goK mv.2 x, goK mv.2 y], rfl, SqL.of upd_same, (by show 2 < 64; decide), fun ns sp hperm hsort nsp => ?_⟩
          have ens : ns = bhP mv.2 [x, y] := two_sort hperm hsort
          subst ens
          have s7 := same_new (o := .lst ((bhP mv.2 [x, y]).map V.int)) nsp
          refine ⟨sp, _, rfl, .inl ⟨SqL.of upd_same, fun g7 ng7 => ?_⟩⟩
          have s57 := (s6.trans s7).trans (same_new (o := .tup ((bhP mv.2 [x, y]).map V.int)) ng7)
          have hg7 : (upd (upd (upd H4 L (.lst [V.int (goK mv.2 x), V.int (goK mv.2 y)])) sp (.lst ((bhP mv.2 [x, y]).map V.int))) g7 (.tup ((bhP mv.2 [x, y]).map V.int))) g7 = some (.tup ((bhP mv.2 [x, y]).map V.int)) := upd_same
          generalize upd (upd (upd H4 L (.lst [V.int (goK mv.2 x), V.int (goK mv.2 y)])) sp (.lst ((bhP mv.2 [x, y]).map V.int))) g7 (.tup ((bhP mv.2 [x, y]).map V.int)) = H7 at s57 hg7 ⊢
          have hD7 := s57 _ _ hD
          have tk : ∀ b xs, H7 b = some (.tup xs) → (upd H7 D (.lst (ds ++ [.ref g7]))) b = some (.tup xs) := fun b xs e1 => by
            rw [upd_ne (fun z => by rw [z, hD7] at e1; cases e1)]
            exact e1
          refine ⟨ds, hD7, lt1k (by omega), fun b u e1 => by rw [upd_ne (ne_of_none e1 nD)]; exact s57 _ _ (s4 _ _ e1), ds ++ [.ref g7], upd_same, ?_⟩
          rw [take_snoc eb]
          exact paired_end (F := TupG _) ⟨g7, rfl, tk _ _ hg7⟩ (TupG.all (fun b xs e1 => tk b xs (s57 _ _ e1)) pd)
        · rintro H4 ⟨s4, ds, hD, pd⟩
          rw [List.take_of_length_le (by rw [List.length_map]; omega)] at pd
          have ld := pd.length
          rw [List.length_map] at ld
          refine ⟨M, D, _, _, rfl, rfl, s4 _ _ hM, hD, le1k (by omega), fun p2 np2 => ⟨p2, _, rfl, (s3.trans s4).trans (same_new np2), us ++ ds, upd_same, ?_⟩⟩
          show Paired _ _ (moreB ms LL k ++ LL.map (bhP (rowM ms k)))
          rw [erow]
          exact paired_app (TupG.all (Same.tups (s4.trans (same_new np2))) pu) (TupG.all (Same.tups (same_new np2)) pd)
      · rintro σ H3 ⟨M, y5, rfl, s3, us, hM, pu⟩
        rw [hT.2.2.length] at pu
        obtain ⟨ks, e1, e2, e3⟩ := tups_ks pu
        subst e1
        have mp := moreB_apart G.mv ap
        have inP : ∀ p ∈ ks, p.2 ∈ pairsL many := fun p hp => (mp p.2 (by rw [← e2]; exact List.mem_map.mpr ⟨p, hp, rfl⟩)).1
        refine ⟨.ref M, rfl, M, ks, rfl, SqL.of hM, fun p hp => SqT.of (e3 p hp), fun L sub nd => ?_, fun a L na sub sup => ?_⟩
        · have h1 := pigeon (l := L.map (·.2)) (m := pairsL many) nd fun z hz => by
            obtain ⟨p, hp, rfl⟩ := List.mem_map.mp hz
            exact inP p (sub p hp)
          rw [List.length_map] at h1
          have := pairsL_len m6
          omega
        have s4 := same_new (o := SetTO P w a L) na
        refine ⟨a, L, 2, 64, rfl, upd_same, fun p hp => SqT.of (s4 _ _ (e3 p (sub p hp))), by decide, fun p hp => ?_, fun L' p pm nd _ pw np => ?_⟩
        · obtain ⟨x, y, x0, xy, ym, e⟩ := mem_pairsL.mp (inP p (sub p hp))
          rw [e]
          refine ⟨rfl, fun z hz => ?_⟩
          rcases List.mem_cons.mp hz with e | hz
          · omega
          · rw [List.mem_singleton.mp hz]; omega
        have s5 := s4.trans (same_new (o := .lst (L'.map fun q => V.ref q.1)) np)
        refine ⟨p, _, _, _, rfl, (s1.trans s3).trans s5, _, upd_same, ?_⟩
        have e4 : L'.map (·.2) = behB many ms g (i + 1) := by
          rw [esucc]
          refine pairs_same m6 nd (fun z => ?_) (List.pairwise_map.mpr pw)
          rw [(pm.map (·.2)).mem_iff, decide_eq_true_iff, ← e2]
          constructor
          · intro hz
            obtain ⟨p, hp, rfl⟩ := List.mem_map.mp hz
            exact ⟨inP p (sub p hp), List.mem_map.mpr ⟨p, sub p hp, rfl⟩⟩
          · rintro ⟨_, hz⟩
            obtain ⟨p, hp, rfl⟩ := List.mem_map.mp hz
            exact sup p hp
        rw [← e4]
        exact ks_tups L' fun q hq => s5 _ _ (e3 q (sub q (pm.mem_iff.mp hq)))
    · rintro σ H1 ⟨F, y3, y4, y5, rfl, s1, vs, hF, pv⟩
      exact ⟨.ref F, rfl, q F H1 s1 ⟨vs, hF, pv⟩⟩
end
section
variable {P : Program} {w : World} {K : PySem.W.Frag} {mg : Str → Option Value} {base : Heap} {C : Addr}
/-! ### _law_permuted -/
theorem map_erase : ∀ (xs : List Int) (z : Nat), (xs.map V.int).eraseIdx z = (xs.eraseIdx z).map V.int
  | [], _ => rfl
  | _ :: _, 0 => rfl
  | x :: xs, z + 1 => by
    show V.int x :: (xs.map V.int).eraseIdx z = V.int x :: (xs.eraseIdx z).map V.int
    rw [map_erase xs z]
theorem scPm : FnScope ["_law_d", "_law_many", "_law_moves", "_law_turn", "_law_left", "_law_k"] ["_law_d"] (defScope sLawPermuted) := ⟨rfl, rfl, rfl, by decide +kernel, rfl, by decide +kernel, by decide +kernel⟩
def spPm (K : PySem.W.Frag) : Sp := fun vs H Q _ => ∃ (d l : Addr) (ns : List Int), vs = [.ref d] ∧ Dc K l ns H d ∧
  ∀ (t m : Addr) (many : Nat) (ws : List V) (ms : List Mv) H', Good many ms → ToldAt H' t m many ws ms → Dc K l ns H' d → Gr d H H' → Q (.ref t) H'
theorem ok_pm {f fC fD fO : Addr} {fd fdC fdD fdO : FuncData} (F : Fun K "_law_permuted" "_law_permuted" sLawPermuted f fd) (T : LawTxt K mg fC fD fO fdC fdD fdO) (ml : mg "len" = none) (mr : mg "range" = none) (mt : mg "tuple" = none) (mL : mg "list" = none) : FnOk P w K mg base CX0 3 f fd ["_law_d"] (spPm K) := by
  have GO : FnOk P w K mg base CX0 2 fO fdO ["_law_d", "_law_most"] (spOff K) := T.off
  refine F.ok scPm (fun vs H Q E h => ?_) (fun cdv A outer s H vs Q E hr h => ?_)
  · obtain ⟨d, l, ns, rfl, _⟩ := h
    rfl
  · obtain ⟨d, l, ns, rfl, hD, q⟩ := h
    have r2 : Room 2 _ := hr.mono (by decide)
    refine ⟨_, (pss_cons (ps_set (i := 1) scPm.nd rfl (.inl rfl) (pe_op op_add pe_int (pe_call GO r2 (by rfl) T.gO T.FO.kp T.bO .nil pass0 (pa_cons (pv 0) (pa_cons pe_int pa_nil)))))
      (pss_cons (ps_set (i := 2) scPm.nd rfl (.inl rfl) (pe_lst pa_nil))
      (pss_cons (ps_for PassesOwn.never rfl (pi_range1 (by rfl) mr (pa_cons (pe_op op_add pe_int (pe_call GO r2 (by rfl) T.gO T.FO.kp T.bO .nil pass0 (pa_cons (pv 0) (pa_cons pe_int pa_nil)))) pa_nil)) (pg_name (i := 3) scPm.nd rfl (.inl rfl)) (pss_cons (ps_set (i := 4) scPm.nd rfl (.inr rfl) (pe_listRg rfl (by rfl) mL (prg_1 (by rfl) mr (pv 1))))
      (pss_one (ps_expr (pe_bm PySem.F.plainAttrs_list PySem.F.slot_list_append PySem.F.type_list_append mt_append (pv 2) (pa_cons (pe_tup (pa_cons (pe_op op_add pe_int (pe_call GO r2 (by rfl) T.gO T.FO.kp T.bO .nil pass0 (pa_cons (pv 0) (pa_cons pe_int pa_nil)))) (pa_cons (pe_callTy call_tuple_of (by rfl) mt (by decide +kernel) (pa_cons (pe_lc (own := [("_law_k", 5)]) (g := gName 5) (tt := tYes) (te := (tBM K "list" rPopAt (tVar 4) (tCons (tCall (spOff K) [] E0 (tCons (tVar 0) (tCons (tCB (rLenSq K) (tCons (tVar 4) tNil)) tNil))) tNil))) rfl scPm.nd (pi_range1 (by rfl) mr (pa_cons (pv 1) pa_nil)) (blkOk_by (N := ["_law_d", "_law_many", "_law_moves", "_law_turn", "_law_left", "_law_k"]) (sc := defScope sLawPermuted) (by decide +kernel)) (fun _ _ _ _ _ => by exact (pg_name (i := 5) scPm.nd rfl (.inl rfl))) (fun _ _ _ _ _ => pts_nil) (fun _ _ _ _ _ => by exact (pe_bm PySem.F.plainAttrs_list PySem.F.slot_list_pop PySem.F.type_list_pop mt_popAt (pv 4) (pa_cons (pe_call GO r2 (by rfl) T.gO T.FO.kp T.bO .nil pass0 (pa_cons (pv 0) (pa_cons (pe_callB call_len_seq (by rfl) ml PySem.boot_len (pa_cons (pv 4) pa_nil)) pa_nil))) pa_nil)))) pa_nil)) pa_nil))) pa_nil))))))
      (pss_one (ps_ret (pe_tup (pa_cons (pv 1) (pa_cons (pv 2) pa_nil)))))))), ?_⟩
    refine ⟨.ref d, rfl, d, l, ns, _, rfl, hD, by decide, by decide, fun r H1 hr1 hD1 o1 => ?_⟩
    refine ⟨2, r, rfl, rfl, ?_⟩
    obtain ⟨many, em⟩ : ∃ many : Nat, many = 2 + r := ⟨_, rfl⟩
    have em2 : (2 : Int) + (r : Int) = (many : Int) := by omega
    have g1 : Gr d H H1 := (Gr.refl d H).off o1
    refine ⟨Nat.zero_le _, fun m nm => ?_⟩
    have nmd : m ≠ d := hD1.ne nm
    have hD2 := hD1.new (o := .lst []) nm
    have g2 : Gr d H (upd H1 m (.lst [])) := g1.new nm
    have hm2 : (upd H1 m (.lst [])) m = some (.lst []) := upd_same
    have g12 := g1
    generalize hH2 : upd H1 m (.lst []) = H2 at hD2 g2 hm2 ⊢
    refine ⟨.ref d, rfl, d, l, ns, _, rfl, hD2, by decide, by decide, fun cnt H3 hc hD3 o3 => ?_⟩
    have hm3 : H3 m = some (.lst []) := by rw [o3 _ nmd]; exact hm2
    refine ⟨1, cnt, rfl, rfl, _, rfl, by omega, by omega, ?_⟩
    have en : ((1 : Int) + (cnt : Int)).toNat = 1 + cnt := by omega
    refine for_range (lo := 0) (n := ((1 : Int) + (cnt : Int)).toNat)
      (fun i σ H' => ∃ y3 y4 ms ws, σ = [some (.ref d), some (.int ((2 : Int) + (r : Int))), some (.ref m), y3, y4, none] ∧
        Dc K l ns H' d ∧ Gr d H H' ∧ H' m = some (.lst ws) ∧ MovesAt H' ws ms ∧ ms.length = i ∧ ∀ mv ∈ ms, GoodMv many mv)
      ⟨none, none, [], [], rfl, hD3, g2.off o3, hm3, .nil, rfl, fun _ z => nomatch z⟩ ?_ ?_
    · rintro i σ H7 hi ⟨y3, y4, ms, ws, rfl, hD7, g7, hm7, hM7, hl7, hg7⟩
      rw [en] at hi
      have hm4 : many ≤ 6 := by omega
      have ie : (2 : Int) + (r : Int) = (many : Int) := em2
      refine ⟨_, rfl, _, rfl, RgOk.of_le (by omega) (by omega) (by omega) (by omega), fun Lf nLf => ?_⟩
      have eR : rgV 0 ((2 : Int) + (r : Int)) = (ids many).map V.int := by
        rw [em2, rg_ends]
        rfl
      rw [eR]
      have s8 := same_new (o := .lst ((ids many).map V.int)) nLf
      have hD8 := hD7.same s8
      have hL8 : (upd H7 Lf (.lst ((ids many).map V.int))) Lf = some (.lst ((ids many).map V.int)) := upd_same
      have nLd : Lf ≠ d := hD7.ne nLf
      have nLm : Lf ≠ m := (ne_of_none hm7 nLf).symm
      generalize hH8 : upd H7 Lf (.lst ((ids many).map V.int)) = H8 at s8 hD8 hL8 ⊢
      have hm8 := s8 _ _ hm7
      refine ⟨.ref m, rfl, .inl ⟨rfl, _, SqL.of hm8⟩, .ref d, rfl, d, l, ns, _, rfl, hD8, by decide, by decide, fun wt H9 hwt hD9 o9 => ?_⟩
      refine ⟨1, wt, rfl, rfl, ?_⟩
      have hL9 : H9 Lf = some (.lst ((ids many).map V.int)) := by rw [o9 _ nLd]; exact hL8
      have hm9 : H9 m = some (.lst ws) := by rw [o9 _ nmd]; exact hm8
      have g9 : Gr d H7 H9 := (Gr.of_same s8).off o9
      refine ⟨_, rfl, _, rfl, by omega, by omega, fun D nD => ?_⟩
      have nDd : D ≠ d := hD9.ne nD
      have nDL : D ≠ Lf := (ne_of_none hL9 nD).symm
      have em3 : ((2 : Int) + (r : Int)).toNat = many := by omega
      refine lc_range (lo := 0) (n := ((2 : Int) + (r : Int)).toNat)
        (fun e H' => ∃ xs row : List Int, H' Lf = some (.lst (xs.map V.int)) ∧ xs.length + e = many ∧ (∀ x ∈ xs, 0 ≤ x ∧ x < (many : Int)) ∧ H' D = some (.lst (row.map V.int)) ∧ row.length = e ∧ (∀ x ∈ row, 0 ≤ x ∧ x < (many : Int)) ∧ Dc K l ns H' d ∧ ∀ b o, b ≠ d → b ≠ Lf → H9 b = some o → H' b = some o)
        ⟨ids many, [], by rw [upd_ne (Ne.symm nDL)]; exact hL9, by unfold ids; rw [List.length_map, List.length_range]; rfl, fun x hx => mem_ids.mp hx, upd_same, rfl, (fun _ z => nomatch z), hD9.new nD, fun b o n1 n2 e => same_new nD _ _ e⟩ ?_ ?_
      · rintro e H10 he ⟨xs, row, hL10, hlx, hxs, hDr, hlr, hrow, hD10, k10⟩
        rw [em3] at he
        refine ⟨rfl, .ref Lf, rfl, .inl ⟨rfl, _, SqL.of hL10⟩, .ref d, rfl, .ref Lf, rfl, Lf, _, rfl, .inl (SqL.of hL10), ?_⟩
        rw [List.length_map]
        refine ⟨d, l, ns, _, rfl, hD10, by omega, by omega, fun z H11 hz hD11 o11 => ?_⟩
        have hL11 : H11 Lf = some (.lst (xs.map V.int)) := by rw [o11 _ nLd]; exact hL10
        have hD11' : H11 D = some (.lst (row.map V.int)) := by rw [o11 _ nDd]; exact hDr
        obtain ⟨y, ey⟩ : ∃ y, xs[z]? = some y := ⟨_, List.getElem?_eq_getElem (by omega)⟩
        have hy := hxs y (List.mem_of_getElem? ey)
        refine ⟨Lf, xs.map V.int, (z : Int), z, .int y, rfl, rfl, hL11, by omega, by omega, ?_, by rw [List.getElem?_map, ey]; rfl, ?_⟩
        · unfold seqIndex?
          have c : ¬ ((z : Int) < 0) := by omega
          rw [List.length_map]
          simp only [c, if_false]
          rw [if_pos (by simp; omega)]
          rfl
        · have kp : ∀ b o, b ≠ d → b ≠ Lf → H9 b = some o → (upd H11 Lf (.lst ((xs.map V.int).eraseIdx z))) b = some o := fun b o n1 n2 e1 => by
            rw [upd_ne n2, o11 _ n1]
            exact k10 b o n1 n2 e1
          have hD12 : (upd H11 Lf (.lst ((xs.map V.int).eraseIdx z))) D = some (.lst (row.map V.int)) := by rw [upd_ne nDL]; exact hD11'
          refine ⟨_, hD12, by rw [List.length_map]; exact small8 (by omega), xs.eraseIdx z, row ++ [y], ?_, ?_, ?_, ?_, ?_, ?_, ?_, ?_⟩
          · rw [upd_ne (Ne.symm nDL), upd_same]
            rw [map_erase]
          · rw [List.length_eraseIdx]
            rw [if_pos (by omega)]
            omega
          · exact fun x hx => hxs x (List.mem_of_mem_eraseIdx hx)
          · rw [upd_same, List.map_append]
            rfl
          · rw [List.length_append, hlr]
            rfl
          · intro x hx
            rcases List.mem_append.mp hx with hx | hx
            · exact hrow x hx
            · rw [List.mem_singleton.mp hx]; exact hy
          · exact (hD11.turn hD7 nLf nLd).turn hD9 nD nDd
          · exact fun b o n1 n2 e1 => by
              rw [upd_ne (ne_of_none e1 nD)]
              exact kp b o n1 n2 e1
      · rintro H10 ⟨xs, row, hL10, hlx, hxs, hDr, hlr, hrow, hD10, k10⟩
        have hm10 : H10 m = some (.lst ws) := k10 m _ nmd (Ne.symm nLm) hm9
        refine ⟨D, _, rfl, .inl ⟨SqL.of hDr, fun tq ntq => ?_⟩⟩
        refine ⟨(by show 2 ≤ sizeLine; decide), fun tp ntp => ?_⟩
        have s16 := (same_new ntq).trans (same_new (o := .tup [V.int (1 + (wt : Int)), .ref tq]) ntp)
        have htp : (upd (upd H10 tq (.tup (row.map V.int))) tp (.tup [V.int (1 + (wt : Int)), .ref tq])) tp = some (.tup [V.int (1 + (wt : Int)), .ref tq]) := upd_same
        have htq : (upd (upd H10 tq (.tup (row.map V.int))) tp (.tup [V.int (1 + (wt : Int)), .ref tq])) tq = some (.tup (row.map V.int)) := by
          rw [upd_ne (ne_of_none upd_same ntp)]
          exact upd_same
        have hD16 := hD10.same s16
        generalize (upd (upd H10 tq (.tup (row.map V.int))) tp (.tup [V.int (1 + (wt : Int)), .ref tq])) = H16 at s16 htp htq hD16 ⊢
        have hm16 := s16 _ _ hm10
        have gt : Gr d H7 H16 := fun b o nb e => s16 _ _ (k10 b o nb (ne_of_none e nLf) (g9 b o nb e))
        have hM16 : MovesAt H16 ws ms := hM7.same (gt.tups (K := K) hD7)
        have hl := hM16.length
        refine ⟨m, _, _, rfl, rfl, hm16, by rw [hl]; exact small8 (by omega), ?_⟩
        refine ⟨some (.int (0 + (i : Int))), some (.ref Lf), ms ++ [(1 + (wt : Int), row)], ws ++ [.ref tp], rfl, hD16.turn hD1 nm nmd, ?_, upd_same, ?_, by rw [List.length_append, hl7]; rfl, ?_⟩
        · intro b o nb e
          by_cases hb : b = m
          · rw [hb] at e nb
            have z := g12 m o nb e
            rw [nm] at z
            cases z
          · rw [upd_ne hb]
            exact (g7.trans gt) b o nb e
        · refine MovesAt.same (H := H16) ?_ (MovesAt.snoc ⟨tp, tq, rfl, htp, htq⟩ hM16)
          intro b xs e
          rw [upd_ne]
          · exact e
          · intro z
            rw [z, hm16] at e
            cases e
        · intro mv hmv
          rcases List.mem_append.mp hmv with hmv | hmv
          · exact hg7 mv hmv
          · have e : mv = (1 + (wt : Int), row) := by simpa using hmv
            subst e
            exact ⟨by show (1 : Int) ≤ 1 + (wt : Int); omega, by show 1 + (wt : Int) ≤ (99 : Int); omega, by rw [hlr, em3], hrow⟩
    · rintro σ7 H7 ⟨y3, y4, ms, ws, rfl, hD7, g7, hm7, hM7, hl7, hg7⟩
      refine ⟨_, rfl, .ref m, rfl, (by show 2 ≤ sizeLine; decide), fun t nt => ?_⟩
      refine q t m many ws ms _ ⟨by omega, by omega, by omega, by omega, hg7⟩ ⟨?_, same_new nt _ _ hm7, hM7.same (Same.tups (same_new nt))⟩ (hD7.new nt) (g7.new nt)
      rw [← em2]
      exact upd_same
end
section
variable {P : Program} {w : World} {K : PySem.W.Frag} {mg : Str → Option Value} {base : Heap} {C : Addr}
theorem scLaw : FnScope ["_law_script", "_law_told", "_law_found", "_law_apart_here", "_law_pair"] ["_law_script"] (defScope sLaw) := ⟨rfl, rfl, rfl, by decide +kernel, rfl, by decide +kernel, by decide +kernel⟩
theorem kit_tt : PySem.W.kitOne K (.type "tuple") (.type "tuple") = some true := kit_ty (by decide +kernel)
theorem kit_ll : PySem.W.kitOne K (.type "list") (.type "list") = some true := kit_ty (by decide +kernel)
theorem find_filt {α : Type} : ∀ (l : List α) (f g : α → Bool), (∀ x ∈ l, f x = g x) → l.find? f = (l.filter g).head?
  | [], _, _, _ => rfl
  | x :: l, f, g, h => by
    rw [List.find?_cons, List.filter_cons, h x List.mem_cons_self]
    cases g x with
    | true => rfl
    | false => exact find_filt l f g fun y hy => h y (List.mem_cons_of_mem _ hy)
theorem first_head {many : Nat} {ms : List Mv} (G : GoodAll many ms) (m6 : many ≤ 6) : firstApart many ms = (apartL many ms).head? := by
  refine find_filt _ _ _ fun g hg => ?_
  obtain ⟨x, y, x0, xy, ym, rfl⟩ := mem_pairsL.mp hg
  have h1 := rowTo_none (ms := ms) (pair_good x0 xy ym) m6
  have h2 := known_meets G hg
  rw [Bool.eq_iff_iff, h1, Bool.not_eq_true', decide_eq_false_iff_not, h2]
theorem sh_row {r : List Int} : Sh 2 (.tuple [.str "row", .list (r.map PyData.int)]) := Sh.tuple fun d hd => by
  rcases List.mem_cons.mp hd with e | hd
  · rw [e]; exact ⟨by decide +kernel, Nat.zero_le _⟩
  · rw [List.mem_singleton.mp hd]; exact Sh.lst r
theorem sh_apart (L : List (List Int)) : Sh 3 (.tuple [.str "apart", .list (L.map fun g => .tuple (g.map PyData.int))]) := Sh.tuple fun d hd => by
  rcases List.mem_cons.mp hd with e | hd
  · rw [e]; exact ⟨by decide +kernel, Nat.zero_le _⟩
  · rw [List.mem_singleton.mp hd]; exact Sh.tups L
theorem ok_law {f fc fd' fo fh fm fPm fMt fAp fSh fBh tM : Addr} {fd fdc fdd fdo fdh fdm fdPm fdMt fdAp fdSh fdBh : FuncData} (F : Fun K "law" "law" sLaw f fd) (T : LawTxt K mg fc fd' fo fdc fdd fdo) (Dh : Df K mg "_law_chain" sChain ["_law_d", "_law_most"] fh fdh)
    (DM : Df K mg "_law_made" sMade ["_law_told"] fm fdm) (DPm : Df K mg "_law_permuted" sLawPermuted ["_law_d"] fPm fdPm) (DMt : Df K mg "meeting" sMeeting ["chain"] fMt fdMt) (DAp : Df K mg "_law_apart" sLawApart ["_law_told"] fAp fdAp) (DSh : Df K mg "_law_shortest" sLawShortest ["_law_told"] fSh fdSh) (DBh : Df K mg "_law_behind" sLawBehind ["_law_told", "_law_pair"] fBh fdBh)
    (GM : FnOk P w K mg base CX0 4 fm fdm ["_law_told"] (spMade C tM)) (GMt : FnOk P w K mg base CX0 5 fMt fdMt ["chain"] (spMt C))
    (mL : mg "list" = none) (ms' : mg "sorted" = none) (mS : mg "set" = none) (mI : mg "isinstance" = none) : FnOk P w K mg base CX0 6 f fd ["_law_script"] (spLaw K tM) := by
  have GC : FnOk P w K mg base CX0 1 fc fdc ["_law_script", "_law_k"] (spCell K) := ok_cell T.FC T.ml
  have GD' : FnOk P w K mg base CX0 2 fd' fdd ["_law_script", "_law_k"] (spDice K) := T.dice
  have GO : FnOk P w K mg base CX0 2 fo fdo ["_law_d", "_law_most"] (spOff K) := T.off
  have GH : FnOk P w K mg base CX0 3 fh fdh ["_law_d", "_law_most"] (spChain K) := ok_chain Dh.F T
  have GPm : FnOk P w K mg base CX0 3 fPm fdPm ["_law_d"] (spPm K) := ok_pm DPm.F T T.ml T.mr T.mt mL
  have GAp : FnOk P w K mg base CX0 1 fAp fdAp ["_law_told"] spAp := ok_ap DAp.F T.mr T.ml T.mt ms'
  have GSh : FnOk P w K mg base CX0 1 fSh fdSh ["_law_told"] spSh := ok_sh DSh.F T.mr T.ml T.mt ms' mS mL
  have GBh : FnOk P w K mg base CX0 1 fBh fdBh ["_law_told", "_law_pair"] spBh := ok_bh DBh.F T.mr T.mt ms' mS mL
  refine F.ok scLaw (fun vs H Q E h => ?_) (fun cdv A outer s H vs Q E hr h => ?_)
  · obtain ⟨a, ns, rfl, _⟩ := h
    rfl
  · obtain ⟨a, ns, rfl, hS, hl, hTM, q⟩ := h
    have hu := hu64 hr
    have r1 : Room 1 _ := hr.mono (by decide)
    have r2 : Room 2 _ := hr.mono (by decide)
    have r3 : Room 3 _ := hr.mono (by decide)
    have r4 : Room 4 _ := hr.mono (by decide)
    refine ⟨_, (pss_cons (ps_set (i := 1) scLaw.nd rfl (.inl rfl) (pe_call GH r3 (by rfl) Dh.g Dh.F.kp Dh.b .nil pass0 (pa_cons (pe_call GD' r2 (by rfl) T.gD T.FD.kp T.bD .nil pass0 (pa_cons (pv 0) (pa_cons pe_int pa_nil))) (pa_cons pe_int pa_nil))))
      (C8.pss_cut (ps_if (pt_cmpR op_eq (pe_op op_mod (pe_callB call_abs (by rfl) T.ma (by decide +kernel) (pa_cons (pe_call GC r1 (by rfl) T.gC T.FC.kp T.bC .nil pass0 (pa_cons (pv 0) (pa_cons pe_int pa_nil))) pa_nil)) pe_int) pe_int (nomark _)) (pss_one (ps_set (i := 1) scLaw.nd rfl (.inl rfl) (pe_call GPm r3 (by rfl) DPm.g DPm.F.kp DPm.b .nil pass0 (pa_cons (pe_call GD' r2 (by rfl) T.gD T.FD.kp T.bD .nil pass0 (pa_cons (pv 0) (pa_cons pe_int pa_nil))) pa_nil)))) pss_nil)
      (pss_cons (ps_set (i := 2) scLaw.nd rfl (.inl rfl) (pe_call GMt hr (by rfl) DMt.g DMt.F.kp DMt.b .nil pass0 (pa_cons (pe_call GM r4 (by rfl) DM.g DM.F.kp DM.b .nil pass0 (pa_cons (pv 1) pa_nil)) pa_nil)))
      (pss_cons (ps_if (PW.pt (pw_or (pt_not (pt_val (pe_callB call_isi (by rfl) mI (by decide +kernel) (pa_cons (pv 2) (pa_cons (pe_bltn (v := .ty "tuple") (by rfl) T.mt (by decide +kernel) rfl) pa_nil))))) (pw_or (pt_cmpR op_ne (pe_callB call_len_seq (by rfl) T.ml PySem.boot_len (pa_cons (pv 2) pa_nil)) pe_int (nomark _)) (pw_or1 (pt_not (pt_val (pe_callB call_isi (by rfl) mI (by decide +kernel) (pa_cons (pe_ix ix_tup (pv 2) pe_int (fun _ _ => rfl)) (pa_cons (pe_bltn (v := .ty "list") (by rfl) mL (by decide +kernel) rfl) pa_nil))))))))) (pss_one (ps_ret pe_bl)) pss_nil)
      (pss_cons (ps_set (i := 3) scLaw.nd rfl (.inl rfl) (pe_call GAp r1 (by rfl) DAp.g DAp.F.kp DAp.b .nil pass0 (pa_cons (pv 1) pa_nil)))
      (pss_cons (ps_if (pt_cmpR (op_eqD hu) (pv 3) (pe_lst pa_nil) (nomark _)) (pss_one (ps_ret (pe_cmpR (op_eqD hu) (pv 2) (pe_tup (pa_cons pe_str (pa_cons (pe_call GSh r1 (by rfl) DSh.g DSh.F.kp DSh.b .nil pass0 (pa_cons (pv 1) pa_nil)) pa_nil))) (nomark _)))) pss_nil)
      (pss_cons (ps_if (pt_cmpR (op_neD hu) (pv 2) (pe_tup (pa_cons pe_str (pa_cons (pe_call GBh r1 (by rfl) DBh.g DBh.F.kp DBh.b .nil pass0 (pa_cons (pv 1) (pa_cons (pe_ix ix_list (pv 3) pe_int (fun _ _ => rfl)) pa_nil))) pa_nil))) (nomark _)) (pss_one (ps_ret pe_bl)) pss_nil)
      (pss_one (ps_ret (pe_cmpR (op_eqD hu) (pe_lc (own := [("_law_pair", 4)]) (g := gName 4) (tt := (tOr (tNot (tB (tCB (rIsi K) (tCons (tVar 4) (tCons (tC (.ty "tuple")) tNil))))) (tTest (tOp rEq (tOp (rIxT K) (tVar 4) (tC (.int 0))) (tOp (rIxT K) (tVar 4) (tC (.int 1))))))) (te := (tVar 4)) rfl scLaw.nd (pi_list (pe_ix ix_tup (pv 2) pe_int (fun _ _ => rfl))) (blkOk_by (N := ["_law_script", "_law_told", "_law_found", "_law_apart_here", "_law_pair"]) (sc := defScope sLaw) (by decide +kernel)) (fun _ _ _ _ _ => by exact (pg_name (i := 4) scLaw.nd rfl (.inl rfl))) (fun _ _ _ _ _ => by exact (pts_one (PW.pt (pw_or (pt_not (pt_val (pe_callB call_isi (by rfl) mI (by decide +kernel) (pa_cons (pv 4) (pa_cons (pe_bltn (v := .ty "tuple") (by rfl) T.mt (by decide +kernel) rfl) pa_nil))))) (pw_or1 (pt_cmpR op_eq (pe_ix ix_tup (pv 4) pe_int (fun _ _ => rfl)) (pe_ix ix_tup (pv 4) pe_int (fun _ _ => rfl)) (nomark _))))))) (fun _ _ _ _ _ => by exact (pv 4))) (pe_lst pa_nil) (nomark _))))))))))), ?_⟩
    have two : (2 : Nat) ≤ sizeLine := by decide
    let Mid : L2.St → Hp → Prop := fun σ H' => ∃ (t m : Addr) (many : Nat) (ws : List V) (ms : List Mv), σ = [some (.ref a), some (.ref t), none, none, none] ∧ Good many ms ∧ ToldAt H' t m many ws ms ∧ GxR.TabG H' tM
    -- told
    refine ⟨.ref a, rfl, a, ns, 0, rfl, hS, hl, by decide, fun H1 d1 s1 nd1 hD1 => ?_⟩
    have hTM1 := tab_same s1 hTM
    refine ⟨d1, a, ns, 6, rfl, hD1, by decide, by decide, fun t m many ws ms H2 G _ hT hD2 g2 => ?_⟩
    have hM2 := tab_gr hD1 g2 hTM1
    refine ⟨Mid, ?_, ?_⟩
    · refine ⟨.ref a, rfl, a, ns, 5, rfl, hD2.seq, by decide, fun z => ?_⟩
      refine ⟨_, rfl, _, _, rfl, rfl, (by show (0 : Int) < 4; decide), rfl, _, rfl, ite2 (fun _ => ?_) (fun _ => ?_)⟩
      · refine ⟨.ref a, rfl, a, ns, 6, rfl, hD2.seq, hl, by decide, fun H3 d3 s3 nd3 hD3 => ?_⟩
        refine ⟨d3, a, ns, rfl, hD3, fun t' m' many' ws' ms' H4 G' hT' hD4 g4 => ?_⟩
        exact ⟨t', m', many', ws', ms', rfl, G', hT', tab_gr hD3 g4 (tab_same s3 hM2)⟩
      · exact ⟨t, m, many, ws, ms, rfl, G, hT, hM2⟩
    rintro σ H3 ⟨t, m, many, ws, ms, rfl, G, hT, hTM3⟩
    have m1 := G.m1
    have m6 := G.m6
    -- found
    refine ⟨.ref t, rfl, t, m, many, ws, ms, rfl, hT, G, hTM3, fun H4 x hC nx g4 hM4 => ?_⟩
    have hT4 := hT.tab hTM3 g4
    refine ⟨x, many, ms, rfl, hC, G, fun v H5 s5 hv => ?_⟩
    have hT5 := hT4.same s5
    obtain ⟨p, w1, lst, ds, rfl, hp, hlst⟩ : ∃ (p : Addr) (w1 : V) (lst : Addr) (ds : List V), v = .ref p ∧ H5 p = some (.tup [w1, .ref lst]) ∧ H5 lst = some (.lst ds) := by
      unfold MtAt at hv
      cases hr' : rowTo many ms (ids many) with
      | some r =>
        rw [hr'] at hv
        obtain ⟨t, a, e, h1, h2⟩ := hv
        exact ⟨t, _, a, _, e, h1, h2⟩
      | none =>
        rw [hr'] at hv
        obtain ⟨t, a, g, L, e, h1, _, _, vs, h2, _⟩ := hv
        exact ⟨t, _, a, _, e, h1, h2⟩
    refine ⟨.ref p, rfl, _, _, _, _, _, rfl, .ty _, .base (.tup hp), kit_tt, _, rfl, iteF ?_⟩
    refine ⟨.ref p, rfl, p, _, rfl, .inr (SqT.of hp), rfl, false, by simp, iteF ?_⟩
    refine ⟨.ref p, rfl, p, _, 1, _, rfl, rfl, SqT.of hp, atI_nat (j := 1) rfl, _, _, _, _, _, rfl, .ty _, .base (.lst hlst), kit_ll, _, rfl, iteF ?_⟩
    -- apart
    refine ⟨.ref t, rfl, t, m, many, ws, ms, rfl, hT5, G, fun a3 H6 s6 hAp => ?_⟩
    obtain ⟨va, hva, pva⟩ := hAp
    refine ⟨.ref a3, rfl, Nat.zero_le _, fun L0 nL0 => ?_⟩
    have s7 := same_new (o := .lst []) nL0
    have s67 := s6.trans s7
    have hT7 := hT5.same s67
    have hp7 := s67 _ _ hp
    have hlst7 := s67 _ _ hlst
    have hva7 := s7 _ _ hva
    have pva7 := TupG.all (Same.tups s7) pva
    refine ⟨_, _, .lst (SqL.of hva7) (dp_tups pva7), .lst (SqL.of upd_same) .nil, (Sh.tups _).shaped (by decide), (Sh.list (n := 0) (ds := []) (fun _ z => nomatch z)).shaped (by decide), _, rfl, ?_⟩
    generalize upd H6 L0 (.lst []) = H7 at s7 s67 hT7 hp7 hlst7 hva7 pva7 ⊢
    have fo := first_head G.mv m6
    unfold MtAt at hv
    cases hA : apartL many ms with
    | nil =>
      rw [hA] at fo
      refine iteT ?_
      have some_ := apart_none G.mv m6 m1 fo
      obtain ⟨r, hr'⟩ := Option.isSome_iff_exists.mp some_
      rw [hr'] at hv
      obtain ⟨t0, a0, e0, h1, h2⟩ := hv
      cases e0
      refine ⟨.ref p, rfl, .ref t, rfl, t, m, many, ws, ms, r, rfl, hT7, G, hr', fun a8 H8 s8 ha8 => ⟨two, fun L9 nL9 => ?_⟩⟩
      have s9 := same_new (o := .tup [V.str "row", V.ref a8]) nL9
      have s79 := s8.trans s9
      exact eq_same (n := 2) (d := .tuple [.str "row", .list (r.map PyData.int)]) (.tup (SqT.of (s79 _ _ (s67 _ _ h1))) (.cons (.str _) (.cons (dp_lst (s79 _ _ (s67 _ _ h2))) .nil))) (.tup (SqT.of upd_same) (.cons (.str _) (.cons (dp_lst (s9 _ _ ha8)) .nil))) sh_row (by decide) (q _)
    | cons g gs =>
      rw [hA] at fo pva7
      refine iteF ?_
      have hf : firstApart many ms = some g := fo
      have hgm : g ∈ pairsL many := List.mem_of_find?_eq_some hf
      obtain ⟨gx, gy, x0, xy, ym, eg⟩ := mem_pairsL.mp hgm
      have gg : goodG many g := by rw [eg]; exact pair_good x0 xy ym
      have no : ¬ Meets many ms g := (rowTo_none gg m6).mp (List.find?_some (p := fun g => (rowTo many ms g).isNone) hf)
      have rn : rowTo many ms (ids many) = none := by
        rw [← Option.isNone_iff_eq_none]
        refine (rowTo_none (ids_good many) m6).mpr fun z => no ?_
        refine z.sub G.mv (ids_good many) gg (by rw [eg]; exact List.cons_ne_nil _ _) fun x hx => mem_ids.mpr (gg.2 x hx)
      rw [rn] at hv
      obtain ⟨t0, a0, g0, L, e0, h1, hf0, hL, hLa⟩ := hv
      cases e0
      rw [hf] at hf0
      cases hf0
      have eL := behB_gf G.mv m6 hgm no hL
      cases pva7 with
      | @cons v0 _ vs0 _ h0 r0 =>
      obtain ⟨tg, rfl, htg⟩ := h0
      refine ⟨.ref p, rfl, .ref t, rfl, .ref a3, rfl, a3, _, 0, _, rfl, rfl, SqL.of hva7, atI_nat (j := 0) rfl, t, m, tg, many, ws, ms, g, rfl, hT7, G, htg, hgm, no, fun a8 H8 s8 ha8 => ⟨two, fun L9 nL9 => ?_⟩⟩
      have s9 := same_new (o := .tup [V.str "apart", V.ref a8]) nL9
      have s79 := s8.trans s9
      have s59 := s67.trans s79
      obtain ⟨vl, hvl, pvl⟩ := hLa
      obtain ⟨v8, hv8, pv8⟩ := ha8
      rw [← eL] at pv8
      have hp9 := s59 _ _ h1
      have hl9 := s59 _ _ hvl
      have pl9 := TupG.all (Same.tups s59) pvl
      have hL9 : (upd H8 L9 (.tup [V.str "apart", V.ref a8])) L9 = some (.tup [V.str "apart", V.ref a8]) := upd_same
      have hv9 := s9 _ _ hv8
      have pv9 := TupG.all (Same.tups s9) pv8
      generalize upd H8 L9 (.tup [V.str "apart", V.ref a8]) = H9 at hp9 hl9 pl9 hL9 hv9 pv9 ⊢
      refine ne_same (n := 3) (d := .tuple [.str "apart", .list (L.map fun g => .tuple (g.map PyData.int))]) (.tup (SqT.of hp9) (.cons (.str _) (.cons (.lst (SqL.of hl9) (dp_tups pl9)) .nil))) (.tup (SqT.of hL9) (.cons (.str _) (.cons (.lst (SqL.of hv9) (dp_tups pv9)) .nil))) (sh_apart L) (by decide) ⟨_, rfl, iteF ?_⟩
      have apL : ∀ h ∈ L, h ∈ pairsL many := fun h hh => (behB_apart G.mv hgm no 16 h (by rw [← eL]; exact hh)).1
      refine ⟨.ref p, rfl, p, _, 1, _, rfl, rfl, SqT.of hp9, atI_nat (j := 1) rfl, _, rfl, ⟨_, SqL.of hl9⟩, fun D nD => ?_⟩
      refine lc_list (K := K) (a := a0) (xs := vl) (fun e H' => Same H9 H' ∧ H' D = some (.lst [])) ⟨same_new nD, upd_same⟩ (fun e H' _ h => SqL.of (h.1 _ _ hl9)) ?_ ?_
      · rintro e v H10 hv ⟨s10, hD10⟩
        obtain ⟨h, eh, th, rfl, hth⟩ := paired_getL pl9 hv
        obtain ⟨x1, y1, x10, xy1, ym1, rfl⟩ := mem_pairsL.mp (apL h (List.mem_of_getElem? eh))
        have hth10 := s10 _ _ hth
        refine ⟨rfl, .ref th, rfl, _, _, _, _, _, rfl, .ty _, .base (.tup hth10), kit_tt, _, rfl, iteF ?_⟩
        refine ⟨.ref th, rfl, th, _, 0, _, rfl, rfl, SqT.of hth10, atI_nat (j := 0) rfl, .ref th, rfl, th, _, 1, _, rfl, rfl, SqT.of hth10, atI_nat (j := 1) rfl, rfl, _, rfl, ?_⟩
        exact ite2 (fun c => absurd (of_decide_eq_true c) (fun z => by injection z with z; omega)) (fun _ => ⟨s10, hD10⟩)
      · rintro H10 ⟨s10, hD10⟩
        refine ⟨Nat.zero_le _, fun L11 nL11 => ?_⟩
        exact eq_same (n := 1) (d := .list []) (.lst (SqL.of (same_new nL11 _ _ hD10)) .nil) (.lst (SqL.of upd_same) .nil) (Sh.list fun _ z => nomatch z) (by decide) (q _)
end
/-! ### the end: the table of the generator's def -/
def TabOf (nm : Str) (mg : Str → Option Value) (h : Heap) : Prop := ∃ (a' : Addr) (o' : Obj) (fd' : FuncData) (c' P' : Addr) (oc : Obj) (vc : Array Value), mg nm = some (.ref a') ∧ h.get? a' = some o' ∧ o'.data = .func fd' ∧ fd'.code = .ref c' ∧
  h.get? c' = some oc ∧ oc.data = .fields vc ∧ vc[11]? = some (.ref P') ∧ h.get? P' = some { cls := .none, data := .fields #[] }
theorem walk_tab {l : PySem.W.OpenLaw} {n k : Nat} {q : Program} {loose : List Str} {XP : (Str → Option Value) → Heap → Prop} {YP : World → Heap → Prop} {d : DefRec} {K : Params → PySem.W.Frag} {CX : World → CXT} {x : Str} (nm : Str)
    (hn : l.most = some n) (hn2 : n ≤ sizeLine) (hdf : d.params.defaults = []) (hr : Room k callerA) (hrec : ((recsOf q).any fun e => e.name == nm) = true) (hY : ∀ (w : World) (h : Heap), YP w h → (K w.params).In h)
    (F : ∀ (w : World) (mg : Str → Option Value) (fa : Addr) (h : Heap), (K w.params).In h → h.Ns mainGlobals mg → mg d.name = some (.ref fa) → TabOf nm mg h → LamX.LawAtS l w (K w.params) (CX w) k n x mg fa h)
    (hCX : ∀ (w : World) (H : Hp) (s : Shared) (e : Value) (s' : Shared), CX w [] H s (fun _ _ _ => False) e s' → False) :
    PySem.W.WalkO q loose XP YP l.row.toRowW d [] (fun f vs => PySem.call f vs) := by
  refine Att.attach_callB hn hdf fun w s₀ s₁ mg mb fa o pm cd doc a vs ns G Y ho hd hcd hmg hobj hints hlen hbits hg => ?_
  obtain ⟨dL, m1, m2⟩ := List.any_eq_true.mp hrec
  obtain ⟨a', o', fd', c', P', g1, g2, g3, g4, _, ⟨oc, vc, e1, e2, e3, e4⟩, e5⟩ := G.T.tab dL m1
  rw [beq_iff_eq.mp m2] at g1
  have TO : TabOf nm mg s₁.heap := ⟨a', o', fd', c', P', oc, vc, g1, g2, g3, g4, e1, e3, e4, e5⟩
  obtain ⟨fd, cs, sp, hT, nT, Cd, hb, hsp, hF⟩ := F w mg fa _ (hY w _ Y) G.T.g hmg TO
  exact LamX.law_callTs (hY w _ Y) G.T.g G.T.b G.T.builtins G.T.nolimit hg hT nT Cd G.T.bmain hobj hints (Nat.le_trans hlen hn2) hr hF hb (fun H hH hS => hsp H a ns hlen hbits hH hS) fun H e s' => hCX w H s₁ e s'
theorem walk_tab2 {l : PySem.W.OpenLaw} {n k : Nat} {q : Program} {loose : List Str} {XP : (Str → Option Value) → Heap → Prop} {YP : World → Heap → Prop} {d : DefRec} {K : Params → PySem.W.Frag} {CX : World → CXT} {x : Str} (nm nm2 : Str)
    (hn : l.most = some n) (hn2 : n ≤ sizeLine) (hdf : d.params.defaults = []) (hr : Room k callerA) (hrec : ((recsOf q).any fun e => e.name == nm) = true) (hrec2 : ((recsOf q).any fun e => e.name == nm2) = true) (hY : ∀ (w : World) (h : Heap), YP w h → (K w.params).In h)
    (F : ∀ (w : World) (mg : Str → Option Value) (fa : Addr) (h : Heap), (K w.params).In h → h.Ns mainGlobals mg → mg d.name = some (.ref fa) → TabOf nm mg h → TabOf nm2 mg h → LamX.LawAtS l w (K w.params) (CX w) k n x mg fa h)
    (hCX : ∀ (w : World) (H : Hp) (s : Shared) (e : Value) (s' : Shared), CX w [] H s (fun _ _ _ => False) e s' → False) :
    PySem.W.WalkO q loose XP YP l.row.toRowW d [] (fun f vs => PySem.call f vs) := by
  refine Att.attach_callB hn hdf fun w s₀ s₁ mg mb fa o pm cd doc a vs ns G Y ho hd hcd hmg hobj hints hlen hbits hg => ?_
  have tabs : ∀ {z : Str}, ((recsOf q).any fun e => e.name == z) = true → TabOf z mg s₁.heap := fun {z} hz => by
    obtain ⟨dL, m1, m2⟩ := List.any_eq_true.mp hz
    obtain ⟨a', o', fd', c', P', g1, g2, g3, g4, _, ⟨oc, vc, e1, e2, e3, e4⟩, e5⟩ := G.T.tab dL m1
    rw [beq_iff_eq.mp m2] at g1
    exact ⟨a', o', fd', c', P', oc, vc, g1, g2, g3, g4, e1, e3, e4, e5⟩
  obtain ⟨fd, cs, sp, hT, nT, Cd, hb, hsp, hF⟩ := F w mg fa _ (hY w _ Y) G.T.g hmg (tabs hrec) (tabs hrec2)
  exact LamX.law_callTs (hY w _ Y) G.T.g G.T.b G.T.builtins G.T.nolimit hg hT nT Cd G.T.bmain hobj hints (Nat.le_trans hlen hn2) hr hF hb (fun H hH hS => hsp H a ns hlen hbits hH hS) fun H e s' => hCX w H s₁ e s'
/-! ### what the top has written -/
set_option maxHeartbeats 0 in
theorem all_mk {l : PySem.W.OpenLaw} {w : World} {K : PySem.W.Frag} {h : Heap} {mg : Str → Option Value} {fa : Addr} (X : K.In h) (G : h.Ns mainGlobals mg) (hfa : mg "law" = some (.ref fa)) (TO_is_move : TabOf "_is_move" mg h)
    {f_everywhere : Addr} {od_everywhere an_everywhere : Option Addr} {sl_everywhere : Array (Option Value)} {oc_everywhere kV_everywhere dc_everywhere pm_everywhere ct_everywhere cd_everywhere : Value}
    {f_groups_from : Addr} {od_groups_from an_groups_from : Option Addr} {sl_groups_from : Array (Option Value)} {oc_groups_from kV_groups_from dc_groups_from pm_groups_from ct_groups_from cd_groups_from : Value}
    {f_led_to : Addr} {od_led_to an_led_to : Option Addr} {sl_led_to : Array (Option Value)} {oc_led_to kV_led_to dc_led_to pm_led_to ct_led_to cd_led_to : Value}
    {f_meeting : Addr} {od_meeting an_meeting : Option Addr} {sl_meeting : Array (Option Value)} {oc_meeting kV_meeting dc_meeting pm_meeting ct_meeting cd_meeting : Value}
    {f_first_apart : Addr} {od_first_apart an_first_apart : Option Addr} {sl_first_apart : Array (Option Value)} {oc_first_apart kV_first_apart dc_first_apart pm_first_apart ct_first_apart cd_first_apart : Value}
    {f_row_to_one : Addr} {od_row_to_one an_row_to_one : Option Addr} {sl_row_to_one : Array (Option Value)} {oc_row_to_one kV_row_to_one dc_row_to_one pm_row_to_one ct_row_to_one cd_row_to_one : Value}
    {f_is_move : Addr} {od_is_move an_is_move : Option Addr} {sl_is_move : Array (Option Value)} {oc_is_move kV_is_move dc_is_move pm_is_move ct_is_move : Value}
    {cM_is_move tM_is_move : Addr} {eM_is_move : Value} {ddM_is_move : Option Addr} {vsM_is_move : Array Value} {slM_is_move : Array (Option Value)}
    {f_law_cell : Addr} {od_law_cell an_law_cell : Option Addr} {sl_law_cell : Array (Option Value)} {oc_law_cell kV_law_cell dc_law_cell pm_law_cell ct_law_cell cd_law_cell : Value}
    {f_law_dice : Addr} {od_law_dice an_law_dice : Option Addr} {sl_law_dice : Array (Option Value)} {oc_law_dice kV_law_dice dc_law_dice pm_law_dice ct_law_dice cd_law_dice : Value}
    {f_law_off : Addr} {od_law_off an_law_off : Option Addr} {sl_law_off : Array (Option Value)} {oc_law_off kV_law_off dc_law_off pm_law_off ct_law_off cd_law_off : Value}
    {f_law_chain : Addr} {od_law_chain an_law_chain : Option Addr} {sl_law_chain : Array (Option Value)} {oc_law_chain kV_law_chain dc_law_chain pm_law_chain ct_law_chain cd_law_chain : Value}
    {f_law_made : Addr} {od_law_made an_law_made : Option Addr} {sl_law_made : Array (Option Value)} {oc_law_made kV_law_made dc_law_made pm_law_made ct_law_made cd_law_made : Value}
    {f_law_apart : Addr} {od_law_apart an_law_apart : Option Addr} {sl_law_apart : Array (Option Value)} {oc_law_apart kV_law_apart dc_law_apart pm_law_apart ct_law_apart cd_law_apart : Value}
    {f_law_shortest : Addr} {od_law_shortest an_law_shortest : Option Addr} {sl_law_shortest : Array (Option Value)} {oc_law_shortest kV_law_shortest dc_law_shortest pm_law_shortest ct_law_shortest cd_law_shortest : Value}
    {f_law_behind : Addr} {od_law_behind an_law_behind : Option Addr} {sl_law_behind : Array (Option Value)} {oc_law_behind kV_law_behind dc_law_behind pm_law_behind ct_law_behind cd_law_behind : Value}
    {f_law_permuted : Addr} {od_law_permuted an_law_permuted : Option Addr} {sl_law_permuted : Array (Option Value)} {oc_law_permuted kV_law_permuted dc_law_permuted pm_law_permuted ct_law_permuted cd_law_permuted : Value}
    {f_law : Addr} {od_law an_law : Option Addr} {sl_law : Array (Option Value)} {oc_law kV_law dc_law pm_law ct_law cd_law : Value}
    {C : Addr}
    {f_minit : Addr} {od_minit an_minit : Option Addr} {sl_minit : Array (Option Value)} {oc_minit kV_minit dc_minit pm_minit cd_minit ct_minit : Value}
    {f_mplaces : Addr} {od_mplaces an_mplaces : Option Addr} {sl_mplaces : Array (Option Value)} {oc_mplaces kV_mplaces dc_mplaces pm_mplaces cd_mplaces ct_mplaces : Value}
    {f_mtold : Addr} {od_mtold an_mtold : Option Addr} {sl_mtold : Array (Option Value)} {oc_mtold kV_mtold dc_mtold pm_mtold cd_mtold ct_mtold : Value}
    {tMOST_PLACES : Tok}
    {tMOST_MOVES : Tok}
    {tMOST_WEIGHT : Tok}
    (a_everywhere : PySem.W.nsIn K mainGlobals "everywhere" = some (some (.ref f_everywhere)))
    (l_everywhere : K.lookup f_everywhere = some ⟨oc_everywhere, od_everywhere, .func (PySem.W.fnOf "everywhere" "everywhere" (defArgs sEverywhere) (defBody sEverywhere) (defScope sEverywhere) .none kV_everywhere dc_everywhere pm_everywhere an_everywhere cd_everywhere ct_everywhere), sl_everywhere⟩)
    (c_everywhere : PySem.W.codeIn K cd_everywhere "everywhere" = true)
    (k_everywhere : PySem.W.keepIn K (.ref f_everywhere) = true)
    (a_groups_from : PySem.W.nsIn K mainGlobals "groups_from" = some (some (.ref f_groups_from)))
    (l_groups_from : K.lookup f_groups_from = some ⟨oc_groups_from, od_groups_from, .func (PySem.W.fnOf "groups_from" "groups_from" (defArgs sGroupsFrom) (defBody sGroupsFrom) (defScope sGroupsFrom) .none kV_groups_from dc_groups_from pm_groups_from an_groups_from cd_groups_from ct_groups_from), sl_groups_from⟩)
    (c_groups_from : PySem.W.codeIn K cd_groups_from "groups_from" = true)
    (k_groups_from : PySem.W.keepIn K (.ref f_groups_from) = true)
    (a_led_to : PySem.W.nsIn K mainGlobals "led_to" = some (some (.ref f_led_to)))
    (l_led_to : K.lookup f_led_to = some ⟨oc_led_to, od_led_to, .func (PySem.W.fnOf "led_to" "led_to" (defArgs sLedTo) (defBody sLedTo) (defScope sLedTo) .none kV_led_to dc_led_to pm_led_to an_led_to cd_led_to ct_led_to), sl_led_to⟩)
    (c_led_to : PySem.W.codeIn K cd_led_to "led_to" = true)
    (k_led_to : PySem.W.keepIn K (.ref f_led_to) = true)
    (a_meeting : PySem.W.nsIn K mainGlobals "meeting" = some (some (.ref f_meeting)))
    (l_meeting : K.lookup f_meeting = some ⟨oc_meeting, od_meeting, .func (PySem.W.fnOf "meeting" "meeting" (defArgs sMeeting) (defBody sMeeting) (defScope sMeeting) .none kV_meeting dc_meeting pm_meeting an_meeting cd_meeting ct_meeting), sl_meeting⟩)
    (c_meeting : PySem.W.codeIn K cd_meeting "meeting" = true)
    (k_meeting : PySem.W.keepIn K (.ref f_meeting) = true)
    (a_first_apart : PySem.W.nsIn K mainGlobals "_first_apart" = some (some (.ref f_first_apart)))
    (l_first_apart : K.lookup f_first_apart = some ⟨oc_first_apart, od_first_apart, .func (PySem.W.fnOf "_first_apart" "_first_apart" (defArgs sFirstApart) (defBody sFirstApart) (defScope sFirstApart) .none kV_first_apart dc_first_apart pm_first_apart an_first_apart cd_first_apart ct_first_apart), sl_first_apart⟩)
    (c_first_apart : PySem.W.codeIn K cd_first_apart "_first_apart" = true)
    (k_first_apart : PySem.W.keepIn K (.ref f_first_apart) = true)
    (a_row_to_one : PySem.W.nsIn K mainGlobals "_row_to_one" = some (some (.ref f_row_to_one)))
    (l_row_to_one : K.lookup f_row_to_one = some ⟨oc_row_to_one, od_row_to_one, .func (PySem.W.fnOf "_row_to_one" "_row_to_one" (defArgs sRowToOne) (defBody sRowToOne) (defScope sRowToOne) .none kV_row_to_one dc_row_to_one pm_row_to_one an_row_to_one cd_row_to_one ct_row_to_one), sl_row_to_one⟩)
    (c_row_to_one : PySem.W.codeIn K cd_row_to_one "_row_to_one" = true)
    (k_row_to_one : PySem.W.keepIn K (.ref f_row_to_one) = true)
    (a_is_move : PySem.W.nsIn K mainGlobals "_is_move" = some (some (.ref f_is_move)))
    (l_is_move : K.lookup f_is_move = some ⟨oc_is_move, od_is_move, .func (PySem.W.fnOf "_is_move" "_is_move" (defArgs sIsMove) (defBody sIsMove) (defScope sIsMove) .none kV_is_move dc_is_move pm_is_move an_is_move (.ref cM_is_move) ct_is_move), sl_is_move⟩)
    (c_is_move : PySem.W.codeIn K (.ref cM_is_move) "_is_move" = true)
    (k_is_move : PySem.W.keepIn K (.ref f_is_move) = true)
    (a_law_cell : PySem.W.nsIn K mainGlobals "_law_cell" = some (some (.ref f_law_cell)))
    (l_law_cell : K.lookup f_law_cell = some ⟨oc_law_cell, od_law_cell, .func (PySem.W.fnOf "_law_cell" "_law_cell" (defArgs sCell) (defBody sCell) (defScope sCell) .none kV_law_cell dc_law_cell pm_law_cell an_law_cell cd_law_cell ct_law_cell), sl_law_cell⟩)
    (c_law_cell : PySem.W.codeIn K cd_law_cell "_law_cell" = true)
    (k_law_cell : PySem.W.keepIn K (.ref f_law_cell) = true)
    (a_law_dice : PySem.W.nsIn K mainGlobals "_law_dice" = some (some (.ref f_law_dice)))
    (l_law_dice : K.lookup f_law_dice = some ⟨oc_law_dice, od_law_dice, .func (PySem.W.fnOf "_law_dice" "_law_dice" (defArgs sDice) (defBody sDice) (defScope sDice) .none kV_law_dice dc_law_dice pm_law_dice an_law_dice cd_law_dice ct_law_dice), sl_law_dice⟩)
    (c_law_dice : PySem.W.codeIn K cd_law_dice "_law_dice" = true)
    (k_law_dice : PySem.W.keepIn K (.ref f_law_dice) = true)
    (a_law_off : PySem.W.nsIn K mainGlobals "_law_off" = some (some (.ref f_law_off)))
    (l_law_off : K.lookup f_law_off = some ⟨oc_law_off, od_law_off, .func (PySem.W.fnOf "_law_off" "_law_off" (defArgs sOff) (defBody sOff) (defScope sOff) .none kV_law_off dc_law_off pm_law_off an_law_off cd_law_off ct_law_off), sl_law_off⟩)
    (c_law_off : PySem.W.codeIn K cd_law_off "_law_off" = true)
    (k_law_off : PySem.W.keepIn K (.ref f_law_off) = true)
    (a_law_chain : PySem.W.nsIn K mainGlobals "_law_chain" = some (some (.ref f_law_chain)))
    (l_law_chain : K.lookup f_law_chain = some ⟨oc_law_chain, od_law_chain, .func (PySem.W.fnOf "_law_chain" "_law_chain" (defArgs sChain) (defBody sChain) (defScope sChain) .none kV_law_chain dc_law_chain pm_law_chain an_law_chain cd_law_chain ct_law_chain), sl_law_chain⟩)
    (c_law_chain : PySem.W.codeIn K cd_law_chain "_law_chain" = true)
    (k_law_chain : PySem.W.keepIn K (.ref f_law_chain) = true)
    (a_law_made : PySem.W.nsIn K mainGlobals "_law_made" = some (some (.ref f_law_made)))
    (l_law_made : K.lookup f_law_made = some ⟨oc_law_made, od_law_made, .func (PySem.W.fnOf "_law_made" "_law_made" (defArgs sMade) (defBody sMade) (defScope sMade) .none kV_law_made dc_law_made pm_law_made an_law_made cd_law_made ct_law_made), sl_law_made⟩)
    (c_law_made : PySem.W.codeIn K cd_law_made "_law_made" = true)
    (k_law_made : PySem.W.keepIn K (.ref f_law_made) = true)
    (a_law_apart : PySem.W.nsIn K mainGlobals "_law_apart" = some (some (.ref f_law_apart)))
    (l_law_apart : K.lookup f_law_apart = some ⟨oc_law_apart, od_law_apart, .func (PySem.W.fnOf "_law_apart" "_law_apart" (defArgs sLawApart) (defBody sLawApart) (defScope sLawApart) .none kV_law_apart dc_law_apart pm_law_apart an_law_apart cd_law_apart ct_law_apart), sl_law_apart⟩)
    (c_law_apart : PySem.W.codeIn K cd_law_apart "_law_apart" = true)
    (k_law_apart : PySem.W.keepIn K (.ref f_law_apart) = true)
    (a_law_shortest : PySem.W.nsIn K mainGlobals "_law_shortest" = some (some (.ref f_law_shortest)))
    (l_law_shortest : K.lookup f_law_shortest = some ⟨oc_law_shortest, od_law_shortest, .func (PySem.W.fnOf "_law_shortest" "_law_shortest" (defArgs sLawShortest) (defBody sLawShortest) (defScope sLawShortest) .none kV_law_shortest dc_law_shortest pm_law_shortest an_law_shortest cd_law_shortest ct_law_shortest), sl_law_shortest⟩)
    (c_law_shortest : PySem.W.codeIn K cd_law_shortest "_law_shortest" = true)
    (k_law_shortest : PySem.W.keepIn K (.ref f_law_shortest) = true)
    (a_law_behind : PySem.W.nsIn K mainGlobals "_law_behind" = some (some (.ref f_law_behind)))
    (l_law_behind : K.lookup f_law_behind = some ⟨oc_law_behind, od_law_behind, .func (PySem.W.fnOf "_law_behind" "_law_behind" (defArgs sLawBehind) (defBody sLawBehind) (defScope sLawBehind) .none kV_law_behind dc_law_behind pm_law_behind an_law_behind cd_law_behind ct_law_behind), sl_law_behind⟩)
    (c_law_behind : PySem.W.codeIn K cd_law_behind "_law_behind" = true)
    (k_law_behind : PySem.W.keepIn K (.ref f_law_behind) = true)
    (a_law_permuted : PySem.W.nsIn K mainGlobals "_law_permuted" = some (some (.ref f_law_permuted)))
    (l_law_permuted : K.lookup f_law_permuted = some ⟨oc_law_permuted, od_law_permuted, .func (PySem.W.fnOf "_law_permuted" "_law_permuted" (defArgs sLawPermuted) (defBody sLawPermuted) (defScope sLawPermuted) .none kV_law_permuted dc_law_permuted pm_law_permuted an_law_permuted cd_law_permuted ct_law_permuted), sl_law_permuted⟩)
    (c_law_permuted : PySem.W.codeIn K cd_law_permuted "_law_permuted" = true)
    (k_law_permuted : PySem.W.keepIn K (.ref f_law_permuted) = true)
    (a_law : PySem.W.nsIn K mainGlobals "law" = some (some (.ref f_law)))
    (l_law : K.lookup f_law = some ⟨oc_law, od_law, .func (PySem.W.fnOf "law" "law" (defArgs sLaw) (defBody sLaw) (defScope sLaw) .none kV_law dc_law pm_law an_law cd_law ct_law), sl_law⟩)
    (c_law : PySem.W.codeIn K cd_law "law" = true)
    (k_law : PySem.W.keepIn K (.ref f_law) = true)
    (aC : PySem.W.nsIn K mainGlobals "Chain" = some (some (.ref C)))
    (a_minit : PySem.W.findIn K (.ref C) "__init__" = some (some (.ref f_minit)))
    (i_minit : PySem.W.isFn K (.ref f_minit) = true)
    (l_minit : K.lookup f_minit = some ⟨oc_minit, od_minit, .func (PySem.W.fnOf "__init__" "Chain.__init__" (defArgs (inClass cChain 0)) (defBody (inClass cChain 0)) (defScope (inClass cChain 0)) .none kV_minit dc_minit pm_minit an_minit cd_minit ct_minit), sl_minit⟩)
    (c_minit : PySem.W.codeIn K cd_minit "Chain.__init__" = true)
    (k_minit : PySem.W.keepIn K (.ref f_minit) = true)
    (a_mplaces : PySem.W.findIn K (.ref C) "places" = some (some (.ref f_mplaces)))
    (i_mplaces : PySem.W.isFn K (.ref f_mplaces) = true)
    (l_mplaces : K.lookup f_mplaces = some ⟨oc_mplaces, od_mplaces, .func (PySem.W.fnOf "places" "Chain.places" (defArgs (inClass cChain 1)) (defBody (inClass cChain 1)) (defScope (inClass cChain 1)) .none kV_mplaces dc_mplaces pm_mplaces an_mplaces cd_mplaces ct_mplaces), sl_mplaces⟩)
    (c_mplaces : PySem.W.codeIn K cd_mplaces "Chain.places" = true)
    (k_mplaces : PySem.W.keepIn K (.ref f_mplaces) = true)
    (a_mtold : PySem.W.findIn K (.ref C) "told" = some (some (.ref f_mtold)))
    (i_mtold : PySem.W.isFn K (.ref f_mtold) = true)
    (l_mtold : K.lookup f_mtold = some ⟨oc_mtold, od_mtold, .func (PySem.W.fnOf "told" "Chain.told" (defArgs (inClass cChain 2)) (defBody (inClass cChain 2)) (defScope (inClass cChain 2)) .none kV_mtold dc_mtold pm_mtold an_mtold cd_mtold ct_mtold), sl_mtold⟩)
    (c_mtold : PySem.W.codeIn K cd_mtold "Chain.told" = true)
    (k_mtold : PySem.W.keepIn K (.ref f_mtold) = true)
    (pg : PySem.W.plainGet K C Str.empty = true)
    (hd : PySem.W.hasDictIn K C = true)
    (po : PySem.W.plainOver K C = true)
    (sa : PySem.W.findIn K (.ref C) "__setattr__" = some (some (.builtin "object.__setattr__")))
    (mk : PySem.W.makesIn K C = true)
    (kc : PySem.W.keepIn K (.ref C) = true)
    (nM : PySem.W.findIn K (.ref C) "_many" = some none)
    (nV : PySem.W.findIn K (.ref C) "_moves" = some none)
    (gMOST_PLACES : PySem.W.nsIn K mainGlobals "MOST_PLACES" = some (some (.int 6 tMOST_PLACES)))
    (gMOST_MOVES : PySem.W.nsIn K mainGlobals "MOST_MOVES" = some (some (.int 8 tMOST_MOVES)))
    (gMOST_WEIGHT : PySem.W.nsIn K mainGlobals "MOST_WEIGHT" = some (some (.int 99 tMOST_WEIGHT)))
    (zlen : PySem.W.nsIn K mainGlobals "len" = some none)
    (zabs : PySem.W.nsIn K mainGlobals "abs" = some none)
    (zmax : PySem.W.nsIn K mainGlobals "max" = some none)
    (zmin : PySem.W.nsIn K mainGlobals "min" = some none)
    (zint : PySem.W.nsIn K mainGlobals "int" = some none)
    (zrange : PySem.W.nsIn K mainGlobals "range" = some none)
    (zsorted : PySem.W.nsIn K mainGlobals "sorted" = some none)
    (ztuple : PySem.W.nsIn K mainGlobals "tuple" = some none)
    (zisinstance : PySem.W.nsIn K mainGlobals "isinstance" = some none)
    (zall : PySem.W.nsIn K mainGlobals "all" = some none)
    (zenumerate : PySem.W.nsIn K mainGlobals "enumerate" = some none)
    (zlist : PySem.W.nsIn K mainGlobals "list" = some none)
    (zset : PySem.W.nsIn K mainGlobals "set" = some none)
    (zValueError : PySem.W.nsIn K mainGlobals "ValueError" = some none)
    (gcomb : PySem.W.nsIn K mainGlobals "combinations" = some (some (.type "itertools.combinations")))
    (lM_is_move : K.lookup cM_is_move = some ⟨eM_is_move, ddM_is_move, .fields vsM_is_move, slM_is_move⟩)
    (vM_is_move : vsM_is_move[11]? = some (.ref tM_is_move))
    (hM_is_move : PySem.W.codeHdIn K cM_is_move tM_is_move = true)
    (nT_is_move : K.lookup tM_is_move = none) :
    LamX.LawAtS l w K CX0 6 63 "_law_script" mg fa h := by
  have e := hfa.symm.trans (PySem.W.mg_of X G a_law)
  cases e
  have F_everywhere := fun_mk (st := sEverywhere) l_everywhere c_everywhere k_everywhere
  have b_everywhere := F_everywhere.binds (ps := ["chain"]) fun _ _ _ _ _ _ us hl => match us, hl with | [_], _ => rfl
  have g_everywhere := PySem.W.mg_of X G a_everywhere
  have D_everywhere : Df K mg "everywhere" sEverywhere ["chain"] f_everywhere _ := ⟨F_everywhere, b_everywhere, g_everywhere⟩
  have F_groups_from := fun_mk (st := sGroupsFrom) l_groups_from c_groups_from k_groups_from
  have b_groups_from := F_groups_from.binds (ps := ["moves", "begin"]) fun _ _ _ _ _ _ us hl => match us, hl with | [_, _], _ => rfl
  have g_groups_from := PySem.W.mg_of X G a_groups_from
  have D_groups_from : Df K mg "groups_from" sGroupsFrom ["moves", "begin"] f_groups_from _ := ⟨F_groups_from, b_groups_from, g_groups_from⟩
  have F_led_to := fun_mk (st := sLedTo) l_led_to c_led_to k_led_to
  have b_led_to := F_led_to.binds (ps := ["whither", "group"]) fun _ _ _ _ _ _ us hl => match us, hl with | [_, _], _ => rfl
  have g_led_to := PySem.W.mg_of X G a_led_to
  have D_led_to : Df K mg "led_to" sLedTo ["whither", "group"] f_led_to _ := ⟨F_led_to, b_led_to, g_led_to⟩
  have F_meeting := fun_mk (st := sMeeting) l_meeting c_meeting k_meeting
  have b_meeting := F_meeting.binds (ps := ["chain"]) fun _ _ _ _ _ _ us hl => match us, hl with | [_], _ => rfl
  have g_meeting := PySem.W.mg_of X G a_meeting
  have D_meeting : Df K mg "meeting" sMeeting ["chain"] f_meeting _ := ⟨F_meeting, b_meeting, g_meeting⟩
  have F_first_apart := fun_mk (st := sFirstApart) l_first_apart c_first_apart k_first_apart
  have b_first_apart := F_first_apart.binds (ps := ["chain"]) fun _ _ _ _ _ _ us hl => match us, hl with | [_], _ => rfl
  have g_first_apart := PySem.W.mg_of X G a_first_apart
  have D_first_apart : Df K mg "_first_apart" sFirstApart ["chain"] f_first_apart _ := ⟨F_first_apart, b_first_apart, g_first_apart⟩
  have F_row_to_one := fun_mk (st := sRowToOne) l_row_to_one c_row_to_one k_row_to_one
  have b_row_to_one := F_row_to_one.binds (ps := ["moves", "group"]) fun _ _ _ _ _ _ us hl => match us, hl with | [_, _], _ => rfl
  have g_row_to_one := PySem.W.mg_of X G a_row_to_one
  have D_row_to_one : Df K mg "_row_to_one" sRowToOne ["moves", "group"] f_row_to_one _ := ⟨F_row_to_one, b_row_to_one, g_row_to_one⟩
  have FM_is_move : FunT K "_is_move" "_is_move" sIsMove f_is_move _ cM_is_move := ⟨⟨_, _, _, _, _, _, _, _, rfl, l_is_move, c_is_move⟩, k_is_move⟩
  have F_is_move := fun_mk (st := sIsMove) l_is_move c_is_move k_is_move
  have b_is_move := F_is_move.binds (ps := ["many", "move"]) fun _ _ _ _ _ _ us hl => match us, hl with | [_, _], _ => rfl
  have g_is_move := PySem.W.mg_of X G a_is_move
  have D_is_move : Df K mg "_is_move" sIsMove ["many", "move"] f_is_move _ := ⟨F_is_move, b_is_move, g_is_move⟩
  have F_law_cell := fun_mk (st := sCell) l_law_cell c_law_cell k_law_cell
  have b_law_cell := F_law_cell.binds (ps := ["_law_script", "_law_k"]) fun _ _ _ _ _ _ us hl => match us, hl with | [_, _], _ => rfl
  have g_law_cell := PySem.W.mg_of X G a_law_cell
  have D_law_cell : Df K mg "_law_cell" sCell ["_law_script", "_law_k"] f_law_cell _ := ⟨F_law_cell, b_law_cell, g_law_cell⟩
  have F_law_dice := fun_mk (st := sDice) l_law_dice c_law_dice k_law_dice
  have b_law_dice := F_law_dice.binds (ps := ["_law_script", "_law_k"]) fun _ _ _ _ _ _ us hl => match us, hl with | [_, _], _ => rfl
  have g_law_dice := PySem.W.mg_of X G a_law_dice
  have D_law_dice : Df K mg "_law_dice" sDice ["_law_script", "_law_k"] f_law_dice _ := ⟨F_law_dice, b_law_dice, g_law_dice⟩
  have F_law_off := fun_mk (st := sOff) l_law_off c_law_off k_law_off
  have b_law_off := F_law_off.binds (ps := ["_law_d", "_law_most"]) fun _ _ _ _ _ _ us hl => match us, hl with | [_, _], _ => rfl
  have g_law_off := PySem.W.mg_of X G a_law_off
  have D_law_off : Df K mg "_law_off" sOff ["_law_d", "_law_most"] f_law_off _ := ⟨F_law_off, b_law_off, g_law_off⟩
  have F_law_chain := fun_mk (st := sChain) l_law_chain c_law_chain k_law_chain
  have b_law_chain := F_law_chain.binds (ps := ["_law_d", "_law_most"]) fun _ _ _ _ _ _ us hl => match us, hl with | [_, _], _ => rfl
  have g_law_chain := PySem.W.mg_of X G a_law_chain
  have D_law_chain : Df K mg "_law_chain" sChain ["_law_d", "_law_most"] f_law_chain _ := ⟨F_law_chain, b_law_chain, g_law_chain⟩
  have F_law_made := fun_mk (st := sMade) l_law_made c_law_made k_law_made
  have b_law_made := F_law_made.binds (ps := ["_law_told"]) fun _ _ _ _ _ _ us hl => match us, hl with | [_], _ => rfl
  have g_law_made := PySem.W.mg_of X G a_law_made
  have D_law_made : Df K mg "_law_made" sMade ["_law_told"] f_law_made _ := ⟨F_law_made, b_law_made, g_law_made⟩
  have F_law_apart := fun_mk (st := sLawApart) l_law_apart c_law_apart k_law_apart
  have b_law_apart := F_law_apart.binds (ps := ["_law_told"]) fun _ _ _ _ _ _ us hl => match us, hl with | [_], _ => rfl
  have g_law_apart := PySem.W.mg_of X G a_law_apart
  have D_law_apart : Df K mg "_law_apart" sLawApart ["_law_told"] f_law_apart _ := ⟨F_law_apart, b_law_apart, g_law_apart⟩
  have F_law_shortest := fun_mk (st := sLawShortest) l_law_shortest c_law_shortest k_law_shortest
  have b_law_shortest := F_law_shortest.binds (ps := ["_law_told"]) fun _ _ _ _ _ _ us hl => match us, hl with | [_], _ => rfl
  have g_law_shortest := PySem.W.mg_of X G a_law_shortest
  have D_law_shortest : Df K mg "_law_shortest" sLawShortest ["_law_told"] f_law_shortest _ := ⟨F_law_shortest, b_law_shortest, g_law_shortest⟩
  have F_law_behind := fun_mk (st := sLawBehind) l_law_behind c_law_behind k_law_behind
  have b_law_behind := F_law_behind.binds (ps := ["_law_told", "_law_pair"]) fun _ _ _ _ _ _ us hl => match us, hl with | [_, _], _ => rfl
  have g_law_behind := PySem.W.mg_of X G a_law_behind
  have D_law_behind : Df K mg "_law_behind" sLawBehind ["_law_told", "_law_pair"] f_law_behind _ := ⟨F_law_behind, b_law_behind, g_law_behind⟩
  have F_law_permuted := fun_mk (st := sLawPermuted) l_law_permuted c_law_permuted k_law_permuted
  have b_law_permuted := F_law_permuted.binds (ps := ["_law_d"]) fun _ _ _ _ _ _ us hl => match us, hl with | [_], _ => rfl
  have g_law_permuted := PySem.W.mg_of X G a_law_permuted
  have D_law_permuted : Df K mg "_law_permuted" sLawPermuted ["_law_d"] f_law_permuted _ := ⟨F_law_permuted, b_law_permuted, g_law_permuted⟩
  have F_law := fun_mk (st := sLaw) l_law c_law k_law
  have g_law := PySem.W.mg_of X G a_law
  have F_minit := fun_mk (st := inClass cChain 0) l_minit c_minit k_minit
  have b_minit := F_minit.binds (ps := ["self", "many", "moves"]) fun _ _ _ _ _ _ us hl => match us, hl with | [_, _, _], _ => rfl
  have F_mplaces := fun_mk (st := inClass cChain 1) l_mplaces c_mplaces k_mplaces
  have b_mplaces := F_mplaces.binds (ps := ["self"]) fun _ _ _ _ _ _ us hl => match us, hl with | [_], _ => rfl
  have F_mtold := fun_mk (st := inClass cChain 2) l_mtold c_mtold k_mtold
  have b_mtold := F_mtold.binds (ps := ["self"]) fun _ _ _ _ _ _ us hl => match us, hl with | [_], _ => rfl
  have gC := PySem.W.mg_of X G aC
  have GMOST_PLACES := PySem.W.mg_of X G gMOST_PLACES
  have GMOST_MOVES := PySem.W.mg_of X G gMOST_MOVES
  have GMOST_WEIGHT := PySem.W.mg_of X G gMOST_WEIGHT
  have Zlen := PySem.W.mg_none_of X G zlen
  have Zabs := PySem.W.mg_none_of X G zabs
  have Zmax := PySem.W.mg_none_of X G zmax
  have Zmin := PySem.W.mg_none_of X G zmin
  have Zint := PySem.W.mg_none_of X G zint
  have Zrange := PySem.W.mg_none_of X G zrange
  have Zsorted := PySem.W.mg_none_of X G zsorted
  have Ztuple := PySem.W.mg_none_of X G ztuple
  have Zisinstance := PySem.W.mg_none_of X G zisinstance
  have Zall := PySem.W.mg_none_of X G zall
  have Zenumerate := PySem.W.mg_none_of X G zenumerate
  have Zlist := PySem.W.mg_none_of X G zlist
  have Zset := PySem.W.mg_none_of X G zset
  have ZValueError := PySem.W.mg_none_of X G zValueError
  have tabE_is_move : h.get? tM_is_move = some { cls := .none, data := .fields #[] } := by
    obtain ⟨a', o', fd', c', P', oc, vc, g1, g2, g3, g4, e1, e3, e4, e5⟩ := TO_is_move
    rw [g_is_move] at g1
    cases g1
    have q1 := X _ _ l_is_move
    rw [q1] at g2
    cases g2
    cases g3
    cases g4
    have q2 := X _ _ lM_is_move
    rw [q2] at e1
    cases e1
    cases e3
    rw [vM_is_move] at e4
    cases e4
    exact e5
  have LT : LawTxt K mg f_law_cell f_law_dice f_law_off _ _ _ := ⟨F_law_cell, b_law_cell, g_law_cell, F_law_dice, b_law_dice, g_law_dice, F_law_off, b_law_off, g_law_off, Zlen, Zabs, Zmax, Zmin, Zint, Zrange, Zsorted, Ztuple⟩
  have CL' : Cls K C := ⟨pg, hd, po, sa⟩
  have CH : ChTxt K mg f_is_move cM_is_move tM_is_move _ C f_minit _ := ⟨FM_is_move, b_is_move, g_is_move, F_minit, b_minit, ⟨mk, a_minit, i_minit, kc⟩, CL', nM, nV, gC, ⟨_, GMOST_PLACES⟩, ⟨_, GMOST_MOVES⟩, ⟨_, GMOST_WEIGHT⟩, Zlen, Zisinstance, Ztuple, Zrange, Zall, Zenumerate, Zlist⟩
  have CM : ChM K C f_mplaces f_mtold _ _ := ⟨F_mplaces, b_mplaces, ⟨a_mplaces, i_mplaces, k_mplaces⟩, F_mtold, b_mtold, ⟨a_mtold, i_mtold, k_mtold⟩, CL', nM, nV⟩
  refine ⟨PySem.W.fnOf "law" "law" (defArgs sLaw) (defBody sLaw) (defScope sLaw) .none kV_law dc_law pm_law an_law cd_law ct_law, [(cM_is_move, tM_is_move)], spLaw K tM_is_move, fun p hp => ?_, fun p hp => ?_, fun p hp => ?_, fun s v => .of_eq rfl, fun H a ns hl hbits hT hS => ?_, fun base hK hG hTB => ?_⟩
  · have e : p = (cM_is_move, tM_is_move) := by simpa using hp
    rw [e]
    exact tabE_is_move
  · have e : p = (cM_is_move, tM_is_move) := by simpa using hp
    rw [e]
    exact nT_is_move
  · have e : p = (cM_is_move, tM_is_move) := by simpa using hp
    rw [e]
    exact PySem.W.codeHd_of_K X hM_is_move
  · exact ⟨a, ns, rfl, hS, hl, ⟨#[], hT (cM_is_move, tM_is_move) (by simp), by simp [TriplesOk]⟩, fun _ => rfl⟩
  · have TBx := hTB (cM_is_move, tM_is_move) (by simp)
    have TB : GxR.TabB base mg cM_is_move tM_is_move := ⟨TBx.code, TBx.bm, TBx.gP⟩
    have GG : FnOk l.prog w K mg base CX0 2 f_groups_from _ ["moves", "begin"] spGf := ok_gf F_groups_from D_led_to Zlen Zenumerate Ztuple Zsorted
    have GRt : FnOk l.prog w K mg base CX0 3 f_row_to_one _ ["moves", "group"] spRt := ok_rt F_row_to_one D_groups_from GG Zlen
    have GFa : FnOk l.prog w K mg base CX0 4 f_first_apart _ ["chain"] (spFa C) := ok_fa F_first_apart D_row_to_one GRt CM Zlist Zrange (PySem.W.mg_of X G gcomb)
    have GEv : FnOk l.prog w K mg base CX0 2 f_everywhere _ ["chain"] (spEv C) := ok_ev F_everywhere CM Ztuple Zrange
    have GMt : FnOk l.prog w K mg base CX0 5 f_meeting _ ["chain"] (spMt C) := ok_mt F_meeting D_row_to_one GRt D_groups_from GG D_everywhere GEv D_first_apart GFa CM Zlist Zsorted
    have GM : FnOk l.prog w K mg base CX0 4 f_law_made _ ["_law_told"] (spMade C tM_is_move) := ok_made F_law_made CH TB
    exact ok_law F_law LT D_law_chain D_law_made D_law_permuted D_meeting D_law_apart D_law_shortest D_law_behind GM GMt Zlist Zsorted Zset Zisinstance
end Lg
open PySem PySem.W PyProof.Rows
set_option maxRecDepth 100000 in
set_option maxHeartbeats 0 in
theorem PySem.Challenge.cw_longago_k11_whole_together_or_apart_holds : PySem.Challenge.rw_longago_k11_whole_together_or_apart.Holds := by
  w_on; o_law; k_head; (case hw => w_witness2)
  k_fill
  refine Lg.walk_tab (l := PySem.Challenge.rw_longago_k11_whole_together_or_apart) (n := 63) (k := 6) (x := "_law_script") (CX := fun _ => L2.CX0) "_is_move" rfl (by decide) rfl ⟨rfl, by decide, by decide⟩ (by decide +kernel) (fun w h Y => PySem.W.kIn_of Y) ?F (fun _ _ _ _ _ z => z)
  case F =>
    intro w mg fa h KX G hmg TO0
    refine' Lg.all_mk KX G hmg TO0 ?a_everywhere ?l_everywhere ?c_everywhere ?k_everywhere ?a_groups_from ?l_groups_from ?c_groups_from ?k_groups_from ?a_led_to ?l_led_to ?c_led_to ?k_led_to ?a_meeting ?l_meeting ?c_meeting ?k_meeting ?a_first_apart ?l_first_apart ?c_first_apart ?k_first_apart ?a_row_to_one ?l_row_to_one ?c_row_to_one ?k_row_to_one ?a_is_move ?l_is_move ?c_is_move ?k_is_move ?a_law_cell ?l_law_cell ?c_law_cell ?k_law_cell ?a_law_dice ?l_law_dice ?c_law_dice ?k_law_dice ?a_law_off ?l_law_off ?c_law_off ?k_law_off ?a_law_chain ?l_law_chain ?c_law_chain ?k_law_chain ?a_law_made ?l_law_made ?c_law_made ?k_law_made ?a_law_apart ?l_law_apart ?c_law_apart ?k_law_apart ?a_law_shortest ?l_law_shortest ?c_law_shortest ?k_law_shortest ?a_law_behind ?l_law_behind ?c_law_behind ?k_law_behind ?a_law_permuted ?l_law_permuted ?c_law_permuted ?k_law_permuted ?a_law ?l_law ?c_law ?k_law ?aC ?a_minit ?i_minit ?l_minit ?c_minit ?k_minit ?a_mplaces ?i_mplaces ?l_mplaces ?c_mplaces ?k_mplaces ?a_mtold ?i_mtold ?l_mtold ?c_mtold ?k_mtold ?pg ?hd ?po ?sa ?mk ?kc ?nM ?nV ?gMOST_PLACES ?gMOST_MOVES ?gMOST_WEIGHT ?zlen ?zabs ?zmax ?zmin ?zint ?zrange ?zsorted ?ztuple ?zisinstance ?zall ?zenumerate ?zlist ?zset ?zValueError ?gcomb ?lM_is_move ?vM_is_move ?hM_is_move ?nT_is_move
    (case a_everywhere => k_is)
    (case l_everywhere => k_is)
    (case c_everywhere => k_is)
    (case k_everywhere => k_is)
    (case a_groups_from => k_is)
    (case l_groups_from => k_is)
    (case c_groups_from => k_is)
    (case k_groups_from => k_is)
    (case a_led_to => k_is)
    (case l_led_to => k_is)
    (case c_led_to => k_is)
    (case k_led_to => k_is)
    (case a_meeting => k_is)
    (case l_meeting => k_is)
    (case c_meeting => k_is)
    (case k_meeting => k_is)
    (case a_first_apart => k_is)
    (case l_first_apart => k_is)
    (case c_first_apart => k_is)
    (case k_first_apart => k_is)
    (case a_row_to_one => k_is)
    (case l_row_to_one => k_is)
    (case c_row_to_one => k_is)
    (case k_row_to_one => k_is)
    (case a_is_move => k_is)
    (case l_is_move => k_is)
    (case c_is_move => k_is)
    (case k_is_move => k_is)
    (case a_law_cell => k_is)
    (case l_law_cell => k_is)
    (case c_law_cell => k_is)
    (case k_law_cell => k_is)
    (case a_law_dice => k_is)
    (case l_law_dice => k_is)
    (case c_law_dice => k_is)
    (case k_law_dice => k_is)
    (case a_law_off => k_is)
    (case l_law_off => k_is)
    (case c_law_off => k_is)
    (case k_law_off => k_is)
    (case a_law_chain => k_is)
    (case l_law_chain => k_is)
    (case c_law_chain => k_is)
    (case k_law_chain => k_is)
    (case a_law_made => k_is)
    (case l_law_made => k_is)
    (case c_law_made => k_is)
    (case k_law_made => k_is)
    (case a_law_apart => k_is)
    (case l_law_apart => k_is)
    (case c_law_apart => k_is)
    (case k_law_apart => k_is)
    (case a_law_shortest => k_is)
    (case l_law_shortest => k_is)
    (case c_law_shortest => k_is)
    (case k_law_shortest => k_is)
    (case a_law_behind => k_is)
    (case l_law_behind => k_is)
    (case c_law_behind => k_is)
    (case k_law_behind => k_is)
    (case a_law_permuted => k_is)
    (case l_law_permuted => k_is)
    (case c_law_permuted => k_is)
    (case k_law_permuted => k_is)
    (case a_law => k_is)
    (case l_law => k_is)
    (case c_law => k_is)
    (case k_law => k_is)
    (case aC => k_is)
    (case a_minit => k_is)
    (case i_minit => k_is)
    (case l_minit => k_is)
    (case c_minit => k_is)
    (case k_minit => k_is)
    (case a_mplaces => k_is)
    (case i_mplaces => k_is)
    (case l_mplaces => k_is)
    (case c_mplaces => k_is)
    (case k_mplaces => k_is)
    (case a_mtold => k_is)
    (case i_mtold => k_is)
    (case l_mtold => k_is)
    (case c_mtold => k_is)
    (case k_mtold => k_is)
    (case pg => k_is)
    (case hd => k_is)
    (case po => k_is)
    (case sa => k_is)
    (case mk => k_is)
    (case kc => k_is)
    (case nM => k_is)
    (case nV => k_is)
    (case gMOST_PLACES => k_is)
    (case gMOST_MOVES => k_is)
    (case gMOST_WEIGHT => k_is)
    (case zlen => k_is)
    (case zabs => k_is)
    (case zmax => k_is)
    (case zmin => k_is)
    (case zint => k_is)
    (case zrange => k_is)
    (case zsorted => k_is)
    (case ztuple => k_is)
    (case zisinstance => k_is)
    (case zall => k_is)
    (case zenumerate => k_is)
    (case zlist => k_is)
    (case zset => k_is)
    (case zValueError => k_is)
    (case gcomb => k_is)
    (case lM_is_move => k_is)
    (case vM_is_move => first | rfl | k_is)
    (case hM_is_move => first | k_is | rfl | decide +kernel)
    (case nT_is_move => first | k_is | rfl | decide +kernel)

