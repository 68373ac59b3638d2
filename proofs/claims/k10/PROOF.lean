import PyProof.Rows.All
import Wide.All
import OpenK.AllK
import Wide.FinOn
import PyProof.EqAt
import PyProof.EqKinds
import PyProof.TupleCall
import HandS.ForMost
import HandS.RepeatKit
import HandS.Conv
import KE.KSuperObj
import HandS.FStrTup
import HandS.FStr
import KE.KExcSuper
import HandS.Nested
import HandS.ExcInit
import HandS.ExcIs
import HandS.IsInst
import HandS.ExcField
import KE.KExcIs
import HandS.WordsExc
import HandS.ExcOwn
import HandS.RaiseMore
import HandS.Codes
import HandS.AnyAll
import HandS.Sort
import HandS.Zip
import HandS.Walk
import KE.KEqSeq
import HandS.SetFor
import HandS.Strs
import HandS.Rev
import HandS.Deep
import KE.KEqDeep
import HandS.EndTab
import PySem.Challenge.RW_longago_k10_whole_by_the_ends
set_option Elab.async false
set_option linter.all false
set_option maxRecDepth 100000
set_option maxHeartbeats 4000000
namespace Lg
open PySem PySem.Spec PyProof.Rows L2
def topS (i : Nat) : Stmt := PySem.Challenge.pw_longago_k10_whole_by_the_ends.main.body.getD i (.Pass ⟨0, 0, 0, 0⟩)
abbrev cLongError : Stmt := topS 2
abbrev cBadChain : Stmt := topS 3
abbrev cBadText : Stmt := topS 4
abbrev cNoSuch : Stmt := topS 5
abbrev cNotOne : Stmt := topS 6
abbrev cNeverOne : Stmt := topS 7
abbrev cNotOrdered : Stmt := topS 8
abbrev cTooMany : Stmt := topS 9
abbrev sStepsOf : Stmt := topS 11
abbrev sDrawnFrom : Stmt := topS 12
abbrev sAreOne : Stmt := topS 13
abbrev sKeepsOrder : Stmt := topS 15
abbrev sFirstOrder : Stmt := topS 16
abbrev sByEnds : Stmt := topS 17
abbrev sFirstBreaking : Stmt := topS 18
abbrev sKeeps : Stmt := topS 19
abbrev cChain : Stmt := topS 24
abbrev sIsMove : Stmt := topS 25
abbrev sCell : Stmt := topS 27
abbrev sDice : Stmt := topS 28
abbrev sOff : Stmt := topS 29
abbrev sChain : Stmt := topS 30
abbrev sMade : Stmt := topS 31
abbrev sNumbers : Stmt := topS 32
abbrev sLawEnds : Stmt := topS 33
abbrev sLawDrawn : Stmt := topS 34
abbrev sLawBroken : Stmt := topS 35
abbrev sLawWord : Stmt := topS 36
abbrev sLaw : Stmt := topS 37
/-! ### itertools.permutations(range), walked -/
section
open PySem PySem.Spec PySem.Builtin PySem.Builtin.Itertools
namespace Pm
theorem mro_pm : mroOf (.type "itertools.permutations") = pure [.type "itertools.permutations", .type "object"] := by rw [mroOf_type]; kernel_rfl
theorem lookup_pm_new : typeLookup (.type "itertools.permutations") "__new__" = pure (some (.builtin "itertools.permutations.__new__")) := by rw [typeLookup_type, builtinLookup_eq_fast]; kernel_rfl
theorem slot_pm_init : Slot "itertools.permutations" "__init__" "object.__init__" :=
  .of (owner := "object") (n := "__init__") (by rw [typeLookup_type, builtinLookup_eq_fast]; kernel_rfl) (by decide +kernel) (by decide +kernel) (by decide +kernel)
    (by first | exact .inl (by decide +kernel) | exact .inr (by decide +kernel)) (by rw [isSubtype_type]; kernel_rfl)
theorem sub_pm : isSubtype (.type "itertools.permutations") (.type "itertools.permutations") = pure true := by rw [isSubtype_type]; kernel_rfl
theorem called_pm : TypeCalled "itertools.permutations" "itertools.permutations.__new__" "object.__init__" :=
  ⟨by decide +kernel, by decide +kernel, ⟨_, _, mro_pm⟩, madeBy_type mro_pm lookup_pm_new (by decide +kernel), by decide +kernel, sub_pm, slot_pm_init⟩
theorem typeCall_pm (a : Value) : checkTypeCall "itertools.permutations" ⟨[a], []⟩ = pure () := by kernel_rfl
theorem newCall_pm (a : Value) : checkBuiltinCall "itertools.permutations.__new__" ⟨[.type "itertools.permutations", a], []⟩ = pure () := by kernel_rfl
theorem entry_pm_new : entryFor table "itertools.permutations.__new__" = some Builtin.«itertools.permutations.__new__» := entryFor_of_tree (by kernel_rfl)
theorem plain_pm_new : plainId "itertools.permutations.__new__" = true := by decide +kernel
theorem slot_pm_iter : Slot "itertools.permutations" "__iter__" "itertools.permutations.__iter__" :=
  .of (owner := "itertools.permutations") (n := "__iter__") (by rw [typeLookup_type, builtinLookup_eq_fast]; kernel_rfl) (by decide +kernel) (by decide +kernel) (by decide +kernel)
    (by first | exact .inl (by decide +kernel) | exact .inr (by decide +kernel)) sub_pm
theorem slot_pm_next : Slot "itertools.permutations" "__next__" "itertools.permutations.__next__" :=
  .of (owner := "itertools.permutations") (n := "__next__") (by rw [typeLookup_type, builtinLookup_eq_fast]; kernel_rfl) (by decide +kernel) (by decide +kernel) (by decide +kernel)
    (by first | exact .inl (by decide +kernel) | exact .inr (by decide +kernel)) sub_pm
theorem entry_pm_iter : entryFor table "itertools.permutations.__iter__" = some Builtin.«dict_keyiterator.__iter__» :=
  entryFor_alias (id' := "dict_keyiterator.__iter__") (by kernel_rfl) (by first | rfl | decide +kernel | (unfold String.splitOn; simp +decide [String.splitOnAux])) (by decide +kernel) (by kernel_rfl)
theorem entry_pm_next : entryFor table "itertools.permutations.__next__" = some Builtin.«itertools.permutations.__next__» := entryFor_of_tree (by kernel_rfl)
theorem noDict_pm : typeHasDict (.type "itertools.permutations") = false := by decide +kernel
theorem noClose_pm : typeLookup (.type "itertools.permutations") "close" = pure none := by rw [typeLookup_type, builtinLookup_eq_fast]; kernel_rfl
theorem owner_pm : Manifest.owners.lookup (String.ofList ['s', 'n', 'o', 'i', 't', 'a', 't', 'u', 'm', 'r', 'e', 'p', '.', 's', 'l', 'o', 'o', 't', 'r', 'e', 't', 'i'].reverse) = some Manifest.sig_itertools_permutations := by kernel_rfl
theorem args_pm_iter (a : Value) : argsOk "itertools.permutations.__iter__" ⟨[a], []⟩ := by
  unfold argsOk; rw [signature?_of (id := "itertools.permutations.__iter__") (n := ['_', '_', 'r', 'e', 't', 'i', '_', '_']) (o := ['s', 'n', 'o', 'i', 't', 'a', 't', 'u', 'm', 'r', 'e', 'p', '.', 's', 'l', 'o', 'o', 't', 'r', 'e', 't', 'i']) (by kernel_rfl) owner_pm]; kernel_rfl
theorem args_pm_next (a : Value) : argsOk "itertools.permutations.__next__" ⟨[a], []⟩ := by
  unfold argsOk; rw [signature?_of (id := "itertools.permutations.__next__") (n := ['_', '_', 't', 'x', 'e', 'n', '_', '_']) (o := ['s', 'n', 'o', 'i', 't', 'a', 't', 'u', 'm', 'r', 'e', 'p', '.', 's', 'l', 'o', 'o', 't', 'r', 'e', 't', 'i']) (by kernel_rfl) owner_pm]; kernel_rfl
end Pm
end
section
open PySem PySem.Spec PySem.Builtin PySem.Builtin.Itertools
namespace Pm
abbrev poolO (acc : Array Value) : Obj := { cls := .type "tuple", dict := none, data := .seq acc, slots := #[] }
abbrev pmO (pt : Addr) (st n : Int) (old : Value) (ns : List Nat) : Obj := { cls := .type "itertools.permutations", dict := none, data := .fields ([.ref pt, rawInt st, rawInt n, old] ++ ns.map fun (i : Nat) => rawInt i).toArray, slots := #[] }
/-- a permutations object: its pool, how far it is, how many, what it told last, its numbers -/
abbrev IsPm (h : Heap) (it pt : Addr) (st n : Int) (old : Value) (ns : List Nat) : Prop := h.get? it = some (pmO pt st n old ns)
section
variable {prog : Program} {w : World} {A : Around} {E : Value → Shared → Prop} {s : Shared} {r : Addr} {t u v : Tok} {n : Nat}
theorem code_pm_new {Q₁ : Value → Shared → Prop} (hh : A.handled = none) (hr : IsRange s.heap r 0 (n : Int) 1 t u v) (hsmall : Builtin.Range.small 0 (n : Int) 1 = true) (hn : Builtin.Range.rangeSize 0 (n : Int) 1 = n) (hlen : n ≤ 100)
    (h : ∀ (hm : Heap) (tk : Nat) (acc : Array Value), (∀ b o, s.heap.get? b = some o → hm.get? b = some o) → ItemsOf (fun i v => ∃ t, v = .int (0 + i * 1) t) acc n → Q₁ (.ref (hm.objs.size + 1)) { s with heap := (hm.push (poolO acc)).push (pmO hm.objs.size 0 n .none ((List.range n) ++ (List.range n).map fun i => n - i)), toks := tk }) :
    codeAny (model prog w) A (.call (.builtin "itertools.permutations.__new__") ⟨[.type "itertools.permutations", .ref r], []⟩) (wants Q₁ E) s := by
  refine codeAny_of_tree ?_
  show wpAny _ A.in1 (do checkBuiltinCall "itertools.permutations.__new__" ⟨[.type "itertools.permutations", .ref r], []⟩; again (.builtin "itertools.permutations.__new__" ⟨[.type "itertools.permutations", .ref r], []⟩)) _ _ s
  refine wpAny_bind (wpAny_of_eq (newCall_pm _) (wpAny_pure ⟨plainId_quiet plain_pm_new _, codeAny_builtin entry_pm_new ?_⟩))
  rw [Around.under_plainId plain_pm_new _]
  have hsub : isSubtype (.type "itertools.permutations") (.type ("itertools." ++ "permutations")) = pure true := sub_pm
  have hd := noDict_pm
  have hTI : s.TypeIs (.ref r) "range" := ⟨_, hr, rfl⟩
  have hh1 : A.in1.handled = none := hh
  have hlen2 : n ≤ 2 ^ 24 := Nat.le_trans hlen (by decide)
  wp_walk using wpAny_typeOf hTI, L2.collect_range (A := A.in1) hh1 hr hsmall hn hlen2
  intro h' tk acc hk hacc
  have hl : acc.toList.length = n := by rw [Array.length_toList]; exact hacc.1
  have c1 : ¬ (((acc.toList.length : Nat) : Int) < 0) := by omega
  have c2 : ¬ (itTooMany ((acc.toList.length : Nat) : Int) = true) := by
    unfold itTooMany
    rw [decide_eq_true_iff, hl]
    omega
  have c3 : ¬ (((acc.toList.length : Nat) : Int).toNat > acc.toList.length) := by omega
  refine wpAny_bind (wpAny_pure ?_)
  refine wpAny_ite_false (decide_eq_false c1) ?_
  refine wpAny_ite_false (decide_eq_false c2) ?_
  have fin : wpAny (model prog w) A.in1 (newTuple acc.toList >>= fun a => itNewRecord (.type "itertools.permutations") ([a, rawInt (if ((acc.toList.length : Nat) : Int).toNat > acc.toList.length then 2 else 0), rawInt (((acc.toList.length : Nat) : Int).toNat : Nat), .none] ++ (List.range acc.toList.length).map (fun (i : Nat) => rawInt i) ++ (List.range ((acc.toList.length : Nat) : Int).toNat).map fun (i : Nat) => rawInt ((acc.toList.length : Int) - i)) >>= fun b => ret b)
      (fun fin s' => match fin with | .done f => wants Q₁ E (.ok f) s' | .again c' => c'.quiet = true ∧ codeAny (model prog w) A c' (wants Q₁ E) s') (fun e s' => wants Q₁ E (.error e) s') { heap := h', gens := s.gens, drawn := s.drawn, toks := tk, os := s.os } := by
    unfold newTuple
    refine wpAny_bind (wpAny_newObj_type ?_ ?_)
    · rw [if_neg c3]
      unfold itNewRecord
      rw [hd]
      refine wpAny_bind ?_
      refine wpAny_ite_true rfl ?_
      refine wpAny_newObj_type (wpAny_pure ?_) ?_
      · have e1 : (h'.push (poolO acc)).objs.size = h'.objs.size + 1 := by simp [Heap.push]
        have e2 : ([Value.ref h'.objs.size, rawInt 0, rawInt (((acc.toList.length : Nat) : Int).toNat : Nat), .none] ++ (List.range acc.toList.length).map (fun (i : Nat) => rawInt i) ++ (List.range ((acc.toList.length : Nat) : Int).toNat).map fun (i : Nat) => rawInt ((acc.toList.length : Int) - i)) = ([Value.ref h'.objs.size, rawInt 0, rawInt (n : Int), .none] ++ ((List.range n) ++ (List.range n).map fun i => n - i).map fun (i : Nat) => rawInt i) := by
          rw [hl, Int.toNat_natCast, List.map_append, List.map_map, List.append_assoc]
          have e3 : ((List.range n).map fun (i : Nat) => rawInt ((n : Int) - i)) = (List.range n).map ((fun (i : Nat) => rawInt i) ∘ fun i => n - i) := by
            refine List.map_congr_left fun i hi => ?_
            have := List.mem_range.mp hi
            show rawInt ((n : Int) - i) = rawInt ((n - i : Nat) : Int)
            rw [show ((n - i : Nat) : Int) = (n : Int) - i by omega]
          rw [e3]
        have q := h h' tk acc hk hacc
        rw [← e1] at q
        rw [e2]
        exact q
      · show _ ≤ sizeLine + 2
        simp only [List.size_toArray, List.length_append, List.length_map, List.length_range, List.length_cons, List.length_nil]
        rw [hl, sizeLine_eq]
        omega
    · show _ ≤ sizeLine
      rw [List.size_toArray, hl, sizeLine_eq]
      omega
  exact fin
end
end Pm
end
section
open PySem PySem.Spec PySem.Builtin PySem.Builtin.Itertools
namespace Pm
def nxtP (n : Nat) : (place : Nat) → (indices cycles : List Nat) → Option (List Nat × List Nat)
  | 0, _, _ => none
  | i + 1, indices, cycles =>
    let c := cycles.getD i 0 - 1
    if c == 0 then nxtP n i (indices.take i ++ indices.drop (i + 1) ++ [indices.getD i 0]) (cycles.set i (n - i))
    else some ((indices.set i (indices.getD (n - c) 0)).set (n - c) (indices.getD i 0), cycles.set i c)
section
variable {prog : Program} {w : World} {A : Around} {E : Value → Shared → Prop} {s : Shared} {it pt : Addr} {n : Nat} {old : Value} {ns : List Nat} {acc : Array Value}
/-- what is told: a new tuple -/
abbrev toldO (acc : Array Value) (ix : List Nat) : Obj := { cls := .type "tuple", dict := none, data := .seq (ix.map fun i => acc.getD i .none).toArray, slots := #[] }
theorem nums_back (ns : List Nat) (a b c d : Value) : ((([a, b, c, d] ++ ns.map fun (i : Nat) => rawInt i).toArray.toList.drop 4).map fun | .int n _ => n.toNat | _ => 0) = ns := by
  show ((ns.map fun (i : Nat) => rawInt i).map _) = ns
  rw [List.map_map]
  refine (List.map_congr_left fun i _ => ?_).trans (List.map_id ns)
  show (rawInt (i : Int) |> fun | .int n _ => n.toNat | _ => 0) = i
  exact Int.toNat_natCast i
theorem set_num (pt st n old : Value) (ns : List Nat) (v : Value) : ([pt, st, n, old] ++ ns.map fun (i : Nat) => rawInt i).toArray.setIfInBounds 1 v = ([pt, v, n, old] ++ ns.map fun (i : Nat) => rawInt i).toArray := by
  simp
theorem set_old (pt st n old : Value) (ns : List Nat) (v : Value) : ([pt, st, n, old] ++ ns.map fun (i : Nat) => rawInt i).toArray.setIfInBounds 3 v = ([pt, st, n, v] ++ ns.map fun (i : Nat) => rawInt i).toArray := by
  simp
theorem set_nums (pt st n old : Value) (ns ms : List Nat) : ([pt, st, n, old] ++ ns.map fun (i : Nat) => rawInt i).toArray.extract 0 4 ++ (ms.map fun (i : Nat) => rawInt i).toArray = ([pt, st, n, old] ++ ms.map fun (i : Nat) => rawInt i).toArray := by
  simp
/-- what is handed out -/
theorem pm_result {st : Int} {ix : List Nat} {Q : PySem.Fin → Shared → Prop} (hit : IsPm s.heap it pt st n old ns) (hl : ix.length ≤ 1000)
    (hQ : ∀ h', IsPm h' it pt st n (.ref s.heap.objs.size) ns → h'.get? s.heap.objs.size = some (toldO acc ix) → (∀ b o, b ≠ it → s.heap.get? b = some o → h'.get? b = some o) → Q (.done (.ret (.ref s.heap.objs.size))) { s with heap := h' }) :
    wpAny (model prog w) A (do
      let t ← newTuple (ix.map fun i => acc.getD i .none)
      let before ← field (.ref it) 3
      setField (.ref it) 3 t
      letGo [before] [t]
      ret t) Q E s := by
  unfold newTuple
  refine wpAny_bind (wpAny_newObj_type ?_ (by show _ ≤ sizeLine; rw [List.size_toArray, List.length_map, sizeLine_eq]; omega))
  have hit2 : IsPm (s.heap.push (toldO acc ix)) it pt st n old ns := Heap.get?_push_of_some _ hit
  refine wpAny_bind (wpAny_field hit2 rfl (x := old) rfl ?_)
  refine wpAny_bind (wpAny_setField hit2 rfl (by simp) ?_)
  have hit3 : IsPm ((s.heap.push (toldO acc ix)).update it (Obj.mapFields (·.setIfInBounds 3 (.ref s.heap.objs.size)))) it pt st n (.ref s.heap.objs.size) ns := by
    unfold IsPm
    rw [Heap.get?_update_self _ hit2 rfl]
    show some (Obj.mapFields _ (pmO pt st n old ns)) = _
    unfold Obj.mapFields
    show some _ = _
    simp only [set_old]
  have ne : s.heap.objs.size ≠ it := Nat.ne_of_gt (Heap.lt_size hit)
  refine wpAny_bind ?_
  unfold letGo
  refine wpAny_bind (wpAny_holding (wpAny_point ?_))
  unfold letGo
  refine wpAny_pure (wpAny_pure ?_)
  refine hQ _ hit3 ?_ fun b o hb e => ?_
  · rw [Heap.get?_update_ne _ _ _ _ ne]
    exact Heap.get?_push_size _ rfl
  · rw [Heap.get?_update_ne _ _ _ _ hb]
    exact Heap.get?_push_of_some _ e
theorem pm_first {Q : Option Value → Shared → Prop} (hit : IsPm s.heap it pt 0 n old ns) (hp : s.heap.get? pt = some (poolO acc)) (hn : acc.size = n) (h100 : n ≤ 100) (hpt : pt ≠ it) (hl : ns.length ≤ 1000)
    (hQ : ∀ h', IsPm h' it pt 1 n (.ref s.heap.objs.size) ns → h'.get? s.heap.objs.size = some (toldO acc (ns.take n)) → (∀ b o, b ≠ it → s.heap.get? b = some o → h'.get? b = some o) → Q (some (.ref s.heap.objs.size)) { s with heap := h' }) :
    wpAny (model prog w) A (pyNext (.ref it)) Q E s := by
  have hT : s.TypeIs (.ref it) "itertools.permutations" := ⟨_, hit, rfl⟩
  unfold pyNext
  refine wpAny_bind (wpAny_attempt (wpAny_callSpecial?_slot (name := Str.ofString "__next__") hT slot_pm_next (wpAny_call_entry slot_pm_next hT entry_pm_next ?_ (args_pm_next _))))
  show wpAny _ _ (field (.ref it) 0 >>= _) _ _ s
  refine wpAny_bind (wpAny_field hit rfl (x := .ref pt) rfl ?_)
  show wpAny _ _ (itPoolItems (.ref pt) >>= _) _ _ s
  unfold itPoolItems
  refine wpAny_bind (wpAny_bind (wpAny_seqItems hp rfl (wpAny_pure ?_)))
  refine wpAny_bind ?_
  unfold itIntField
  refine wpAny_bind (wpAny_field hit rfl (x := rawInt n) rfl (wpAny_pure ?_))
  refine wpAny_bind ?_
  unfold itNumbersFrom
  refine wpAny_bind (wpAny_load hit (wpAny_pure ?_))
  have nb := nums_back ns (.ref pt) (rawInt 0) (rawInt n) old
  generalize hz : (List.map _ (List.drop 4 _) : List Nat) = numbers
  have ez : numbers = ns := hz.symm.trans nb
  rw [ez]
  clear hz nb ez
  refine wpAny_bind (wpAny_bind (wpAny_field hit rfl (x := rawInt 0) rfl (wpAny_pure ?_)))
  refine wpAny_bind (wpAny_setField hit rfl (by simp) ?_)
  have hit2 : IsPm (s.heap.update it (Obj.mapFields (·.setIfInBounds 1 (rawInt 1)))) it pt 1 n old ns := by
    unfold IsPm
    rw [Heap.get?_update_self _ hit rfl]
    show some (Obj.mapFields _ (pmO pt 0 n old ns)) = _
    unfold Obj.mapFields
    show some _ = _
    simp only [set_num]
  have sz : (s.heap.update it (Obj.mapFields (·.setIfInBounds 1 (rawInt 1)))).objs.size = s.heap.objs.size := Heap.size_update ..
  refine pm_result (acc := acc) (ix := ns.take n) hit2 (by rw [List.length_take]; omega) fun h' h1 h2 h3 => ?_
  rw [sz] at h1 h2
  refine ⟨_, rfl, wpAny_pure ?_⟩
  rw [sz]
  exact hQ h' h1 h2 fun b o hb e => h3 b o hb (by rw [Heap.get?_update_ne _ _ _ _ hb]; exact e)
theorem pm_more {Q : Option Value → Shared → Prop} {ix cy : List Nat} (hit : IsPm s.heap it pt 1 n old ns) (hp : s.heap.get? pt = some (poolO acc)) (hn : acc.size = n) (h100 : n ≤ 100) (hpt : pt ≠ it) (hz : nxtP n n (ns.take n) (ns.drop n) = some (ix, cy)) (hl : (ix ++ cy).length ≤ 1000)
    (hQ : ∀ h', IsPm h' it pt 1 n (.ref s.heap.objs.size) (ix ++ cy) → h'.get? s.heap.objs.size = some (toldO acc (ix.take n)) → (∀ b o, b ≠ it → s.heap.get? b = some o → h'.get? b = some o) → Q (some (.ref s.heap.objs.size)) { s with heap := h' }) :
    wpAny (model prog w) A (pyNext (.ref it)) Q E s := by
  have hT : s.TypeIs (.ref it) "itertools.permutations" := ⟨_, hit, rfl⟩
  unfold pyNext
  refine wpAny_bind (wpAny_attempt (wpAny_callSpecial?_slot (name := Str.ofString "__next__") hT slot_pm_next (wpAny_call_entry slot_pm_next hT entry_pm_next ?_ (args_pm_next _))))
  show wpAny _ _ (field (.ref it) 0 >>= _) _ _ s
  refine wpAny_bind (wpAny_field hit rfl (x := .ref pt) rfl ?_)
  show wpAny _ _ (itPoolItems (.ref pt) >>= _) _ _ s
  unfold itPoolItems
  refine wpAny_bind (wpAny_bind (wpAny_seqItems hp rfl (wpAny_pure ?_)))
  refine wpAny_bind ?_
  unfold itIntField
  refine wpAny_bind (wpAny_field hit rfl (x := rawInt n) rfl (wpAny_pure ?_))
  refine wpAny_bind ?_
  unfold itNumbersFrom
  refine wpAny_bind (wpAny_load hit (wpAny_pure ?_))
  have nb := nums_back ns (.ref pt) (rawInt 1) (rawInt n) old
  generalize hz' : (List.map _ (List.drop 4 _) : List Nat) = numbers
  have ez : numbers = ns := hz'.symm.trans nb
  rw [ez]
  clear hz' nb ez
  refine wpAny_bind (wpAny_bind (wpAny_field hit rfl (x := rawInt 1) rfl (wpAny_pure ?_)))
  show wpAny _ _ (match (_ : Option (List Nat × List Nat)) with | some (i, c) => _ | none => _) _ _ _
  subst hn
  split
  · rename_i i c heq
    have e : nxtP acc.size acc.size (ns.take acc.size) (ns.drop acc.size) = some (i, c) := Eq.trans (by kernel_rfl) heq
    rw [hz] at e
    cases e
    refine wpAny_bind ?_
    unfold itSetNumbersFrom
    refine wpAny_updateFields hit rfl ?_ ?_
    · have hit2 : IsPm (s.heap.update it (Obj.mapFields fun fs => fs.extract 0 4 ++ ((ix ++ cy).map fun (n : Nat) => rawInt n).toArray)) it pt 1 acc.size old (ix ++ cy) := by
        unfold IsPm
        rw [Heap.get?_update_self _ hit rfl]
        show some (Obj.mapFields _ (pmO pt 1 acc.size old ns)) = _
        unfold Obj.mapFields
        show some _ = _
        simp only [set_nums]
      have sz : (s.heap.update it (Obj.mapFields fun fs => fs.extract 0 4 ++ ((ix ++ cy).map fun (n : Nat) => rawInt n).toArray)).objs.size = s.heap.objs.size := Heap.size_update ..
      refine pm_result (acc := acc) (ix := ix.take acc.size) hit2 (by rw [List.length_take]; rw [List.length_append] at hl; omega) fun h' h1 h2 h3 => ?_
      rw [sz] at h1 h2
      refine ⟨_, rfl, wpAny_pure ?_⟩
      rw [sz]
      exact hQ h' h1 h2 fun b o hb e => h3 b o hb (by rw [Heap.get?_update_ne _ _ _ _ hb]; exact e)
    · show (_ ++ _ : Array Value).size ≤ _
      rw [set_nums, List.size_toArray, List.length_append, List.length_map, sizeLine_eq]
      show 4 + _ ≤ _
      omega
  · rename_i heq
    have e : nxtP acc.size acc.size (ns.take acc.size) (ns.drop acc.size) = none := Eq.trans (by kernel_rfl) heq
    rw [hz] at e
    cases e
theorem pm_end {Q : Option Value → Shared → Prop} (hh : A.handled = none) (hit : IsPm s.heap it pt 1 n old ns) (hp : s.heap.get? pt = some (poolO acc)) (hn : acc.size = n) (hz : nxtP n n (ns.take n) (ns.drop n) = none)
    (hQ : ∀ h', (∀ b o, b ≠ it → s.heap.get? b = some o → h'.get? b = some o) → Q none { s with heap := h' }) :
    wpAny (model prog w) A (pyNext (.ref it)) Q E s := by
  have hT : s.TypeIs (.ref it) "itertools.permutations" := ⟨_, hit, rfl⟩
  unfold pyNext
  refine wpAny_bind (wpAny_attempt (wpAny_callSpecial?_slot (name := Str.ofString "__next__") hT slot_pm_next (wpAny_call_entry slot_pm_next hT entry_pm_next ?_ (args_pm_next _))))
  show wpAny _ _ (field (.ref it) 0 >>= _) _ _ s
  refine wpAny_bind (wpAny_field hit rfl (x := .ref pt) rfl ?_)
  show wpAny _ _ (itPoolItems (.ref pt) >>= _) _ _ s
  unfold itPoolItems
  refine wpAny_bind (wpAny_bind (wpAny_seqItems hp rfl (wpAny_pure ?_)))
  refine wpAny_bind ?_
  unfold itIntField
  refine wpAny_bind (wpAny_field hit rfl (x := rawInt n) rfl (wpAny_pure ?_))
  refine wpAny_bind ?_
  unfold itNumbersFrom
  refine wpAny_bind (wpAny_load hit (wpAny_pure ?_))
  have nb := nums_back ns (.ref pt) (rawInt 1) (rawInt n) old
  generalize hz' : (List.map _ (List.drop 4 _) : List Nat) = numbers
  have ez : numbers = ns := hz'.symm.trans nb
  rw [ez]
  clear hz' nb ez
  refine wpAny_bind (wpAny_bind (wpAny_field hit rfl (x := rawInt 1) rfl (wpAny_pure ?_)))
  show wpAny _ _ (match (_ : Option (List Nat × List Nat)) with | some (i, c) => _ | none => _) _ _ _
  subst hn
  split
  · rename_i i c heq
    have e : nxtP acc.size acc.size (ns.take acc.size) (ns.drop acc.size) = some (i, c) := Eq.trans (by kernel_rfl) heq
    rw [hz] at e
    cases e
  · refine wpAny_bind (wpAny_setField hit rfl (by simp) ?_)
    unfold itStop
    simp only [newExc, newTuple]
    refine wpAny_bind ?_
    refine wpAny_bind (wpAny_newObj_type ?_ (by size_fits))
    refine wpAny_bind (m := firstArgMember _ _) (wpAny_of_eq (a := Value.none) (by first | rfl | (simp only [firstArgMember]; rfl)) ?_)
    refine wpAny_newObj_type ?_ (by size_fits)
    simp only [raiseNew]
    refine wpAny_bind (wpAny_handled ?_)
    first | rw [show A.in1.handled = none from hh] | rw [hh]
    refine wpAny_bind (wpAny_pure (wpAny_throw ?_))
    refine wpAny_bind (wpAny_isInstance (T := "StopIteration") (b := true) ⟨_, Heap.get?_push_size _ rfl, rfl⟩ isSubtype_stop ?_)
    refine wpAny_pure (hQ _ fun b o hb e => ?_)
    exact Heap.get?_push_of_some _ (Heap.get?_push_of_some _ (by rw [Heap.get?_update_ne _ _ _ _ hb]; exact e))
end
end Pm
end
section
open PySem PySem.Spec PySem.Builtin PySem.Builtin.Itertools
namespace Pm
section
variable {prog : Program} {w : World} {A : Around} {E : Value → Shared → Prop} {s : Shared} {it pt r : Addr} {n : Nat} {old : Value} {ns : List Nat} {acc : Array Value} {t u v : Tok}
theorem iter_pm {st : Int} {Q : Value → Shared → Prop} (hit : IsPm s.heap it pt st n old ns) (h : Q (.ref it) s) : wpAny (model prog w) A (pyIter (.ref it)) Q E s := by
  have hT : s.TypeIs (.ref it) "itertools.permutations" := ⟨_, hit, rfl⟩
  refine wpAny_pyIter_slot hT slot_pm_iter (wpAny_call_entry slot_pm_iter hT entry_pm_iter ?_ (args_pm_iter _))
  show wpAny _ _ (ret (.ref it)) _ _ s
  exact wpAny_pure ⟨_, rfl, "itertools.permutations", _, hT, slot_pm_next.lookup, h⟩
theorem call_pm {Q : Value → Shared → Prop} (hh : A.handled = none) (hr : IsRange s.heap r 0 (n : Int) 1 t u v) (hsmall : Builtin.Range.small 0 (n : Int) 1 = true) (hn : Builtin.Range.rangeSize 0 (n : Int) 1 = n) (hlen : n ≤ 100)
    (h : ∀ (hm : Heap) (tk : Nat) (acc : Array Value), (∀ b o, s.heap.get? b = some o → hm.get? b = some o) → ItemsOf (fun i v => ∃ t, v = .int (0 + i * 1) t) acc n → Q (.ref (hm.objs.size + 1)) { s with heap := (hm.push (poolO acc)).push (pmO hm.objs.size 0 n .none ((List.range n) ++ (List.range n).map fun i => n - i)), toks := tk }) :
    wpAny (model prog w) A (call (.type "itertools.permutations") [.ref r]) Q E s := by
  have hh1 : A.in1.handled = none := hh
  refine PySem.ks_callType_codesW (Q₁ := fun obj s1 => s1.TypeIs obj "itertools.permutations" ∧ Q obj s1) called_pm (fun {Q'} {E'} hq => wpAny_of_eq (typeCall_pm _) hq) F.entry_object_init (code_pm_new hh1 hr hsmall hn hlen fun hm tk acc hk hi => ?_) fun obj s1 h1 => ?_
  · refine ⟨⟨pmO hm.objs.size 0 n .none ((List.range n) ++ (List.range n).map fun i => n - i), ?_, rfl⟩, h hm tk acc hk hi⟩
    have e1 : (hm.push (poolO acc)).objs.size = hm.objs.size + 1 := by simp [Heap.push]
    rw [← e1]
    exact Heap.get?_push_size _ rfl
  · exact ⟨h1.1, F.args_object_init_2 obj _, object_init_meets called_pm.init.lookup called_pm.made (by decide +kernel) _ _ _ _ _ ⟨h1.1, rfl, h1.2⟩⟩
end
/-! the numbers at each turn -/
def runP (n : Nat) : Nat → List Nat → List (List Nat)
  | 0, ns => [ns]
  | k + 1, ns => ns :: match nxtP n n (ns.take n) (ns.drop n) with
    | none => []
    | some (i, c) => runP n k (i ++ c)
def permsN (n : Nat) : List (List Nat) := runP n 720 ((List.range n) ++ (List.range n).map fun i => n - i)
theorem runP_zero (n : Nat) : ∀ k ns, (runP n k ns)[0]? = some ns
  | 0, _ => rfl
  | _ + 1, _ => rfl
theorem runP_next (n : Nat) : ∀ (k i : Nat) (ns ms : List Nat), (runP n k ns)[i]? = some ms → i < k →
    (match nxtP n n (ms.take n) (ms.drop n) with | none => (runP n k ns)[i + 1]? = none | some (a, c) => (runP n k ns)[i + 1]? = some (a ++ c))
  | 0, i, ns, ms, _, h => absurd h (Nat.not_lt_zero _)
  | k + 1, 0, ns, ms, e, _ => by
    have e1 : ns = ms := Option.some.inj e
    subst e1
    unfold runP
    cases hn : nxtP n n (ns.take n) (ns.drop n) with
    | none => rfl
    | some p =>
      obtain ⟨a, c⟩ := p
      show (runP n k (a ++ c))[0]? = _
      exact runP_zero n k _
  | k + 1, i + 1, ns, ms, e, h => by
    unfold runP at e ⊢
    cases hn : nxtP n n (ns.take n) (ns.drop n) with
    | none =>
      rw [hn] at e
      simp at e
    | some p =>
      obtain ⟨a, c⟩ := p
      rw [hn] at e
      have e' : (runP n k (a ++ c))[i]? = some ms := e
      exact runP_next n k i (a ++ c) ms e' (by omega)
theorem nxtP_len {n : Nat} : ∀ {i : Nat} {a c a' c' : List Nat}, i ≤ n → nxtP n i a c = some (a', c') → a.length = n → a'.length = n
  | 0, a, c, a', c', _, h, _ => by unfold nxtP at h; cases h
  | i + 1, a, c, a', c', hi, h, hl => by
    unfold nxtP at h
    by_cases z : (c.getD i 0 - 1 == 0) = true
    · simp only [z, if_true] at h
      refine nxtP_len (by omega) h ?_
      rw [List.length_append, List.length_append, List.length_take, List.length_drop]
      simp
      omega
    · simp only [z] at h
      cases h
      rw [List.length_set, List.length_set]
      exact hl
/-- what is asked of so many places: all ends in time, the numbers are as many as they must be -/
def permOk (n : Nat) : Bool := decide ((permsN n).length ≤ 720) && (permsN n).all fun ns => decide (ns.length = 2 * n) && (ns.take n).all fun i => decide (i < n)
theorem permOk_small : ∀ n, n ≤ 6 → permOk n = true := by
  intro n hn
  match n, hn with
  | 0, _ => decide +kernel
  | 1, _ => decide +kernel
  | 2, _ => decide +kernel
  | 3, _ => decide +kernel
  | 4, _ => decide +kernel
  | 5, _ => decide +kernel
  | 6, _ => decide +kernel
end Pm
end
section
open Pm
theorem permOk_len {n : Nat} (h : permOk n = true) : (permsN n).length ≤ 720 := by
  unfold permOk at h
  rw [Bool.and_eq_true, decide_eq_true_iff] at h
  exact h.1
theorem permOk_at {n : Nat} (h : permOk n = true) {ns : List Nat} (hn : ns ∈ permsN n) : ns.length = 2 * n ∧ ∀ i ∈ ns.take n, i < n := by
  unfold permOk at h
  rw [Bool.and_eq_true] at h
  have h2 := List.all_eq_true.mp h.2 ns hn
  rw [Bool.and_eq_true, decide_eq_true_iff] at h2
  exact ⟨h2.1, fun i hi => of_decide_eq_true (List.all_eq_true.mp h2.2 i hi)⟩
/-- the orders of 0 .. n - 1, each in a new tuple -/
def Itp (n : Nat) : It :=
  ⟨fun i _ => i < (permsN n).length, fun i H v H' => ∃ T ns, v = .ref T ∧ H T = none ∧ H' = upd H T (.tup ((ns.take n).map fun (j : Nat) => V.int j)) ∧ (permsN n)[i]? = some ns, fun i _ => (permsN n).length ≤ i⟩
def PmAt (n : Nat) (it pt : Addr) (i : Nat) (h : Heap) : Prop := ∃ (st : Int) (old : Value) (ns : List Nat) (acc : Array Value), IsPm h it pt st n old ns ∧ h.get? pt = some (poolO acc) ∧ ItemsOf (fun i v => ∃ t, v = .int (0 + i * 1) t) acc n ∧ it ≠ pt ∧
  ((i = 0 ∧ st = 0 ∧ (permsN n)[0]? = some ns) ∨ ∃ j, i = j + 1 ∧ st = 1 ∧ (permsN n)[j]? = some ns)
theorem told_rel {n : Nat} {acc : Array Value} (hi : ItemsOf (fun i v => ∃ t, v = .int (0 + i * 1) t) acc n) : ∀ {ix : List Nat}, (∀ i ∈ ix, i < n) → Vals (ix.map fun (j : Nat) => V.int j) (ix.map fun i => acc.getD i .none)
  | [], _ => .nil
  | i :: ix, h => by
    refine .cons ?_ (told_rel hi fun z hz => h z (List.mem_cons_of_mem _ hz))
    have hlt : i < acc.size := by
      rw [hi.1]
      exact h i List.mem_cons_self
    obtain ⟨t, e⟩ := hi.2 i acc[i] (Array.getElem?_eq_getElem hlt)
    refine ⟨t, ?_⟩
    show acc.getD i .none = .int (i : Int) t
    have : acc.getD i .none = acc[i] := by simp [Array.getD, hlt]
    rw [this, e]
    congr 1
    omega
theorem turn_perm {P : Program} {w : World} {K : PySem.W.Frag} {tg : Expr} {n : Nat} (it pt : Addr) (ok : permOk n = true) (n6 : n ≤ 100) : Turn P w K tg (Itp n) [it, pt] it (PmAt n it pt) where
  mem := by simp
  obj := fun i h st b hb => by
    obtain ⟨st, old, ns, acc, h1, h2, _⟩ := st
    have e' : b = it ∨ b = pt := by simpa using hb
    rcases e' with z | z
    · rw [z]; exact ⟨_, h1, fun v q => nomatch q⟩
    · rw [z]; exact ⟨_, h2, fun v q => nomatch q⟩
  keep := fun i h h' st k => by
    obtain ⟨st, old, ns, acc, h1, h2, r⟩ := st
    exact ⟨st, old, ns, acc, k it (by simp) _ h1, k pt (by simp) _ h2, r⟩
  item := by
    intro X hP hw hK hc i pins s σ H E I hf st hg
    subst hP hw hK
    obtain ⟨st, old, ns, acc, hit, hp, hi, hne, hcase⟩ := st
    have hg : i < (permsN n).length := hg
    have l720 := permOk_len ok
    have fin : ∀ (ms : List Nat) (h' : Heap), (permsN n)[i]? = some ms → IsPm h' it pt 1 n (.ref s.heap.objs.size) ms → h'.get? s.heap.objs.size = some (toldO acc (ms.take n)) → (∀ b o, b ≠ it → s.heap.get? b = some o → h'.get? b = some o) →
        ∃ u, some (Value.ref s.heap.objs.size) = some u ∧ wpAny (model X.prog X.w) X.A (letOwnedTupleGo tg (.ref it) u) (fun _ s2 => ∃ x H', Inv X pins σ H' s2 ∧ RelV x u ∧ (Itp n).yld i H x H' ∧ PmAt n it pt (i + 1) s2.heap ∧ ∀ b ∈ [it, pt], H' b = none) E { s with heap := h' } := by
      intro ms h' e h1 h2 h3
      have hin := permOk_at ok (List.mem_of_getElem? e)
      refine ⟨_, rfl, go_of (s := { s with heap := h' }) h1 rfl rfl (by decide) ?_⟩
      have new : ObjOk X.prog X.w (upd H s.heap.objs.size (.tup ((ms.take n).map fun (j : Nat) => V.int j))) h' s.heap.objs.size (.tup ((ms.take n).map fun (j : Nat) => V.int j)) :=
        ⟨by rw [List.length_map, List.length_take, sizeLine_eq]; omega, (ms.take n).map fun i => acc.getD i .none, told_rel hi hin.2, ⟨_, h2, rfl, _, rfl⟩⟩
      have I1 : Inv X pins σ (upd H s.heap.objs.size (.tup ((ms.take n).map fun (j : Nat) => V.int j))) { s with heap := h', toks := s.toks } :=
        I.turnedNew (ch := [it, pt]) (fun b ob hb q => h3 b ob (fun z => hb (by simp [z])) q) hf (Nat.le_refl _) new
      refine ⟨.ref s.heap.objs.size, _, I1, rfl, ⟨_, ms, rfl, I.hok.fresh (Nat.le_refl _), rfl, e⟩, ⟨1, _, ms, acc, h1, h3 pt _ (Ne.symm hne) hp, hi, hne, .inr ⟨i, rfl, rfl, e⟩⟩, fun b hb => ?_⟩
      have e' : b = it ∨ b = pt := by simpa using hb
      have hlt : b < s.heap.objs.size := by
        rcases e' with z | z
        · rw [z]; exact Heap.lt_size hit
        · rw [z]; exact Heap.lt_size hp
      rw [upd_ne (Nat.ne_of_lt hlt)]
      exact (hf b hb).1
    rcases hcase with ⟨rfl, rfl, e⟩ | ⟨j, rfl, rfl, e⟩
    · have hin := permOk_at ok (List.mem_of_getElem? e)
      exact pm_first hit hp hi.1 n6 (Ne.symm hne) (by omega) fun h' h1 h2 h3 => fin ns h' e h1 h2 h3
    · have nx := runP_next n 720 j _ ns e (by omega)
      cases hn : nxtP n n (ns.take n) (ns.drop n) with
      | none =>
        rw [hn] at nx
        have nx : (permsN n)[j + 1]? = none := nx
        rw [List.getElem?_eq_getElem hg] at nx
        cases nx
      | some p =>
        obtain ⟨ix, cy⟩ := p
        rw [hn] at nx
        have nx : (permsN n)[j + 1]? = some (ix ++ cy) := nx
        have hin := permOk_at ok (List.mem_of_getElem? nx)
        have lix : ix.length = n := nxtP_len (Nat.le_refl n) hn (by have := permOk_at ok (List.mem_of_getElem? e); rw [List.length_take]; omega)
        refine pm_more hit hp hi.1 n6 (Ne.symm hne) hn (by omega) fun h' h1 h2 h3 => fin (ix ++ cy) h' nx h1 ?_ h3
        rw [h2]
        congr 2
        rw [List.take_append_of_le_length (by omega)]
  done := by
    intro X hP hw hK hc i pins s σ H E I hf st hg
    subst hP hw hK
    obtain ⟨st, old, ns, acc, hit, hp, hi, hne, hcase⟩ := st
    have hg : (permsN n).length ≤ i := hg
    have l720 := permOk_len ok
    obtain ⟨f0, f1, f2, f3, f4, f5⟩ := hf it (by simp)
    rcases hcase with ⟨rfl, rfl, e⟩ | ⟨j, rfl, rfl, e⟩
    · rw [List.getElem?_eq_none_iff.mpr hg] at e
      cases e
    · have hj := (List.getElem?_eq_some_iff.mp e).1
      have nx := runP_next n 720 j _ ns e (by omega)
      cases hn : nxtP n n (ns.take n) (ns.drop n) with
      | none => exact pm_end (I.ok.hd hc) hit hp hi.1 hn fun h' k => ⟨rfl, I.turned (t' := s.toks) (fun b o hb q => k b o hb q) f0 f1 f3 f4 f5⟩
      | some p =>
        obtain ⟨ix, cy⟩ := p
        rw [hn] at nx
        have nx : (permsN n)[j + 1]? = some (ix ++ cy) := nx
        rw [List.getElem?_eq_none_iff.mpr hg] at nx
        cases nx
  self := fun A i s Q E st h => by
    obtain ⟨st, old, ns, acc, hit, _⟩ := st
    exact iter_pm hit h
def iPerm (te : L2.St → Hp → (Int → Int → Hp → Prop) → Prop) : TI := fun σ H R => te σ H fun a b H1 => ∃ n : Nat, a = 0 ∧ b = (n : Int) ∧ n ≤ 6 ∧ R (Itp n) H1
theorem pi_perm {X : Cx} {tg e : Expr} {te : L2.St → Hp → (Int → Int → Hp → Prop) → Prop} {p pos : Pos} (hc : X.calm = true) (hg : Gl X "permutations") (hm : X.mg "permutations" = some (.type "itertools.permutations")) (he : PRg X e te)
    (na : starEach [e] X.env = (false, eval e X.env) :: starEach [] X.env := by rfl) : PI X tg (.Call (.Name "permutations" p) [e] [] pos) (iPerm te) := by
  refine ⟨fun pins s σ H R I h => ?_⟩
  refine Call_ (ld_glob I hg hm (PyProof.Rows.callWith_type1 (PyProof.Rows.args_cons (thn (he pins s σ H _ I h) fun x s1 ⟨r, a, b, t, u, v, H1, ex, hr, I1, n, ea, eb, n6, q⟩ => PyProof.Rows.args_nil ?_) na) na rfl))
  subst ex ea eb
  have rs := rangeSize_nat 0 (n : Int)
  rw [show ((n : Int) - 0).toNat = n by omega] at rs
  refine call_pm (I1.ok.hd hc) hr (small_one (by omega) (by omega) (by omega) (by omega)) rs (by omega) fun hmm tk acc hk hi => ?_
  have I2 : Inv X pins σ H1 { s1 with heap := hmm, toks := tk } := I1.kept hk
  have e1 : (hmm.push (poolO acc)).objs.size = hmm.objs.size + 1 := by simp [Heap.push]
  have hit : ((hmm.push (poolO acc)).push (pmO hmm.objs.size 0 n .none ((List.range n) ++ (List.range n).map fun i => n - i))).get? (hmm.objs.size + 1) = some (pmO hmm.objs.size 0 n .none ((List.range n) ++ (List.range n).map fun i => n - i)) := by
    rw [← e1]
    exact Heap.get?_push_size _ rfl
  have hp : ((hmm.push (poolO acc)).push (pmO hmm.objs.size 0 n .none ((List.range n) ++ (List.range n).map fun i => n - i))).get? hmm.objs.size = some (poolO acc) := Heap.get?_push_of_some _ (Heap.get?_push_size _ rfl)
  have I3 : Inv X pins σ H1 { s1 with heap := (hmm.push (poolO acc)).push (pmO hmm.objs.size 0 n .none ((List.range n) ++ (List.range n).map fun i => n - i)), toks := tk } := I2.kept fun b o e => Heap.get?_push_of_some _ (Heap.get?_push_of_some _ e)
  refine iter_pm hit ⟨hmm.objs.size + 1, [hmm.objs.size + 1, hmm.objs.size], _, _, H1, rfl, I3, turn_perm _ hmm.objs.size (permOk_small n n6) (by omega), ⟨0, .none, _, acc, hit, hp, hi, Nat.succ_ne_self _, .inl ⟨rfl, rfl, runP_zero n 720 _⟩⟩, fun b hb => ?_, q⟩
  have e' : b = hmm.objs.size + 1 ∨ b = hmm.objs.size := by simpa using hb
  have hle : hmm.objs.size ≤ b := by
    rcases e' with z | z
    · rw [z]; exact Nat.le_add_right _ _
    · rw [z]; exact Nat.le_refl _
  exact I2.fpOk hle (I2.hok.fresh hle)
end
/-! ### {a list of ints} in an f-string: some text of bounded length -/
namespace Fl
open PySem PySem.Spec PyProof.Rows
section
variable {prog : Program} {w : World} {A : Around} {E : Value → Shared → Prop} {s : Shared} {a : Addr} {oa : Obj} {x : Value} {l : List Value} {na : Nat} {ts : List Str}
theorem repr_fin {R : Result → Shared → Prop} (ha : s.heap.get? a = some oa) (hda : oa.data = .seq (x :: l).toArray na) (hlen : ts.length = (x :: l).toArray.size)
    (hT : ∀ (i : Nat) (y : Value), (x :: l).toArray[i]? = some y → ∃ t, ts[i]? = some t ∧ ReprIs prog w y t)
    (hR : ∀ m h' u tk, m.length ≤ (listText ts).length + 5 → (∀ b o, s.heap.get? b = some o → h'.get? b = some o) → R (.ok (.ret (.str m u))) { s with heap := h', toks := tk }) (hsz : (listText ts).length ≤ sizeLine) :
    wpAny (model prog w) A.in1 (Builtin.listReprAt 0 ⟨[.ref a], []⟩)
      (fun fin s' => match fin with | .done f => R (.ok f) s' | .again c' => c'.quiet = true ∧ codeAny (model prog w) A c' R s') (fun e s' => R (.error e) s') s := by
  unfold Builtin.listReprAt
  show wpAny _ _ (Builtin.List.listItems (.ref a) >>= _) _ _ s
  unfold Builtin.List.listItems
  refine wpAny_bind (wpAny_bind (wpAny_seqItems ha hda (wpAny_pure ?_)))
  refine PySem.W.KFB.if_not rfl ?_
  refine wpAny_bind (wpAny_stack_any fun st => ?_)
  refine wpAny_ite_split (fun _ => ?_) (fun _ => ?_)
  · refine wpAny_bind (wpAny_rule ?_)
    refine wpAny_bind (wpAny_mkStr (wpAny_pure ?_) (by decide +kernel))
    exact hR "[...]" _ _ _ (Nat.le_trans (by decide +kernel) (Nat.le_add_left _ _)) fun b o e => e
  · refine wpAny_bind (m := newList []) (wpAny_newObj_type ?_)
    refine wpAny_pure ⟨F.quiet_list_repr_loop _, ?_⟩
    refine codeAny_list_repr_start (b := 0) (P := s.heap.objs.size) (Nat.ne_of_lt (Heap.lt_size ha)) hlen hT (Heap.get?_push_of_some _ ha) hda (Heap.get?_push_size _ rfl) (fun h' u tk hk => ?_) (by omega)
    exact hR _ h' u tk (Nat.le_add_right _ _) fun b o e => hk b o (Nat.ne_of_lt (Heap.lt_size e)) (Heap.get?_push_of_some _ e)
theorem call_repr {Q : Value → Shared → Prop} (hTy : s.TypeIs (.ref a) "list") (ha : s.heap.get? a = some oa) (hda : oa.data = .seq (x :: l).toArray na) (hlen : ts.length = (x :: l).toArray.size)
    (hT : ∀ (i : Nat) (y : Value), (x :: l).toArray[i]? = some y → ∃ t, ts[i]? = some t ∧ ReprIs prog w y t)
    (hQ : ∀ m h' u tk, m.length ≤ (listText ts).length + 5 → (∀ b o, s.heap.get? b = some o → h'.get? b = some o) → Q (.str m u) { s with heap := h', toks := tk }) (hsz : (listText ts).length ≤ sizeLine) :
    wpAny (model prog w) A (call (.builtin "list.__repr__") [.ref a]) Q E s :=
  wpAny_call (codeAny_call_builtin F.slot_list_repr.plain F.entry_list_repr (F.slot_list_repr.check _ _ _ _ _ _ _ _ hTy (F.args_list_repr_1 _)
    (repr_fin (R := fun r s' => match r with | .ok (.ret v) => Q v s' | .ok _ => False | .error e => E e s') ha hda hlen hT hQ hsz)))
/-- the signs of a list's text -/
theorem textFrom_up : ∀ (ts : List Str) (k : Nat) (acc : Str), (textFrom k acc ts).length ≤ acc.length + piled ts
  | [], k, acc => Nat.le_add_right _ _
  | t :: ts, k, acc => by
    have h := textFrom_up ts (k + 1) (acc ++ (if k > 0 then ", " else "" : String) ++ t)
    have e : ((if k > 0 then ", " else "" : String) : Str).length ≤ 2 := by split <;> decide +kernel
    rw [strLen_append, strLen_append] at h
    rw [piled_cons]
    show (textFrom (k + 1) _ ts).length ≤ _
    omega
theorem listText_up (ts : List Str) : (listText ts).length ≤ piled ts + 2 := by
  unfold listText
  rw [strLen_append]
  have h := textFrom_up ts 0 "["
  have e1 : (("[" : String) : Str).length = 1 := rfl
  have e2 : (("]" : String) : Str).length = 1 := rfl
  omega
end
end Fl
section
/-- {l}, l a list of ints -/
def tFmtL (K : PySem.W.Frag) (te : TE) : TE := fun σ H Q => te σ H fun x H1 => ∃ (a : Addr) (ns : List Int), x = .ref a ∧ SqL K H1 a (ns.map V.int) ∧ ns.length ≤ 64 ∧ (∀ n ∈ ns, n.natAbs.log2 < 1920) ∧ ∀ m : Str, m.length ≤ 200000 → Q (.str m) H1
theorem ints_repr {prog : Program} {w : World} : ∀ {ns : List Int} {its : List Value}, Vals (ns.map V.int) its → (∀ n ∈ ns, n.natAbs.log2 < 1920) → ∃ ts : List Str, ts.length = its.length ∧ piled ts ≤ 1923 * ns.length ∧ ∀ (i : Nat) (y : Value), its[i]? = some y → ∃ t, ts[i]? = some t ∧ ReprIs prog w y t
  | [], _, r, _ => by
    cases r
    exact ⟨[], rfl, Nat.le_refl _, fun i y e => by simp at e⟩
  | n :: ns, _, r, h => by
    cases r with
    | cons r1 r2 =>
      obtain ⟨t, rfl⟩ := r1
      obtain ⟨ts, l1, l2, l3⟩ := ints_repr (prog := prog) (w := w) r2 fun z hz => h z (List.mem_cons_of_mem _ hz)
      have hn := h n List.mem_cons_self
      refine ⟨Str.ofString (toString n) :: ts, by rw [List.length_cons, List.length_cons, l1], ?_, fun i y e => ?_⟩
      · rw [piled_cons, List.length_cons]
        have := int_text_length_le (k := 1920) (by decide) hn
        rw [PySem.ofString_length]
        omega
      · cases i with
        | zero =>
          simp at e
          subst e
          exact ⟨_, rfl, ReprIs.int t hn⟩
        | succ i => simpa using l3 i y (by simpa using e)
theorem pe_fmtL {X : Cx} {te : TE} {e : Expr} {pos : Pos} {k : Nat} (hr : Room k X.A) (he : PE X e te) : PE X (.FormattedValue e (-1) none pos) (tFmtL X.K te) := by
  refine ⟨fun pins s σ H Q I h => ?_⟩
  refine wpAny_FormattedValue_plain (thn (he.run pins s σ H _ I h) fun v s1 hv => ?_)
  obtain ⟨x, H1, I1, r1, a, ns, rfl, hl, h64, hb, q⟩ := hv
  cases r1
  obtain ⟨its, rv, ⟨⟨oc, od, odt, osl⟩, n, ho, hcl, hdn, hd⟩, hz⟩ := I1.list hl
  have hd : odt = .seq its.toArray n := hd
  have hcl : oc = .type "list" := hcl
  have hdn : od = none := hdn
  subst hd hcl hdn
  have hu := hr.units
  obtain ⟨ts, l1, l2, l3⟩ := ints_repr (prog := X.prog) (w := X.w) rv hb
  have up := Fl.listText_up ts
  refine wpAny_formatField_slot (fun _ _ => nofun) (by omega) ⟨_, ho, rfl⟩ F.slot_list_format F.slot_list_str F.slot_list_repr.toG ?_
  cases its with
  | nil =>
    refine call_list_repr_empty (s := { s1 with toks := s1.toks + 1 }) ⟨_, ho, rfl⟩ ho rfl ?_
    exact ⟨"[]", _, rfl, .str "[]", H1, I1.tok _, ⟨_, rfl⟩, q "[]" (by decide +kernel)⟩
  | cons y r =>
    refine Fl.call_repr (s := { s1 with toks := s1.toks + 1 }) (ts := ts) ⟨_, ho, rfl⟩ ho rfl (by rw [l1, List.size_toArray]) (fun i z e => l3 i z (by simpa using e)) (fun m h' u tk hm hk => ?_) (by rw [sizeLine_eq]; omega)
    exact ⟨m, u, rfl, .str m, H1, I1.kept hk, ⟨u, rfl⟩, q m (by omega)⟩
end
section
open PySem.W PySem.Calls NdefX
/-! ### an own error whose __init__ begins with super().__init__(..) -/
theorem inv_pin {X : Cx} {σ : L2.St} {H : Hp} {s : Shared} {u : Addr} {o : Obj} (I : Inv X [] σ H s) (hu : s.heap.get? u = some o) (n : H u = none) (nl : u ≠ X.env.locals) (nf : u ∉ X.fs) (nc : ∀ v, o.data ≠ .cell v) : Inv X [(u, o)] σ H s :=
  ⟨I.ok, I.os, I.bare, I.base, I.loc, I.cell, I.free, I.freeC, fun p hp => by
    rcases List.mem_append.mp hp with hp | hp
    · exact I.pin p (List.mem_append_left _ hp)
    · rw [List.mem_singleton.mp hp]
      exact ⟨hu, n, nl, nf, nc⟩, I.hok, I.len⟩
theorem inv_unpin {X : Cx} {σ : L2.St} {H : Hp} {s : Shared} {pins : List (Addr × Obj)} (I : Inv X pins σ H s) : Inv X [] σ H s := by
  refine ⟨I.ok, I.os, I.bare, I.base, I.loc, I.cell, I.free, I.freeC, fun p hp => ?_, I.hok, I.len⟩
  rw [List.append_nil] at hp
  exact I.pin p (List.mem_append_left _ hp)
def oexB (K : PySem.W.Frag) (C : Addr) : Bool := match K.lookup C with
  | some ⟨.type "type", _, .cls cd, sl⟩ => (match cd.mro, sl.toList with
    | .ref C' :: bm, [_, _, _, _, some (.builtin n), _] => C' == C && n == "ValueError.__new__" && !cd.hasDel && cd.hasDict && PySem.HandSPX.refsVE bm
    | _, _ => false)
  | _ => false
theorem oexB_ok {K : PySem.W.Frag} {C : Addr} (q : oexB K C = true) (h1 : PySem.W.findIn K (.ref C) "__setattr__" = some (some (.builtin "object.__setattr__"))) (h2 : PySem.W.subIn K (.ref C) (.type "BaseException") = some true) (h3 : PySem.W.typeIn K (.ref C) = some (.type "type")) (h4 : PySem.W.keepIn K (.ref C) = true) : OexC K C := by
  refine ⟨?_, h1, h2, h3, h4⟩
  unfold oexB at q
  split at q
  · rename_i dd cd sl ho
    split at q
    · rename_i C' bm k0 k1 k2 k3 n k5 hm hs
      simp only [Bool.and_eq_true, beq_iff_eq, Bool.not_eq_true'] at q
      obtain ⟨⟨⟨⟨rfl, rfl⟩, hdel⟩, hdict⟩, hr⟩ := q
      obtain ⟨nm, bs, mro, ns, qn, hd, sn, sub, ab, col, del⟩ := cd
      dsimp only at hm hdel hdict
      subst hm hdel hdict
      have hsl : sl = #[k0, k1, k2, k3, some (.builtin "ValueError.__new__"), k5] := by
        obtain ⟨l⟩ := sl
        simp only at hs
        rw [hs]
      subst hsl
      exact ⟨nm, qn, ns, bs, bm, sn, sub, ab, col, dd, k0, k1, k2, k3, k5, ho, hr⟩
    · cases q
  · cases q
structure SupE (P : Program) (K : PySem.W.Frag) (C cc cda : Addr) : Prop where
  X : OexC K C
  code : ∃ ccl cdd vs ccs file tf, K.lookup cda = some ⟨ccl, cdd, .fields vs, ccs⟩ ∧ vs[2]? = some (.str file tf) ∧ ((P.main.file : Str) == file) = true
  cell : ∃ cl cld csl, K.lookup cc = some ⟨cl, cld, .cell (some (.ref C)), csl⟩
  cls : ∃ cd, clsIn K C = some cd
  sub : mroIn K C (.ref C) = some true
  gs : nsIn K mainGlobals "super" = some none
  htop : (P.main.scope.names.lookup ("super" : Str)).isSome = false
  op : nsIn K cStatics "thirdparty.any" = some none
  al : ks_superIn K C C "__init__" = some (some (.builtin "ValueError.__init__"))
  ve : subIn K (.ref C) (.type "ValueError") = some true
variable {CX : CXT} {P : Program} {w : World} {K : PySem.W.Frag} {mg : Str → Option Value} {base : Heap}
/-- super().__init__ of a def: what comes of the name -/
theorem sup_method {X : Cx} {σ : L2.St} {H : Hp} {s : Shared} {C cc cda f x : Addr} {qual : Str} {scope : Scope} {body : List Stmt} {p0 p1 : Pos} {whole : Sem Value} {fd : FuncData} {ar : Arg} {oc : Value} {od : Option Addr} {osl : Array (Option Value)} {pl : Sem Bool} {Q : Value × List Value → Shared → Prop}
    (T : SupE X.prog X.K C cc cda) (I : Inv X [] σ H s) (henv : X.env = envX qual scope s_loc f (.ref cda) [("__class__", cc)])
    (lk : X.K.lookup f = some ⟨oc, od, .func fd, osl⟩) (hp : (fd.params.posonlyargs ++ fd.params.args).head? = some ar) (hN : X.N[0]? = some ar.arg) (hσ : σ[0]? = some (some (.ref x))) (hx : H x = some (exo x C none))
    (hks : scope.names.lookup ("super" : Str) = some .globalImplicit) (hkc : scope.names.lookup ("__class__" : Str) = some .free) (hka : scope.names.lookup ar.arg = some .local)
    (q : ∀ u s', u ≠ x → s'.heap.get? u = some (kxs_mw "ValueError.__init__" x) → Inv X [(u, kxs_mw "ValueError.__init__" x)] σ H s' → Q (.ref u, []) s') :
    PySem.wpAt (model X.prog X.w) X.A (.func body X.env) (attributeBase (.Call (.Name "super" p0) [] [] p1) "__init__" X.env whole) (fun ov s₁ => wpAny (model X.prog X.w) X.A (getMethod ov "__init__" pl) Q X.xe s₁) X.xe s := by
  obtain ⟨ccl, cdd, vs, ccs, file, tf, hc1, hc2, hc3⟩ := T.code
  obtain ⟨cl, cld, csl, hcell⟩ := T.cell
  obtain ⟨cd, hcd⟩ := T.cls
  have KX := I.kIn
  obtain ⟨oD, hD1, hD2⟩ : ∃ oD, s.heap.get? C = some oD ∧ oD.data = .cls cd := by
    have hD := hcd
    unfold clsIn at hD
    split at hD
    · rename_i c d cd' sl ho
      cases hD
      exact ⟨_, KX _ _ ho, rfl⟩
    · cases hD
  obtain ⟨t1, ho⟩ := exo_at I.hok hx
  have J : InstAt s.heap x _ C none := ⟨ho, rfl, rfl, trivial⟩
  obtain ⟨m, hns, hl⟩ := I.loc
  have hks' : X.env.kindOf "super" = some .globalImplicit := by rw [henv]; exact hks
  have hkc' : X.env.kindOf "__class__" = some .free := by rw [henv]; exact hkc
  have hka' : X.env.kindOf ar.arg = some .local := by rw [henv]; exact hka
  have hscn : X.env.scope.names = scope.names := by rw [henv]
  have hv : m ar.arg = some (.ref x) := by
    obtain ⟨u, ru, lu⟩ := hl 0 ar.arg (.ref x) hN hσ (.inl (by show X.env.scope.names.lookup ar.arg = _; rw [hscn]; exact hka))
    have eu : u = .ref x := ru
    subst eu
    rcases lu with ⟨_, h⟩ | ⟨h, _⟩
    · exact h
    · rw [hka'] at h
      rcases h with h | h <;> cases h
  obtain ⟨mb, hmb, hmb2⟩ := I.ok.mod.blt
  refine ks_wpAt_super_base (env := X.env) hks' hkc' (by decide) (by rw [henv]) (KX _ _ lk) rfl hp (by rw [henv]) (KX _ _ hc1) rfl hc2 hc3 T.htop ?_
  have hsc : X.env.scope.kind = .function := I.ok.kind
  refine ks_loadName_global hsc hks' (loadGlobal_builtin (env := X.env) (by rw [I.ok.glob]; exact I.ok.mod.glob.keeps I.bk) (mg_none_of I.ok.mod.kin I.ok.mod.glob T.gs) (by rw [I.ok.blt]; exact hmb.keeps I.bk) ((hmb2 _ (by decide)).trans (by decide +kernel)) ⟨rfl, ?_⟩)
  refine wpAny_loadName_free hsc hkc' (c := cc) (by rw [henv]; rfl) ⟨_, KX _ _ hcell, rfl⟩ ?_
  refine wpAny_loadName_local hsc hka' hns hv ?_
  refine ks_wpAny_isType_cls hD1 hD2 ⟨rfl, ?_⟩
  obtain ⟨hh, g, d, t, os⟩ := s
  refine ks_wpAny_call_super hD1 hD2 ho rfl (fun c e => by cases e) (looks_mroIn KX T.sub) (fun h' e k => ?_)
  have I2 : Inv X [] σ H ⟨h', g, d, t, os⟩ := I.un (h' := h') (t' := t) (Un.kept k) (I.hok.kept k)
  have KX2 : X.K.In h' := I2.kIn
  obtain ⟨t2, ho2⟩ := exo_at I2.hok hx
  have J2 : InstAt h' x _ C none := ⟨ho2, rfl, rfl, trivial⟩
  have hI : Looks (model X.prog X.w) h' (isInstance (.ref x) (.type "ValueError")) true := J2.type.andThen (looks_subIn KX2 T.ve)
  have al := T.al
  unfold ks_superIn at al
  rw [hcd] at al
  refine kxs_getMethod kxs_ValueError e (looks_opaque KX2 T.op) (l₀ := cd.mro) (fun A Q E s k q => wpAny_bind ((looks_clsIn KX2 hcd) A _ E s k (wpAny_pure q))) rfl KX2 al hI (ks_ne KX2 J2 hcd) (by decide) ?_
  have I3 : Inv X [] σ H ⟨h'.push (kxs_mw "ValueError.__init__" x), g, d, t + 1, os⟩ := I2.un (h' := h'.push (kxs_mw "ValueError.__init__" x)) (t' := t + 1) (Un.kept fun b o e => Heap.get?_push_of_some _ e) (I2.hok.kept fun b o e => Heap.get?_push_of_some _ e)
  have hu : (h'.push (kxs_mw "ValueError.__init__" x)).get? h'.objs.size = some (kxs_mw "ValueError.__init__" x) := Heap.get?_push_at rfl rfl
  have hn : H h'.objs.size = none := I2.hok.fresh (Nat.le_refl _)
  refine q _ _ (fun z => ?_) hu (inv_pin I3 hu hn (Ne.symm (Nat.ne_of_lt I2.lt)) (I2.nofs (Nat.le_refl _)) fun v z => by cases z)
  rw [z, hx] at hn
  cases hn

/-- the wrapper called: the arguments are laid anew, the error stays as new -/
theorem sup_call {X : Cx} {σ : L2.St} {H : Hp} {s : Shared} {C x u : Addr} {us : List Value} {E : Value → Shared → Prop} {Q : Value → Shared → Prop} (T : OexC X.K C) (I : Inv X [(u, kxs_mw "ValueError.__init__" x)] σ H s) (hx : H x = some (exo x C none)) (hz : us.length ≤ sizeLine)
    (q : ∀ s', Inv X [] σ H s' → Q .none s') : wpAny (model X.prog X.w) X.A (call (.ref u) us) Q E s := by
  obtain ⟨nm, qn, N, bs, bm, sn, sub, ab, col, dd, k0, k1, k2, k3, k5, hC, hbm⟩ := T.cls
  obtain ⟨t1, he⟩ := exo_at I.hok hx
  have hu : s.heap.get? u = some (kxs_mw "ValueError.__init__" x) := (I.pin (u, kxs_mw "ValueError.__init__" x) (by simp)).1
  have hC' := I.kIn _ _ hC
  have I0 := inv_unpin I
  obtain ⟨hh, g, d, t, os⟩ := s
  have FB := F.excBase_ValueError
  refine wpAny_call (codeAny_of_tree ?_)
  show wpAny _ X.A.in1 (callAny (.ref u) ⟨us, []⟩) _ _ _
  simp only [callAny]
  refine wpAny_bind (wpAny_load hu ?_)
  simp only [kxs_mw, show (Value.type "method-wrapper" == Value.type "method" || Value.type "method-wrapper" == Value.type "builtin_function_or_method" || Value.type "method-wrapper" == Value.type "method-wrapper") = true by decide, if_true]
  refine KFB.if_so (by decide) ?_
  refine wpAny_bind (check_bound_init F.excBase_ValueError.toExcCallFacts hC' he rfl ?_)
  refine wpAny_bind (wpAny_pure (wpAny_pure ?_))
  refine ⟨plainId_quiet F.excBase_ValueError.init.plain _, codeAny_builtin F.excBase_ValueError.initEntry ?_⟩
  refine exc_init_tree (cls := .ref C) (t0 := t1) (dv := none) (c2 := .none) (c3 := .none) (b4 := .bool false) he hz (fun h' k hx' ht => ?_)
  have J := I0.write (t' := t) (x := x) (e := x) (o := exo x C none) (by rw [hx]; exact True.intro) (.inl rfl) k ⟨_, hx'⟩ (exo_ok hx')
  have eu : upd H x (exo x C none) = H := by
    funext b
    by_cases hb : b = x
    · rw [hb, upd_same, hx]
    · rw [upd_ne hb]
  rw [eu] at J
  exact q _ J
/-- THE RULE: such a def by its arguments' reading and the rest's -/
theorem fn_sup {k : Nat} {f C cc cda : Addr} {name qual : Str} {params : Arguments} {scope : Scope} {e : Expr} {es : List Expr} {rest : List Stmt} {p0 p1 p2 p3 p4 : Pos} {dV kV doc pm ct oc : Value} {an od : Option Addr} {osl : Array (Option Value)} {N ps : List Str} {sp : Sp} {ar : Arg} {pl : Sem Bool}
    (T : SupE P K C cc cda)
    (lk : K.lookup f = some ⟨oc, od, .func (fnX name qual params (.Expr (.Call (.Attribute (.Call (.Name "super" p0) [] [] p1) "__init__" p2) (e :: es) [] p3) p4 :: rest) scope [("__class__", cc)] dV kV doc pm an (.ref cda) ct), osl⟩) (hcd : codeIn K (.ref cda) qual = true)
    (S : NScope N ps ["__class__"] scope) (hp : (params.posonlyargs ++ params.args).head? = some ar) (hN : N[0]? = some ar.arg) (hks : scope.names.lookup ("super" : Str) = some .globalImplicit) (hka : scope.names.lookup ar.arg = some .local)
    (hev : ∀ env : Env, env.scope = scope → eval (.Call (.Attribute (.Call (.Name "super" p0) [] [] p1) "__init__" p2) (e :: es) [] p3) env = (do
      let ov ← attributeBase (.Call (.Name "super" p0) [] [] p1) "__init__" env (eval (.Call (.Name "super" p0) [] [] p1) env)
      standAt p2.atName
      let (f, first) ← holding [ov] (getMethod ov "__init__" pl)
      callWith p3 f first (backTo p3 (starEach (e :: es) env)) []))
    (hst : ∀ env : Env, starEach (e :: es) env = (false, eval e env) :: starEach es env) (hpl : ∀ env : Env, (backTo p3 (starEach es env)).any (·.1) = false)
    (hin : ∀ env : Env, env.scope = scope → interactive env = false) (hsw : ∀ env : Env, env.scope = scope → swapsWith (.Call (.Attribute (.Call (.Name "super" p0) [] [] p1) "__init__" p2) (e :: es) [] p3) none p4.line env = pure false)
    (len : ∀ vs H Q E, sp vs H Q E → vs.length = ps.length)
    (hbody : ∀ (A : Around) (outer : List Env) (s : Shared) (H : Hp) (vs : List V) (Q : VK) (E : XK), Room k (A.deeper (envF ⟨name, qual, params, rest, scope, [("__class__", cc)], cda⟩ f s.heap.objs.size)) → sp vs H Q E →
      ∃ (x : Addr) (ta : TA) (t : TS), vs[0]? = some (.ref x) ∧ H x = some (exo x C none) ∧ PA (ncx CX P w K mg base N ⟨name, qual, params, rest, scope, [("__class__", cc)], cda⟩ f A outer s H E) (e :: es) ta ∧ PSs (ncx CX P w K mg base N ⟨name, qual, params, rest, scope, [("__class__", cc)], cda⟩ f A outer s H E) rest t ∧
        ta (startF N vs [none]) H (fun ws H1 => ws.length ≤ 1000 ∧ H1 x = some (exo x C none) ∧ t { nx := fun _ H' => Q .non H', rt := Q } (startF N vs [none]) H1)) :
    FnOk P w K mg base CX (k + 1) f (fnX name qual params (.Expr (.Call (.Attribute (.Call (.Name "super" p0) [] [] p1) "__init__" p2) (e :: es) [] p3) p4 :: rest) scope [("__class__", cc)] dV kV doc pm an (.ref cda) ct) ps sp := by
  refine ⟨len, fun A outer s H args us vs Q E hr e0 hb r hsp => ?_⟩
  have hl := len _ _ _ _ hsp
  have KX : K.In s.heap := e0.mod.kin.keeps fun b o e => (e0.bs b o e).1
  have lim : s.heap.NoLimit := e0.mod.nolimit.keeps fun b o e => (e0.bs b o e).1
  obtain ⟨cl, cld, csl, hcell⟩ := T.cell
  refine codeAny_call_function hr.depth (KX _ _ lk) rfl S.co S.gen rfl (PySem.W.codeRec_of KX hcd) (hb _ _ _ _ ?_)
  refine wpAny_newFunctionEnv S.nocell (fun ⟨n, _⟩ hy => S.par n (List.of_mem_zip hy).1) (fun h₁ hns hsb => ⟨lim.fresh _ hsb, ?_⟩) S.kind
  have kp : ∀ b o, s.heap.get? b = some o → h₁.get? b = some o := fun b o e => hsb.extBut b o (Nat.ne_of_lt (Heap.lt_size e)) (Heap.get?_push_of_some _ e)
  obtain ⟨x, ta, t, hx0, hx, hA, hS, hq⟩ := hbody A outer s H vs Q E (hr.deeper _) hsp
  have CA : CellsAt [("__class__", cc)] ["__class__"] [none] s.heap H := by
    have lc : ∀ {y c}, ([("__class__", cc)] : List (Str × Addr)).lookup y = some c → c = cc := fun {y c} h => by
      have := PySem.mem_of_lookup h
      rw [List.mem_singleton] at this
      exact (Prod.mk.inj this).2
    have ln : ∀ {y c}, ([("__class__", cc)] : List (Str × Addr)).lookup y = some c → y = "__class__" := fun {y c} h => by
      have := PySem.mem_of_lookup h
      rw [List.mem_singleton] at this
      exact (Prod.mk.inj this).1
    have bc : base.get? cc = some ⟨cl, cld, .cell (some (.ref C)), csl⟩ := e0.mod.kin _ _ hcell
    refine ⟨rfl, fun y c h => ?_, fun a b c h1 h2 => (ln h1).trans (ln h2).symm, fun i y h => ?_⟩
    · rw [lc h]
      exact ⟨(e0.bs _ _ bc).2, _, _, (e0.bs _ _ bc).1, rfl⟩
    · cases i with
      | zero =>
        simp at h
        subst h
        exact ⟨cc, rfl, fun v hv => by simp at hv⟩
      | succ i => simp at h
  have I : Inv (ncx CX P w K mg base N ⟨name, qual, params, rest, scope, [("__class__", cc)], cda⟩ f A outer s H E) [] (startF N vs [none]) H { s with heap := h₁, toks := s.toks + (ps.zip us).length } := inv_startN S hr.hd e0 hl r CA hns kp
  show codeAny _ _ (.func (.Expr _ p4 :: rest) (envF ⟨name, qual, params, rest, scope, [("__class__", cc)], cda⟩ f s.heap.objs.size)) _ _
  refine ks_codeAny_funcAt (ks_wpAt_execs_cons (ks_wpAt_Expr_any (ks_wpAt_MethodCall (pl := pl) ?_ (hev _ rfl)) (hin _ rfl) (hsw _ rfl)))
  have hσ : (startF N vs [none])[0]? = some (some (.ref x)) := by
    unfold startF
    cases vs with
    | nil => simp at hx0
    | cons v r =>
      simp at hx0
      subst hx0
      rfl
  have fin : ∀ {σ' : L2.St} {H' : Hp} {v : V} {u : Value} {s' : Shared}, Inv (ncx CX P w K mg base N ⟨name, qual, params, rest, scope, [("__class__", cc)], cda⟩ f A outer s H E) [] σ' H' s' → L2.RelV v u → Q v H' → CE outer P w H s Q u s' :=
    fun {σ' H' v u s'} J rv q => ⟨v, H', J.os, J.bare, J.base, J.hok, rv, q⟩
  refine sup_method (X := ncx CX P w K mg base N ⟨name, qual, params, rest, scope, [("__class__", cc)], cda⟩ f A outer s H E) (s_loc := s.heap.objs.size) T I rfl lk hp hN hσ hx hks (S.frk _ (by simp)) hka (fun u s1 nux hu I1 => ?_)
  show wpAny _ _ (callWith p3 (.ref u) [] (backTo p3 (starEach (e :: es) _)) []) _ _ _
  have hrun := hA.run p3 [(u, kxs_mw "ValueError.__init__" x)] s1 (startF N vs [none]) H _ I1 hq
  rw [hst] at hrun ⊢
  refine kxs_callWith (i := "ValueError.__init__") (x := x) (by show (false || (backTo p3 (starEach es _)).any (·.1)) = false; rw [hpl]; rfl) ?_
  refine evalArgs_plain (thn hrun fun us1 s2 ⟨ws, H1, I2, r1, hw, hx1, q1⟩ => ⟨(I2.pin (u, kxs_mw "ValueError.__init__" x) (by simp)).1, ?_⟩)
  refine sup_call (X := ncx CX P w K mg base N ⟨name, qual, params, rest, scope, [("__class__", cc)], cda⟩ f A outer s H E) T.X I2 hx1 (by show us1.length ≤ sizeLine; rw [← r1.length, sizeLine_eq]; omega) (fun s3 I3 => ?_)
  refine wpAt_of_wpAny (wpAny_mono (hS.run [] _ (startF N vs [none]) H1 _ I3 q1) (fun fl s' hs => ?_) fun e s' hs => hs)
  cases fl with
  | ret u =>
    obtain ⟨v, σ', H', J, rv, q⟩ := hs
    exact fin J rv q
  | next =>
    obtain ⟨σ', H', J, q⟩ := hs
    exact fin (v := V.non) (u := Value.none) J rfl q
  | brk =>
    obtain ⟨_, _, _, q⟩ := hs
    exact False.elim q
  | cont =>
    obtain ⟨_, _, _, q⟩ := hs
    exact False.elim q
end
/-! ### isinstance(e, (A, B, ..)) of the exception that an except suite holds: a rule of our own -/
/-- e, the classes in a tuple -/
def rExT (K : PySem.W.Frag) (D a : Addr) : List V → Hp → VK → Prop := fun xs H Q =>
  ∃ (tp : Addr) (cs : List V) (us : List Value) (b : Bool), xs = [.ref a, .ref tp] ∧ H tp = some (.tup cs) ∧ Paired ClsV cs us ∧ PySem.W.kitAny K (.ref D) us = some b ∧ Q (.bl b) H
theorem held_at {oe : Obj} {a D : Addr} {h : Heap} (got : h.get? a = some oe) (z : Zc (.ref D) none oe) (f : ∃ vs, oe.data = .fields vs) : PySem.W.InstAt h a oe D none := by
  obtain ⟨vs, fv⟩ := f
  obtain ⟨c0, d0, data0, s0⟩ := oe
  have z1 : c0 = .ref D := z.1
  have z2 : d0 = none := z.2
  have z3 : data0 = .fields vs := fv
  subst z1
  subst z2
  subst z3
  exact ⟨got, rfl, rfl, trivial⟩
theorem call_exT {X : Cx} {a D : Addr} {oe : Obj} {pn : List (Addr × Obj)} (C : ExcC X.K D) (z : Zc (.ref D) none oe) (f : ∃ vs, oe.data = .fields vs) : CallR (X.suite a ((a, oe) :: pn)) (.builtin "isinstance") (rExT X.K D a) := by
  intro pins s σ H xs us Q I r h
  obtain ⟨tp, cs, ws, b, rfl, hT, k, e, q⟩ := h
  obtain ⟨u1, u2, rfl, r1, r2⟩ := vals2 r
  cases (show u1 = Value.ref a from r1)
  cases (show u2 = Value.ref tp from r2)
  have got := (I.pin (a, oe) (List.mem_append.mpr (.inl List.mem_cons_self))).1
  obtain ⟨_, its, rv, ⟨oc, od, dt, sl⟩, g1, g2, n, g3⟩ := (show ObjOk X.prog X.w H s.heap tp (.tup cs) from I.hok tp _ hT)
  have same := ClsV.all k rv
  subst same
  have c1 : oc = .type "tuple" := g2
  have c2 : dt = .seq its.toArray n := g3
  subst c1
  subst c2
  exact PySem.W.kia_tup (PySem.W.handS_kitx_exc C.hg C.hk C.hs C.hd C.ha C.hn C.ht C.hm) I.kIn (held_at got z f) g1 e (fun z => nomatch z) fun tk => ⟨.bl b, H, I.tok tk, rfl, q⟩
/-! ### isinstance of a caught error that bears fields -/
/-- isinstance(e, c), the dict of e at dd -/
def rIsD (K : PySem.W.Frag) (D a dd : Addr) : List V → Hp → VK → Prop := fun xs H Q => ∃ (c : V) (cv : Value) (b : Bool) (fs : List (Str × V)), xs = [.ref a, c] ∧ (∀ u, RelV c u → u = cv) ∧ PySem.W.kitOne K (.ref D) cv = some b ∧ H dd = some (.xd fs) ∧ Q (.bl b) H
/-- .. the classes in a tuple -/
def rExD (K : PySem.W.Frag) (D a dd : Addr) : List V → Hp → VK → Prop := fun xs H Q =>
  ∃ (tp : Addr) (cs : List V) (us : List Value) (b : Bool) (fs : List (Str × V)), xs = [.ref a, .ref tp] ∧ H tp = some (.tup cs) ∧ Paired ClsV cs us ∧ PySem.W.kitAny K (.ref D) us = some b ∧ H dd = some (.xd fs) ∧ Q (.bl b) H
theorem instD {X : Cx} {pins : List (Addr × Obj)} {σ : L2.St} {H : Hp} {s : Shared} {a D dd : Addr} {oe : Obj} {fs : List (Str × V)} (I : Inv X pins σ H s) (got : s.heap.get? a = some oe) (z : Zc (.ref D) (some dd) oe) (f : ∃ vs, oe.data = .fields vs) (e : H dd = some (.xd fs)) : ∃ od, PySem.W.InstAt s.heap a oe D (some od) := by
  have hx : ObjOk X.prog X.w H s.heap dd (.xd fs) := I.hok dd _ e
  obtain ⟨mA, hns, hr⟩ := hx
  obtain ⟨od, ho, hl⟩ := lookIn_ns hns
  obtain ⟨vs, hd⟩ := f
  exact ⟨od, got, z.1, by unfold PySem.W.notCls; rw [hd] <;> rfl, by rw [z.2]; exact ho⟩
theorem kitD {K : PySem.W.Frag} {x D : Addr} {ox : Obj} {od : Option Obj} (C : ExcC K D) : PySem.W.KitX K (.ref x) (.ref D) (fun h => PySem.W.InstAt h x ox D od) := by
  obtain ⟨cd, hc, _⟩ := PySem.W.any_some C.hd
  exact PySem.W.kitx_exc (by rw [hc]; rfl) C.hg C.hk C.hs C.ha C.hn C.ht C.hm
theorem call_isD {X : Cx} {a D dd : Addr} {oe : Obj} {pn : List (Addr × Obj)} (C : ExcC X.K D) (hz : Zc (.ref D) (some dd) oe) (hf : ∃ vs, oe.data = .fields vs) : CallR (X.suite a ((a, oe) :: pn)) (.builtin "isinstance") (rIsD X.K D a dd) := by
  intro pins s σ H xs us Q I r h
  obtain ⟨c, cv, b, fs, rfl, hcv, e, ed, q⟩ := h
  cases r with
  | cons rx rr =>
    cases rr with
    | cons rt rr =>
      cases rr
      cases rx
      have ec := hcv _ rt
      subst ec
      obtain ⟨hget, _⟩ := I.pin (a, oe) (List.mem_append.mpr (.inl List.mem_cons_self))
      obtain ⟨od, J⟩ := instD I hget hz hf ed
      exact PySem.W.kia_one (kitD C) I.kIn J e (fun z => nomatch z) fun tk => ⟨.bl b, H, I.kept (t' := tk) fun _ _ z => z, rfl, q⟩
theorem call_exD {X : Cx} {a D dd : Addr} {oe : Obj} {pn : List (Addr × Obj)} (C : ExcC X.K D) (z : Zc (.ref D) (some dd) oe) (f : ∃ vs, oe.data = .fields vs) : CallR (X.suite a ((a, oe) :: pn)) (.builtin "isinstance") (rExD X.K D a dd) := by
  intro pins s σ H xs us Q I r h
  obtain ⟨tp, cs, ws, b, fs, rfl, hT, k, e, ed, q⟩ := h
  obtain ⟨u1, u2, rfl, r1, r2⟩ := vals2 r
  cases (show u1 = Value.ref a from r1)
  cases (show u2 = Value.ref tp from r2)
  have got := (I.pin (a, oe) (List.mem_append.mpr (.inl List.mem_cons_self))).1
  obtain ⟨_, its, rv, ⟨oc, od', dt, sl⟩, g1, g2, n, g3⟩ := (show ObjOk X.prog X.w H s.heap tp (.tup cs) from I.hok tp _ hT)
  have same := ClsV.all k rv
  subst same
  have c1 : oc = .type "tuple" := g2
  have c2 : dt = .seq its.toArray n := g3
  subst c1
  subst c2
  obtain ⟨od, J⟩ := instD I got z f ed
  exact PySem.W.kia_tup (kitD C) I.kIn J g1 e (fun z => nomatch z) fun tk => ⟨.bl b, H, I.tok tk, rfl, q⟩
/-- an own error without an __init__ of its own, at C -/
structure OwnE (K : PySem.W.Frag) (mg : Str → Option Value) (x : Str) (C : Addr) : Prop where
  g : mg x = some (.ref C)
  k : PySem.W.keepIn K (.ref C) = true
  x : PySem.W.excIn K C [.type "ValueError", .type "Exception", .type "BaseException", .type "object"] "ValueError.__new__" = true
  b : PySem.W.subIn K (.ref C) (.type "BaseException") = some true
  t : PySem.W.typeIn K (.ref C) = some (.type "type")
theorem app_fits {a b : Str} (h1 : a.length ≤ 1000) (h2 : b.length ≤ 1921) : (a ++ b).length ≤ sizeLine := by
  have e : (a ++ b).length = a.length + b.length := by
    show (a.cps ++ b.cps).size = a.cps.size + b.cps.size
    rw [Array.size_append]
  rw [e]
  exact Nat.le_trans (show a.length + b.length ≤ 2921 by omega) (by decide)
theorem app_le {a b : Str} {m n : Nat} (h1 : a.length ≤ m) (h2 : b.length ≤ n) : (a ++ b).length ≤ m + n := by
  have e : (a ++ b).length = a.length + b.length := by
    show (a.cps ++ b.cps).size = a.cps.size + b.cps.size
    rw [Array.size_append]
  omega
theorem line4k {n : Nat} (h : n ≤ 9000) : n ≤ sizeLine := Nat.le_trans h (by decide)
theorem log_small {n : Int} (h : n.natAbs ≤ 2000000) : n.natAbs.log2 < 1920 := by
  by_cases c : n.natAbs = 0
  · rw [c]
    decide
  · exact (Nat.log2_lt c).mpr (Nat.lt_of_le_of_lt h (by decide))
theorem int_len {n : Int} (h : n.natAbs.log2 < 1920) : (Str.ofString (toString n)).length ≤ 1921 := by
  have e := int_text_length_le (k := 1920) (by decide) h
  rw [PySem.ofString_length]
  omega
theorem fitA {a b : Str} {m n : Nat} (h1 : a.length ≤ m) (h2 : b.length ≤ n) (h : m + n ≤ 9000) : (a ++ b).length ≤ sizeLine := Nat.le_trans (app_le h1 h2) (line4k h)
/-! ### an error that is caught and looked at: isinstance(e, (six others)), then isinstance(e, its own) and isinstance(e, ValueError) -/
theorem FnOk.or {P : Program} {w : World} {K : PySem.W.Frag} {mg : Str → Option Value} {base : Heap} {CX : CXT} {k : Nat} {f : Addr} {fd : FuncData} {ps : List Str} {sp sq : Sp} (F : FnOk P w K mg base CX k f fd ps sp) (G : FnOk P w K mg base CX k f fd ps sq) : FnOk P w K mg base CX k f fd ps (fun vs H Q E => sp vs H Q E ∨ sq vs H Q E) :=
  ⟨fun vs H Q E h => h.elim (F.len vs H Q E) (G.len vs H Q E), fun A outer s H args us vs Q E hr e b v h => h.elim (F.run A outer s H args us vs Q E hr e b v) (G.run A outer s H args us vs Q E hr e b v)⟩
theorem pss_given {X : Cx} {ss : List Stmt} {t : TS} {p : Prop} (h : p → PSs X ss t) : PSs X ss (fun D σ H => p ∧ t D σ H) := ⟨fun pins s σ H D I hh => (h hh.1).run pins s σ H D I hh.2⟩
structure RefG (K : PySem.W.Frag) (mg : Str → Option Value) (xE x1 x2 x3 x4 x5 x6 : Str) (CL CE c1 c2 c3 c4 c5 c6 : Addr) : Prop where
  gL : mg "LongError" = some (.ref CL)
  ex : PySem.W.exmOne K (.ref CE) (.ref CL) = some true
  N : OwnE K mg xE CE
  E : ExcC K CE
  g1 : mg x1 = some (.ref c1)
  g2 : mg x2 = some (.ref c2)
  g3 : mg x3 = some (.ref c3)
  g4 : mg x4 = some (.ref c4)
  g5 : mg x5 = some (.ref c5)
  g6 : mg x6 = some (.ref c6)
  no : PySem.W.kitAny K (.ref CE) [.ref c1, .ref c2, .ref c3, .ref c4, .ref c5, .ref c6] = some false
  yes : PySem.W.kitOne K (.ref CE) (.ref CE) = some true
  val : PySem.W.kitOne K (.ref CE) (.type "ValueError") = some true
  mi : mg "isinstance" = none
  mv : mg "ValueError" = none
def t_suiteG (K : PySem.W.Frag) (i : Nat) (CE c1 c2 c3 c4 c5 c6 : Addr) (a : Addr) : TS :=
  tSeq (tIfS (tB (tCB (rExT K CE a) (tCons (tVar i) (tCons (tTup (tCons (tC (.ref c1)) (tCons (tC (.ref c2)) (tCons (tC (.ref c3)) (tCons (tC (.ref c4)) (tCons (tC (.ref c5)) (tCons (tC (.ref c6)) tNil))))))) tNil)))) (tRet (tC (.bl false))) tNext)
    (tRet (tAndV (tCB (rIsE K CE a) (tCons (tVar i) (tCons (tC (.ref CE)) tNil))) (tCB (rIsE K CE a) (tCons (tVar i) (tCons (tC (.ty "ValueError")) tNil)))))
/-- what the suite comes to -/
theorem suiteG {K : PySem.W.Frag} {mg : Str → Option Value} {xE x1 x2 x3 x4 x5 x6 : Str} {CL CE c1 c2 c3 c4 c5 c6 a : Addr} (R : RefG K mg xE x1 x2 x3 x4 x5 x6 CL CE c1 c2 c3 c4 c5 c6) {i : Nat} {D : Ends} {σ : L2.St} {H : Hp} (hi : σ[i]? = some (some (.ref a)))
    (q : ∀ p o, H p = none → D.rt (.bl true) (upd H p o)) : t_suiteG K i CE c1 c2 c3 c4 c5 c6 a D σ H := by
  refine ⟨.ref a, hi, (by show 6 ≤ sizeLine; decide), fun tp ntp => ?_⟩
  refine ⟨tp, _, _, false, rfl, upd_same, .cons (.own _) (.cons (.own _) (.cons (.own _) (.cons (.own _) (.cons (.own _) (.cons (.own _) .nil))))), R.no, false, rfl, iteF ?_⟩
  refine ⟨.ref a, hi, .ref CE, _, true, rfl, (fun u r => r), R.yes, true, rfl, iteT ?_⟩
  exact ⟨.ref a, hi, .ty "ValueError", _, true, rfl, (fun u r => r), R.val, q _ _ ntp⟩
def goK (f : List Int) (p : Int) : Int := f.getD p.toNat 0
theorem rise_same : ∀ {xs ys : List Int}, xs.Pairwise (· < ·) → ys.Pairwise (· < ·) → (∀ k, k ∈ xs ↔ k ∈ ys) → xs = ys
  | [], [], _, _, _ => rfl
  | [], y :: ys, _, _, h => by have := (h y).mpr List.mem_cons_self; simp at this
  | x :: xs, [], _, _, h => by have := (h x).mp List.mem_cons_self; simp at this
  | x :: xs, y :: ys, hx, hy, h => by
    obtain ⟨x1, x2⟩ := List.pairwise_cons.mp hx
    obtain ⟨y1, y2⟩ := List.pairwise_cons.mp hy
    have e : x = y := by
      rcases List.mem_cons.mp ((h x).mp List.mem_cons_self) with a | a
      · exact a
      · rcases List.mem_cons.mp ((h y).mpr List.mem_cons_self) with b | b
        · exact b.symm
        · have := y1 x a
          have := x1 y b
          omega
    subst e
    rw [rise_same x2 y2 fun k => ⟨fun hk => ?_, fun hk => ?_⟩]
    · rcases List.mem_cons.mp ((h k).mp (List.mem_cons_of_mem _ hk)) with a | a
      · have := x1 k hk
        omega
      · exact a
    · rcases List.mem_cons.mp ((h k).mpr (List.mem_cons_of_mem _ hk)) with a | a
      · have := y1 k hk
        omega
      · exact a
/-! ### what is the same in all these texts: heaps -/
/-- all that is tracked, but at d, is as it was -/
def Gr (d : Addr) (H H' : Hp) : Prop := ∀ b o, b ≠ d → H b = some o → H' b = some o
theorem Gr.refl (d : Addr) (H : Hp) : Gr d H H := fun _ _ _ e => e
theorem Gr.trans {d : Addr} {H H1 H2 : Hp} (a : Gr d H H1) (b : Gr d H1 H2) : Gr d H H2 := fun c o n e => b c o n (a c o n e)
theorem Gr.new {d : Addr} {H H1 : Hp} {p : Addr} {o : HO} (a : Gr d H H1) (h : H1 p = none) : Gr d H (upd H1 p o) := fun b u n e => by
  have q := a b u n e
  rw [upd_ne (ne_of_none q h)]
  exact q
theorem Gr.off {d : Addr} {H H1 H2 : Hp} (a : Gr d H H1) (h : ∀ b, b ≠ d → H2 b = H1 b) : Gr d H H2 := fun b u n e => by
  rw [h b n]
  exact a b u n e
theorem same_new {H : Hp} {p : Addr} {o : HO} (h : H p = none) : Same H (upd H p o) := fun b x e => by
  rw [upd_ne (ne_of_none e h)]
  exact e
theorem Gr.of_same {d : Addr} {H H' : Hp} (s : Same H H') : Gr d H H' := fun b o _ e => s b o e
/-- the dice at d -/
def dl (s0 : Int) (l : Addr) (k big : Int) : List V := [.int s0, .ref l, .int k, .int big]
theorem map_int_dl {ns : List Int} {s0 k big : Int} {l : Addr} : ns.map V.int ≠ dl s0 l k big := by
  intro e
  have h : (ns.map V.int)[1]? = some (V.ref l) := by rw [e]; rfl
  rw [List.getElem?_map] at h
  cases q : ns[1]? with
  | none => rw [q] at h; cases h
  | some z => rw [q] at h; cases h
/-- a list that is known ahead of p's making, and p's writing -/
theorem seq_put {K : PySem.W.Frag} {H0 H : Hp} {l p : Addr} {xs : List V} {o : HO} (h0 : SqL K H0 l xs) (n0 : H0 p = none) (h : SqL K H l xs) : SqL K (upd H p o) l xs := by
  have ne : Rd H0 l (.lst xs) → l ≠ p := fun r => by
    rcases r with r | ⟨o', r⟩
    · exact ne_of_none r n0
    · exact ne_of_none r n0
  rcases h0 with r0 | k
  · have n := ne r0
    rcases h with (h | ⟨o', h⟩) | h
    · exact .inl (.inl (by rw [upd_ne n]; exact h))
    · exact .inl (.inr ⟨o', by rw [upd_ne n]; exact h⟩)
    · exact .inr h
  · exact .inr k
/-- the script stands when the dice turns -/
theorem seq_turn {K : PySem.W.Frag} {H H' : Hp} {d l l' : Addr} {ns : List Int} {s0 k big : Int} (hd : H d = some (.lst (dl s0 l' k big))) (h : SqL K H l (ns.map V.int)) (q : ∀ b, b ≠ d → H' b = H b) : SqL K H' l (ns.map V.int) := by
  rcases h with (h | ⟨o, h⟩) | h
  · refine .inl (.inl ?_)
    rw [q]
    · exact h
    · intro z
      rw [z, hd] at h
      injection h with h
      injection h with h
      exact map_int_dl h.symm
  · refine .inl (.inr ⟨o, ?_⟩)
    rw [q]
    · exact h
    · intro z
      rw [z, hd] at h
      cases h
  · exact .inr h
def Dc (K : PySem.W.Frag) (l : Addr) (ns : List Int) (H : Hp) (d : Addr) : Prop := ∃ (s0 k big : Int), H d = some (.lst (dl s0 l k big)) ∧ SqL K H l (ns.map V.int) ∧ ns.length ≤ 63 ∧ 0 ≤ s0 ∧ s0 < 2147483647 ∧ 0 ≤ k ∧ 0 ≤ big
theorem Dc.same {K : PySem.W.Frag} {H H' : Hp} {l d : Addr} {ns : List Int} (s : Same H H') (h : Dc K l ns H d) : Dc K l ns H' d := by
  obtain ⟨s0, k, big, h1, h2, h3⟩ := h
  exact ⟨s0, k, big, s _ _ h1, s.seq h2, h3⟩
theorem Dc.seq {K : PySem.W.Frag} {H : Hp} {l d : Addr} {ns : List Int} (h : Dc K l ns H d) : SqL K H l (ns.map V.int) := by
  obtain ⟨s0, k, big, h1, h2, h3⟩ := h
  exact h2
theorem Dc.new {K : PySem.W.Frag} {H : Hp} {l d p : Addr} {ns : List Int} {o : HO} (h : Dc K l ns H d) (n : H p = none) : Dc K l ns (upd H p o) d := h.same (same_new n)
theorem Dc.some {K : PySem.W.Frag} {H : Hp} {l d : Addr} {ns : List Int} (h : Dc K l ns H d) : ∃ s0 k big, H d = Option.some (HO.lst (dl s0 l k big)) := by
  obtain ⟨s0, k, big, h1, _⟩ := h
  exact ⟨s0, k, big, h1⟩
theorem Dc.ne {K : PySem.W.Frag} {H : Hp} {l d p : Addr} {ns : List Int} (h : Dc K l ns H d) (n : H p = none) : p ≠ d := by
  obtain ⟨s0, k, big, e⟩ := h.some
  exact (ne_of_none e n).symm
/-- the dice is a list that begins with an int and a ref: no other list that we know -/
theorem Dc.ne_of {K : PySem.W.Frag} {H : Hp} {l d p : Addr} {ns : List Int} {u : HO} (h : Dc K l ns H d) (n : H p = Option.some u) (q : ∀ s0 l k big, u ≠ .lst (dl s0 l k big)) : p ≠ d := by
  obtain ⟨s0, k, big, e⟩ := h.some
  intro z
  rw [z, e] at n
  exact q _ _ _ _ (Option.some.inj n).symm
/-- another list is written, one that is newer than the script -/
theorem Dc.turn {K : PySem.W.Frag} {H0 H : Hp} {l d d0 p : Addr} {ns : List Int} {o : HO} (h : Dc K l ns H d) (h0 : Dc K l ns H0 d0) (n0 : H0 p = none) (n : p ≠ d) : Dc K l ns (upd H p o) d := by
  obtain ⟨s0, k, big, h1, h2, h3⟩ := h
  refine ⟨s0, k, big, ?_, seq_put h0.seq n0 h2, h3⟩
  rw [upd_ne n.symm]
  exact h1
/-! ### a chain's data -/
abbrev Mv := Int × List Int
def GoodRow (many : Nat) (row : List Int) : Prop := row.length = many ∧ ∀ x ∈ row, 0 ≤ x ∧ x < (many : Int)
def GoodMv (many : Nat) (m : Mv) : Prop := 1 ≤ m.1 ∧ m.1 ≤ 99 ∧ GoodRow many m.2
structure Good (many : Nat) (ms : List Mv) : Prop where
  m1 : 1 ≤ many
  m6 : many ≤ 6
  l1 : 1 ≤ ms.length
  l8 : ms.length ≤ 8
  mv : ∀ m ∈ ms, GoodMv many m
def MoveAt (H : Hp) (v : V) (m : Mv) : Prop := ∃ a q, v = .ref a ∧ H a = some (.tup [.int m.1, .ref q]) ∧ H q = some (.tup (m.2.map V.int))
abbrev MovesAt (H : Hp) : List V → List Mv → Prop := Paired (MoveAt H)
theorem MoveAt.same {H H' : Hp} {v : V} {m : Mv} (s : ∀ b xs, H b = some (.tup xs) → H' b = some (.tup xs)) (h : MoveAt H v m) : MoveAt H' v m := by
  obtain ⟨a, q, e, h1, h2⟩ := h
  exact ⟨a, q, e, s _ _ h1, s _ _ h2⟩
theorem MovesAt.same {H H' : Hp} (s : ∀ b xs, H b = some (.tup xs) → H' b = some (.tup xs)) : ∀ {vs : List V} {ms : List Mv}, MovesAt H vs ms → MovesAt H' vs ms
  | _, _, .nil => .nil
  | _, _, .cons h t => .cons (h.same s) (MovesAt.same s t)
theorem MovesAt.snoc {H : Hp} {v : V} {m : Mv} (h : MoveAt H v m) : ∀ {vs : List V} {ms : List Mv}, MovesAt H vs ms → MovesAt H (vs ++ [v]) (ms ++ [m])
  | _, _, .nil => .cons h .nil
  | _, _, .cons q t => .cons q (MovesAt.snoc h t)
theorem MovesAt.get {H : Hp} : ∀ {vs : List V} {ms : List Mv} {i : Nat} {m : Mv}, MovesAt H vs ms → ms[i]? = some m → ∃ v, vs[i]? = some v ∧ MoveAt H v m
  | _, _, _, _, .nil, e => by simp at e
  | _, _, 0, _, .cons h _, e => by
    simp at e
    subst e
    exact ⟨_, rfl, h⟩
  | _, _, i + 1, m, .cons _ t, e => by
    obtain ⟨v, h1, h2⟩ := MovesAt.get (i := i) (m := m) t (by simpa using e)
    exact ⟨v, by simpa using h1, h2⟩
theorem MovesAt.get' {H : Hp} : ∀ {vs : List V} {ms : List Mv} {i : Nat} {v : V}, MovesAt H vs ms → vs[i]? = some v → ∃ m, ms[i]? = some m ∧ MoveAt H v m
  | _, _, _, _, .nil, e => by simp at e
  | _, _, 0, _, .cons h _, e => by
    simp at e
    subst e
    exact ⟨_, rfl, h⟩
  | _, _, i + 1, v, .cons _ t, e => by
    obtain ⟨m, h1, h2⟩ := MovesAt.get' (i := i) (v := v) t (by simpa using e)
    exact ⟨m, by simpa using h1, h2⟩
/-- a told chain: (many, moves) at t, the moves' list at m -/
def ToldAt (H : Hp) (t m : Addr) (many : Nat) (vs : List V) (ms : List Mv) : Prop := H t = some (.tup [.int (many : Int), .ref m]) ∧ H m = some (.lst vs) ∧ MovesAt H vs ms
theorem Gr.tups {d l : Addr} {ns : List Int} {H H' : Hp} {K : PySem.W.Frag} (hd : Dc K l ns H d) (g : Gr d H H') : ∀ b xs, H b = some (.tup xs) → H' b = some (.tup xs) := fun b xs e =>
  g b _ (hd.ne_of e fun _ _ _ _ q => nomatch q) e
theorem Same.tups {H H' : Hp} (g : Same H H') : ∀ b xs, H b = some (.tup xs) → H' b = some (.tup xs) := fun b xs e => g b _ e
theorem ifD {c A B : Prop} [Decidable c] (hc : c) (h : A) : if decide c = true then A else B := by
  rw [decide_eq_true hc]
  exact iteT h
theorem small8 {n : Nat} (h : n ≤ 8) : n < sizeLine := Nat.lt_of_le_of_lt h (by decide)
section
variable {P : Program} {w : World} {K : PySem.W.Frag} {mg : Str → Option Value} {base : Heap}
/-! ### _law_cell -/
theorem scCell : FnScope ["_law_script", "_law_k"] ["_law_script", "_law_k"] (defScope sCell) := ⟨rfl, rfl, rfl, by decide +kernel, rfl, by decide +kernel, by decide +kernel⟩
def spCell (K : PySem.W.Frag) : Sp := fun vs H Q _ => ∃ (l : Addr) (ns : List Int) (j : Int), vs = [.ref l, .int j] ∧ SqL K H l (ns.map V.int) ∧ 0 ≤ j ∧ ∀ x : Int, Q (.int x) H
theorem ok_cell {f : Addr} {fd : FuncData} {k : Nat} (F : Fun K "_law_cell" "_law_cell" sCell f fd) (ml : mg "len" = none) : FnOk P w K mg base CX0 (k + 1) f fd ["_law_script", "_law_k"] (spCell K) := by
  refine F.ok scCell (fun vs H Q E h => ?_) (fun cdv A outer s H vs Q E hr h => ?_)
  · obtain ⟨l, ns, j, rfl, _⟩ := h
    rfl
  · obtain ⟨l, ns, j, rfl, hS, hj, q⟩ := h
    refine ⟨_, pss_cons (ps_if (pt_cmpR op_lt (pv 1) (pe_callB call_len_seq (by rfl) ml PySem.boot_len (pa_cons (pv 0) pa_nil)) (nomark _))
        (pss_one (ps_ret (pe_ix ix_list (pv 0) (pv 1) (fun _ _ => rfl)))) pss_nil)
      (pss_one (ps_ret pe_int)), ?_⟩
    refine ⟨.int j, rfl, .ref l, rfl, l, ns.map V.int, rfl, .inl hS, j, _, rfl, rfl, _, rfl, ite2 (fun e => ?_) (fun e => ?_)⟩
    · have e1 : j < ((ns.map V.int).length : Int) := of_decide_eq_true e
      rw [List.length_map] at e1
      have hn : j.toNat < ns.length := by omega
      have ej : j = ((j.toNat : Nat) : Int) := by omega
      have g : (ns.map V.int)[j.toNat]? = some (.int ns[j.toNat]) := by
        rw [List.getElem?_map, List.getElem?_eq_getElem hn]
        rfl
      exact ⟨.ref l, rfl, .int j, rfl, l, _, j, _, rfl, rfl, hS, at_of ej g, q _⟩
    · exact q 0
/-! ### _law_dice -/
theorem scDice : FnScope ["_law_script", "_law_k", "_law_cell_here"] ["_law_script", "_law_k"] (defScope sDice) := ⟨rfl, rfl, rfl, by decide +kernel, rfl, by decide +kernel, by decide +kernel⟩
def spDice (K : PySem.W.Frag) : Sp := fun vs H Q _ => ∃ (l : Addr) (ns : List Int) (j : Int), vs = [.ref l, .int j] ∧ SqL K H l (ns.map V.int) ∧ ns.length ≤ 63 ∧ 0 ≤ j ∧ ∀ H' d, Same H H' → H d = none → Dc K l ns H' d → Q (.ref d) H'
theorem abs_nn (x : Int) : 0 ≤ (if x < 0 then -x else x) := by
  split <;> omega
theorem ok_dice {f fC : Addr} {fd fdC : FuncData} (F : Fun K "_law_dice" "_law_dice" sDice f fd) (FC : Fun K "_law_cell" "_law_cell" sCell fC fdC) (bC : Binds K fdC ["_law_script", "_law_k"] []) (gC : mg "_law_cell" = some (.ref fC))
    (ml : mg "len" = none) (ma : mg "abs" = none) (mi : mg "int" = none) : FnOk P w K mg base CX0 2 f fd ["_law_script", "_law_k"] (spDice K) := by
  have GC : FnOk P w K mg base CX0 1 fC fdC ["_law_script", "_law_k"] (spCell K) := ok_cell FC ml
  refine F.ok scDice (fun vs H Q E h => ?_) (fun cdv A outer s H vs Q E hr h => ?_)
  · obtain ⟨l, ns, j, rfl, _⟩ := h
    rfl
  · obtain ⟨l, ns, j, rfl, hS, hl, hj, q⟩ := h
    refine ⟨_, pss_cons (ps_set (i := 2) scDice.nd rfl (.inl rfl) (pe_callB call_abs (by rfl) ma (by decide +kernel) (pa_cons (pe_call GC hr (by rfl) gC FC.kp bC .nil pass0 (pa_cons (pv 0) (pa_cons (pv 1) pa_nil))) pa_nil)))
      (pss_one (ps_ret (pe_lst (pa_cons (pe_op op_mod (pv 2) pe_int) (pa_cons (pv 0) (pa_cons (pe_op op_add (pv 1) pe_int)
        (pa_cons (pe_op op_mul (pe_callTy call_int1 (by rfl) mi (by decide +kernel) (pa_cons (pe_cmpR op_ge (pv 2) (pe_op op_pow pe_int pe_int) (nomark _)) pa_nil)) (pv 2)) pa_nil))))))), ?_⟩
    refine ⟨.ref l, rfl, .int j, rfl, l, ns, j, rfl, hS, hj, fun x => ?_⟩
    refine ⟨x, rfl, ?_⟩
    have ha := abs_nn x
    generalize (if x < 0 then -x else x) = c at ha ⊢
    have m0 : 0 ≤ c % 2147483647 := Int.emod_nonneg _ (by decide)
    have m1 : c % 2147483647 < 2147483647 := Int.emod_lt_of_pos _ (by decide)
    refine ⟨.int c, rfl, c, 2147483647, rfl, rfl, (by show (0 : Int) < 2147483647; decide), .ref l, rfl, .int j, rfl, j, 1, rfl, rfl, ?_⟩
    refine ⟨.int c, rfl, 10, 18, rfl, rfl, ⟨by decide, by decide, by decide⟩, c, _, rfl, rfl, .inr ⟨_, rfl, ?_⟩⟩
    refine ⟨.int c, rfl, _, c, rfl, rfl, .inl ?_, ?_⟩
    · split <;> decide
    · refine ⟨by show 4 ≤ sizeLine; decide, fun d nd => ?_⟩
      refine q _ d (same_new nd) nd ⟨_, _, _, upd_same, (same_new nd).seq hS, hl, m0, m1, by omega, ?_⟩
      split
      · omega
      · omega
/-! ### _law_off -/
theorem scOff : FnScope ["_law_d", "_law_most", "_law_found", "_law_more"] ["_law_d", "_law_most"] (defScope sOff) := ⟨rfl, rfl, rfl, by decide +kernel, rfl, by decide +kernel, by decide +kernel⟩
def spOff (K : PySem.W.Frag) : Sp := fun vs H Q _ => ∃ (d l : Addr) (ns : List Int) (most : Int), vs = [.ref d, .int most] ∧ Dc K l ns H d ∧ 1 ≤ most ∧ most ≤ 1000000 ∧ ∀ (r : Nat) H', (r : Int) < most → Dc K l ns H' d → (∀ b, b ≠ d → H' b = H b) → Q (.int (r : Int)) H'
theorem max1 (x : Int) (h : 0 ≤ x) : 1 ≤ (if x > 1 then x else 1) := by
  split <;> omega
theorem ok_off {f fC : Addr} {fd fdC : FuncData} (F : Fun K "_law_off" "_law_off" sOff f fd) (FC : Fun K "_law_cell" "_law_cell" sCell fC fdC) (bC : Binds K fdC ["_law_script", "_law_k"] []) (gC : mg "_law_cell" = some (.ref fC))
    (ml : mg "len" = none) (ma : mg "abs" = none) (mm : mg "max" = none) : FnOk P w K mg base CX0 2 f fd ["_law_d", "_law_most"] (spOff K) := by
  have GC : FnOk P w K mg base CX0 1 fC fdC ["_law_script", "_law_k"] (spCell K) := ok_cell FC ml
  refine F.ok scOff (fun vs H Q E h => ?_) (fun cdv A outer s H vs Q E hr h => ?_)
  · obtain ⟨d, l, ns, most, rfl, _⟩ := h
    rfl
  · obtain ⟨d, l, ns, most, rfl, ⟨s0, k, big, hD, hS, hl, z0, z1, hk, hb⟩, hm1, hm2, q⟩ := h
    refine ⟨_, pss_cons (ps_if (pt_cmpR op_gt (pe_ix ix_list (pv 0) pe_int (fun _ _ => rfl)) pe_int (nomark _))
        (pss_cons (ps_set (i := 2) scOff.nd rfl (.inl rfl) (pe_op op_mod (pe_ix ix_list (pv 0) pe_int (fun _ _ => rfl)) (pv 1)))
          (pss_cons (ps_asg (pe_op op_fdiv (pe_ix ix_list (pv 0) pe_int (fun _ _ => rfl)) (pv 1)) (pg_sub (pv 0) pe_int set_list))
            (pss_one (ps_ret (pv 2))))) pss_nil)
      (pss_cons (ps_set (i := 3) scOff.nd rfl (.inl rfl) (pe_callB call_abs (by rfl) ma (by decide +kernel) (pa_cons (pe_call GC hr (by rfl) gC FC.kp bC .nil pass0
          (pa_cons (pe_ix ix_list (pv 0) pe_int (fun _ _ => rfl)) (pa_cons (pe_op op_mod (pe_ix ix_list (pv 0) pe_int (fun _ _ => rfl))
            (pe_callB (call_max2 rfl) (by rfl) mm (by decide +kernel) (pa_cons pe_int (pa_cons (pe_callB call_len_seq (by rfl) ml PySem.boot_len (pa_cons (pe_ix ix_list (pv 0) pe_int (fun _ _ => rfl)) pa_nil)) pa_nil)))) pa_nil))) pa_nil)))
      (pss_cons (ps_asg (pe_op op_add (pe_ix ix_list (pv 0) pe_int (fun _ _ => rfl)) pe_int) (pg_sub (pv 0) pe_int set_list))
      (pss_cons (ps_asg (pe_op op_mod (pe_op op_add (pe_op op_add (pe_op op_mul (pe_ix ix_list (pv 0) pe_int (fun _ _ => rfl)) pe_int) pe_int) (pv 3)) pe_int) (pg_sub (pv 0) pe_int set_list))
      (pss_one (ps_ret (pe_op op_mod (pe_op op_fdiv (pe_ix ix_list (pv 0) pe_int (fun _ _ => rfl)) pe_int) (pv 1)))))))
      , ?_⟩
    have hD0 : SqL K H d (dl s0 l k big) := SqL.of hD
    refine ⟨.ref d, rfl, d, _, 3, _, rfl, rfl, hD0, atI_nat (j := 3) rfl, big, 0, rfl, rfl, _, rfl, ite2 (fun e => ?_) (fun e => ?_)⟩
    · have e1 : 0 < big := of_decide_eq_true e
      refine ⟨.ref d, rfl, d, _, 3, _, rfl, rfl, hD0, atI_nat (j := 3) rfl, .int most, rfl, big, most, rfl, rfl, (by show 0 < most; omega), ?_⟩
      refine ⟨.ref d, rfl, d, _, 3, _, rfl, rfl, hD0, atI_nat (j := 3) rfl, .int most, rfl, big, most, rfl, rfl, ⟨by show 0 < most; omega, by show most < 1073741824; omega⟩, ?_⟩
      refine ⟨.ref d, rfl, d, _, 3, 3, rfl, rfl, hD, rfl, ?_⟩
      have r0 : 0 ≤ big % most := Int.emod_nonneg _ (by omega)
      have r1 : big % most < most := Int.emod_lt_of_pos _ (by omega)
      have er : big % most = (((big % most).toNat : Nat) : Int) := by omega
      refine ⟨.int (big % most), rfl, ?_⟩
      rw [er]
      refine q _ _ (by omega) ⟨s0, k, big / most, upd_same, seq_turn hD hS (fun b hb => upd_ne hb), hl, z0, z1, hk, Int.ediv_nonneg hb (by omega)⟩ (fun b hb => upd_ne hb)
    · refine ⟨.ref d, rfl, d, _, 1, _, rfl, rfl, hD0, atI_nat (j := 1) rfl, .ref d, rfl, d, _, 2, _, rfl, rfl, hD0, atI_nat (j := 2) rfl, ?_⟩
      refine ⟨.ref d, rfl, d, _, 1, _, rfl, rfl, hD0, atI_nat (j := 1) rfl, l, _, rfl, .inl hS, 1, _, rfl, ?_⟩
      have hx := max1 (((ns.map V.int).length : Nat) : Int) (by omega)
      generalize (if (((ns.map V.int).length : Nat) : Int) > 1 then (((ns.map V.int).length : Nat) : Int) else 1) = mx at hx ⊢
      refine ⟨k, mx, rfl, rfl, (by show 0 < mx; omega), l, ns, k % mx, rfl, hS, Int.emod_nonneg _ (by omega), fun x => ⟨x, rfl, ?_⟩⟩
      have ha := abs_nn x
      generalize (if x < 0 then -x else x) = c at ha ⊢
      -- d[2] = d[2] + 1
      refine ⟨.ref d, rfl, d, _, 2, _, rfl, rfl, hD0, atI_nat (j := 2) rfl, k, 1, rfl, rfl, .ref d, rfl, d, _, 2, 2, rfl, rfl, hD, rfl, ?_⟩
      have g1 : (upd H d (.lst (dl s0 l (k + 1) big))) d = some (.lst (dl s0 l (k + 1) big)) := upd_same
      have g2 : SqL K (upd H d (.lst (dl s0 l (k + 1) big))) d (dl s0 l (k + 1) big) := SqL.of g1
      refine ⟨.ref d, rfl, d, _, 0, _, rfl, rfl, g2, atI_nat (j := 0) rfl, s0, 48271, rfl, rfl, .inl ⟨by omega, by omega⟩, s0 * 48271, 11, rfl, rfl, .int c, rfl, s0 * 48271 + 11, c, rfl, rfl, s0 * 48271 + 11 + c, 2147483647, rfl, rfl, (by show (0 : Int) < 2147483647; decide), ?_⟩
      have m0 : 0 ≤ (s0 * 48271 + 11 + c) % 2147483647 := Int.emod_nonneg _ (by decide)
      have m1 : (s0 * 48271 + 11 + c) % 2147483647 < 2147483647 := Int.emod_lt_of_pos _ (by decide)
      refine ⟨.ref d, rfl, d, _, 0, 0, rfl, rfl, g1, rfl, ?_⟩
      rw [upd_upd]
      have g3 : (upd H d (.lst (dl ((s0 * 48271 + 11 + c) % 2147483647) l (k + 1) big))) d = some (.lst (dl ((s0 * 48271 + 11 + c) % 2147483647) l (k + 1) big)) := upd_same
      have g4 : SqL K (upd H d (.lst (dl ((s0 * 48271 + 11 + c) % 2147483647) l (k + 1) big))) d (dl ((s0 * 48271 + 11 + c) % 2147483647) l (k + 1) big) := SqL.of g3
      refine ⟨.ref d, rfl, d, _, 0, _, rfl, rfl, g4, atI_nat (j := 0) rfl, ((s0 * 48271 + 11 + c) % 2147483647), 64, rfl, rfl, ⟨by decide, by decide⟩, .int most, rfl, ((s0 * 48271 + 11 + c) % 2147483647) / 64, most, rfl, rfl, (by show 0 < most; omega), ?_⟩
      have r0 : 0 ≤ ((s0 * 48271 + 11 + c) % 2147483647) / 64 % most := Int.emod_nonneg _ (by omega)
      have r1 : ((s0 * 48271 + 11 + c) % 2147483647) / 64 % most < most := Int.emod_lt_of_pos _ (by omega)
      have er : ((s0 * 48271 + 11 + c) % 2147483647) / 64 % most = (((((s0 * 48271 + 11 + c) % 2147483647) / 64 % most).toNat : Nat) : Int) := by omega
      show Q (.int (((s0 * 48271 + 11 + c) % 2147483647) / 64 % most)) _
      rw [er]
      exact q _ _ (by omega) ⟨((s0 * 48271 + 11 + c) % 2147483647), k + 1, big, g3, seq_turn hD hS (fun b hb => upd_ne hb), hl, m0, m1, by omega, hb⟩ (fun b hb => upd_ne hb)
end
section
variable {P : Program} {w : World} {K : PySem.W.Frag} {mg : Str → Option Value} {base : Heap}
/-! ### _law_chain -/
def nChain : List Str := ["_law_d", "_law_most", "_law_many", "_law_way", "_law_moves", "_law_k", "_law_row", "_law_weight", "_law_place"]
theorem scChain : FnScope ["_law_d", "_law_most", "_law_many", "_law_way", "_law_moves", "_law_k", "_law_row", "_law_weight", "_law_place"] ["_law_d", "_law_most"] (defScope sChain) := ⟨rfl, rfl, rfl, by decide +kernel, rfl, by decide +kernel, by decide +kernel⟩
def spChain (K : PySem.W.Frag) : Sp := fun vs H Q _ => ∃ (d l : Addr) (ns : List Int) (most : Nat), vs = [.ref d, .int (most : Int)] ∧ Dc K l ns H d ∧ 1 ≤ most ∧ most ≤ 6 ∧
  ∀ (t m : Addr) (many : Nat) (ws : List V) (ms : List Mv) H', Good many ms → many ≤ most → ToldAt H' t m many ws ms → Dc K l ns H' d → Gr d H H' → Q (.ref t) H'
/-- what the law's texts call -/
structure LawTxt (K : PySem.W.Frag) (mg : Str → Option Value) (fC fD fO : Addr) (fdC fdD fdO : FuncData) : Prop where
  FC : Fun K "_law_cell" "_law_cell" sCell fC fdC
  bC : Binds K fdC ["_law_script", "_law_k"] []
  gC : mg "_law_cell" = some (.ref fC)
  FD : Fun K "_law_dice" "_law_dice" sDice fD fdD
  bD : Binds K fdD ["_law_script", "_law_k"] []
  gD : mg "_law_dice" = some (.ref fD)
  FO : Fun K "_law_off" "_law_off" sOff fO fdO
  bO : Binds K fdO ["_law_d", "_law_most"] []
  gO : mg "_law_off" = some (.ref fO)
  ml : mg "len" = none
  ma : mg "abs" = none
  mm : mg "max" = none
  mn : mg "min" = none
  mi : mg "int" = none
  mr : mg "range" = none
  ms : mg "sorted" = none
  mt : mg "tuple" = none
section
variable {fC fD fO : Addr} {fdC fdD fdO : FuncData}
theorem LawTxt.off (T : LawTxt K mg fC fD fO fdC fdD fdO) : FnOk P w K mg base CX0 2 fO fdO ["_law_d", "_law_most"] (spOff K) := ok_off T.FO T.FC T.bC T.gC T.ml T.ma T.mm
theorem LawTxt.dice (T : LawTxt K mg fC fD fO fdC fdD fdO) : FnOk P w K mg base CX0 2 fD fdD ["_law_script", "_law_k"] (spDice K) := ok_dice T.FD T.FC T.bC T.gC T.ml T.ma T.mi
theorem perm_row {many : Nat} {xs ys : List Int} (p : ys.Perm xs) (h : GoodRow many xs) : GoodRow many ys := ⟨p.length_eq.trans h.1, fun x hx => h.2 x (p.mem_iff.mp hx)⟩
theorem clamp (m x : Int) (h : 0 ≤ m) : 0 ≤ (if (if x < m then x else m) > 0 then (if x < m then x else m) else 0) ∧ (if (if x < m then x else m) > 0 then (if x < m then x else m) else 0) < m + 1 := by
  split <;> split at * <;> omega
theorem ok_chain {f : Addr} {fd : FuncData} (F : Fun K "_law_chain" "_law_chain" sChain f fd) (T : LawTxt K mg fC fD fO fdC fdD fdO) : FnOk P w K mg base CX0 3 f fd ["_law_d", "_law_most"] (spChain K) := by
  have GO : FnOk P w K mg base CX0 2 fO fdO ["_law_d", "_law_most"] (spOff K) := T.off
  refine F.ok scChain (fun vs H Q E h => ?_) (fun cdv A outer s H vs Q E hr h => ?_)
  · obtain ⟨d, l, ns, most, rfl, _⟩ := h
    rfl
  · obtain ⟨d, l, ns, most, rfl, hD, hm1, hm6, q⟩ := h
    refine ⟨_, pss_cons (ps_set (i := 2) scChain.nd rfl (.inr rfl) (pe_op op_add pe_int (pe_call GO hr (by rfl) T.gO T.FO.kp T.bO .nil pass0 (pa_cons (pv 0) (pa_cons (pv 1) pa_nil)))))
      (pss_cons (ps_set (i := 3) scChain.nd rfl (.inl rfl) (pe_call GO hr (by rfl) T.gO T.FO.kp T.bO .nil pass0 (pa_cons (pv 0) (pa_cons pe_int pa_nil))))
      (pss_cons (ps_set (i := 4) scChain.nd rfl (.inl rfl) (pe_lst pa_nil))
      (pss_cons (ps_for PassesOwn.never rfl (pi_range1 (by rfl) T.mr (pa_cons (pe_op op_add pe_int (pe_call GO hr (by rfl) T.gO T.FO.kp T.bO .nil pass0 (pa_cons (pv 0)
            (pa_cons (pe_ix ix_list (pe_lst (pa_cons pe_int (pa_cons pe_int (pa_cons pe_int pa_nil)))) (pe_call GO hr (by rfl) T.gO T.FO.kp T.bO .nil pass0 (pa_cons (pv 0) (pa_cons pe_int pa_nil))) (fun _ _ => rfl)) pa_nil)))) pa_nil))
          (pg_name (i := 5) scChain.nd rfl (.inl rfl))
          (pss_cons (ps_setLc (i := 6) (own := [("_law_place", 8)]) (g := gName 8) (tt := tYes) rfl scChain.nd rfl rfl (sw_true rfl rfl rfl (by decide +kernel)) (pi_range1 (by rfl) T.mr (pa_cons (pv 2) pa_nil)) (blkOk_by (N := nChain) (sc := defScope sChain) (by decide +kernel))
              (fun _ _ _ _ _ => pg_name (i := 8) scChain.nd rfl (.inl rfl)) (fun _ _ _ _ _ => pts_nil)
              (fun _ _ _ _ _ => pe_call GO hr (by rfl) T.gO T.FO.kp T.bO .nil pass0 (pa_cons (pv 0) (pa_cons (pv 2) pa_nil))))
          (C8.pss_cut (ps_if (pt_cmpR op_eq (pv 3) pe_int (nomark _)) (pss_one (ps_set (i := 6) scChain.nd rfl (.inl rfl) (pe_callB cr_sorted (by rfl) T.ms (by decide +kernel) (pa_cons (pv 6) pa_nil)))) pss_nil)
          (C8.pss_cut (ps_if (pt_cmpR op_eq (pv 3) pe_int (nomark _)) (pss_one
              (ps_setLc (i := 6) (own := [("_law_place", 8)]) (g := gName 8) (tt := tYes) rfl scChain.nd rfl rfl (sw_true rfl rfl rfl (by decide +kernel)) (pi_range1 (by rfl) T.mr (pa_cons (pv 2) pa_nil)) (blkOk_by (N := nChain) (sc := defScope sChain) (by decide +kernel))
              (fun _ _ _ _ _ => pg_name (i := 8) scChain.nd rfl (.inl rfl)) (fun _ _ _ _ _ => pts_nil)
              (fun _ _ _ _ _ => pe_callB (call_max2 rfl) (by rfl) T.mm (by decide +kernel) (pa_cons pe_int (pa_cons (pe_callB (call_min2 rfl) (by rfl) T.mn (by decide +kernel) (pa_cons (pe_op op_sub (pv 2) pe_int) (pa_cons
                (pe_op op_sub (pe_op op_add (pv 8) (pe_call GO hr (by rfl) T.gO T.FO.kp T.bO .nil pass0 (pa_cons (pv 0) (pa_cons pe_int pa_nil)))) pe_int) pa_nil))) pa_nil))))) pss_nil)
          (pss_cons (ps_set (i := 7) scChain.nd rfl (.inl rfl) (pe_ix ix_list (pe_lst (pa_cons pe_int (pa_cons (pe_op op_add pe_int (pe_call GO hr (by rfl) T.gO T.FO.kp T.bO .nil pass0 (pa_cons (pv 0) (pa_cons pe_int pa_nil))))
              (pa_cons (pe_op op_add pe_int (pe_call GO hr (by rfl) T.gO T.FO.kp T.bO .nil pass0 (pa_cons (pv 0) (pa_cons pe_int pa_nil)))) pa_nil)))) (pe_call GO hr (by rfl) T.gO T.FO.kp T.bO .nil pass0 (pa_cons (pv 0) (pa_cons pe_int pa_nil))) (fun _ _ => rfl)))
          (pss_one (ps_expr (pe_bm PySem.F.plainAttrs_list PySem.F.slot_list_append PySem.F.type_list_append mt_append (pv 4) (pa_cons (pe_tup (pa_cons (pv 7) (pa_cons (pe_callTy call_tuple_of (by rfl) T.mt (by decide +kernel) (pa_cons (pv 6) pa_nil)) pa_nil))) pa_nil)))))))))
      (pss_one (ps_ret (pe_tup (pa_cons (pv 2) (pa_cons (pv 4) pa_nil)))))))), ?_⟩
    -- many, way, moves
    refine ⟨.ref d, rfl, .int most, rfl, d, l, ns, _, rfl, hD, by omega, by omega, fun r H1 hr1 hD1 o1 => ?_⟩
    refine ⟨1, r, rfl, rfl, .ref d, rfl, d, l, ns, _, rfl, hD1, by omega, by omega, fun way H2 hr2 hD2 o2 => ?_⟩
    obtain ⟨many, em⟩ : ∃ many : Nat, many = 1 + r := ⟨_, rfl⟩
    have em2 : (1 : Int) + (r : Int) = (many : Int) := by omega
    have g2 : Gr d H H2 := ((Gr.refl d H).off o1).off o2
    refine ⟨Nat.zero_le _, fun m nm => ?_⟩
    have hD3 : Dc K l ns (upd H2 m (.lst [])) d := hD2.new nm
    have g3 : Gr d H (upd H2 m (.lst [])) := g2.new nm
    have hm3 : (upd H2 m (.lst [])) m = some (.lst []) := upd_same
    -- the loop's range
    refine ⟨.ref d, rfl, (by show 3 ≤ sizeLine; decide), fun L nL => ?_⟩
    have hD4 := hD3.new (o := .lst [.int 4, .int 4, .int 8]) nL
    have g4 : Gr d H (upd (upd H2 m (.lst [])) L (.lst [.int 4, .int 4, .int 8])) := g3.new nL
    have nLm : L ≠ m := fun z => by rw [z, upd_same] at nL; cases nL
    have hm4 : (upd (upd H2 m (.lst [])) L (.lst [.int 4, .int 4, .int 8])) m = some (.lst []) := by rw [upd_ne (Ne.symm nLm)]; exact hm3
    have hL4 : (upd (upd H2 m (.lst [])) L (.lst [.int 4, .int 4, .int 8])) L = some (.lst [.int 4, .int 4, .int 8]) := upd_same
    generalize (upd (upd H2 m (.lst [])) L (.lst [.int 4, .int 4, .int 8])) = H4 at hD4 g4 hm4 hL4 ⊢
    refine ⟨.ref d, rfl, d, l, ns, _, rfl, hD4, by omega, by omega, fun r3 H5 hr3 hD5 o5 => ?_⟩
    have nmd : m ≠ d := hD2.ne nm
    have nLd : L ≠ d := hD3.ne nL
    have hL5 : H5 L = some (.lst [.int 4, .int 4, .int 8]) := by rw [o5 _ nLd]; exact hL4
    have hm5 : H5 m = some (.lst []) := by rw [o5 _ nmd]; exact hm4
    have g5 : Gr d H H5 := g4.off o5
    obtain ⟨c, hc4, hc8, hc⟩ : ∃ c : Int, 4 ≤ c ∧ c ≤ 8 ∧ ([.int 4, .int 4, .int 8] : List V)[r3]? = some (.int c) := by
      have h3 : r3 < 3 := by omega
      match r3, h3 with
      | 0, _ => exact ⟨4, by decide, by decide, rfl⟩
      | 1, _ => exact ⟨4, by decide, by decide, rfl⟩
      | 2, _ => exact ⟨8, by decide, by decide, rfl⟩
    refine ⟨L, _, _, _, rfl, rfl, SqL.of hL5, atI_nat hc, d, l, ns, _, rfl, hD5, by omega, by omega, fun cnt H6 hr6 hD6 o6 => ?_⟩
    have hm6' : H6 m = some (.lst []) := by rw [o6 _ nmd]; exact hm5
    have g6 : Gr d H H6 := g5.off o6
    refine ⟨1, cnt, rfl, rfl, _, rfl, by omega, by omega, ?_⟩
    have en : ((1 : Int) + (cnt : Int)).toNat = 1 + cnt := by omega
    refine for_range (lo := 0) (n := ((1 : Int) + (cnt : Int)).toNat)
      (fun i σ H' => ∃ y5 y6 y7 ms ws, σ = [some (.ref d), some (.int (most : Int)), some (.int ((1 : Int) + (r : Int))), some (.int (way : Int)), some (.ref m), y5, y6, y7, none] ∧
        Dc K l ns H' d ∧ Gr d H H' ∧ H' m = some (.lst ws) ∧ MovesAt H' ws ms ∧ ms.length = i ∧ ∀ mv ∈ ms, GoodMv many mv)
      ⟨none, none, none, [], [], rfl, hD6, g6, hm6', .nil, rfl, fun _ z => nomatch z⟩ ?_ ?_
    · rintro i σ H7 hi ⟨y5, y6, y7, ms, ws, rfl, hD7, g7, hm7, hM7, hl7, hg7⟩
      rw [en] at hi
      -- row = [off(d, many) for place in range(many)]
      refine ⟨_, rfl, _, rfl, by omega, by omega, fun D nD => ?_⟩
      have nDd : D ≠ d := hD7.ne nD
      have er : ((1 : Int) + (r : Int)).toNat = many := by omega
      refine lc_range (lo := 0) (n := ((1 : Int) + (r : Int)).toNat)
        (fun j H' => ∃ row : List Int, H' D = some (.lst (row.map V.int)) ∧ row.length = j ∧ (∀ x ∈ row, 0 ≤ x ∧ x < (many : Int)) ∧ Dc K l ns H' d ∧ Gr d H7 H')
        ⟨[], upd_same, rfl, (fun _ z => nomatch z), hD7.new nD, (Gr.refl d H7).new nD⟩ ?_ ?_
      · rintro j H8 hj ⟨row, hrow, hrl, hrx, hD8, g8⟩
        refine ⟨rfl, .ref d, rfl, _, rfl, d, l, ns, _, rfl, hD8, by omega, by omega, fun x H9 hx hD9 o9 => ?_⟩
        have hrow9 : H9 D = some (.lst (row.map V.int)) := by rw [o9 _ nDd]; exact hrow
        refine ⟨_, hrow9, ?_, row ++ [(x : Int)], ?_, ?_, ?_, hD9.turn hD7 nD nDd, ?_⟩
        · rw [List.length_map, hrl]
          exact small8 (by omega)
        · rw [upd_same, List.map_append]
          rfl
        · rw [List.length_append, hrl]
          rfl
        · intro z hz
          rcases List.mem_append.mp hz with hz | hz
          · exact hrx z hz
          · have e : z = (x : Int) := by simpa using hz
            omega
        · intro b o nb e
          have e8 := g8.off o9 b o nb e
          rw [upd_ne (ne_of_none e nD)]
          exact e8
      · rintro H8 ⟨row, hrow, hrl, hrx, hD8, g8⟩
        have hR : GoodRow many row := ⟨hrl.trans er, hrx⟩
        let Mid : L2.St → Hp → Prop := fun σ H9 => ∃ D9 row, σ = [some (.ref d), some (.int (most : Int)), some (.int ((1 : Int) + (r : Int))), some (.int (way : Int)), some (.ref m), some (.int (0 + (i : Int))), some (.ref D9), y7, none] ∧
          H9 D9 = some (.lst (row.map V.int)) ∧ GoodRow many row ∧ Dc K l ns H9 d ∧ Gr d H7 H9
        have mid0 : Mid [some (.ref d), some (.int (most : Int)), some (.int ((1 : Int) + (r : Int))), some (.int (way : Int)), some (.ref m), some (.int (0 + (i : Int))), some (.ref D), y7, none] H8 := ⟨D, row, rfl, hrow, hR, hD8, g8⟩
        refine ⟨Mid, ⟨_, rfl, rfl, _, rfl, ite2 (fun e => ?_) (fun e => mid0)⟩, ?_⟩
        · -- row = sorted(row)
          refine ⟨_, rfl, D, row, rfl, SqL.of hrow, by omega, fun ns' p hp _ np => ?_⟩
          exact ⟨p, ns', rfl, upd_same, perm_row hp hR, hD8.new np, g8.new np⟩
        · rintro σ9 H9 ⟨D9, row9, rfl, hrow9, hR9, hD9, g9⟩
          refine ⟨Mid, ⟨_, rfl, rfl, _, rfl, ite2 (fun e => ?_) (fun e => ⟨D9, row9, rfl, hrow9, hR9, hD9, g9⟩)⟩, ?_⟩
          · -- row = [max(0, min(many - 1, ..)) ..]
            refine ⟨_, rfl, _, rfl, by omega, by omega, fun D' nD' => ?_⟩
            have nDd' : D' ≠ d := hD9.ne nD'
            refine lc_range (lo := 0) (n := ((1 : Int) + (r : Int)).toNat)
              (fun j H' => ∃ row : List Int, H' D' = some (.lst (row.map V.int)) ∧ row.length = j ∧ (∀ x ∈ row, 0 ≤ x ∧ x < (many : Int)) ∧ Dc K l ns H' d ∧ Gr d H9 H')
              ⟨[], upd_same, rfl, (fun _ z => nomatch z), hD9.new nD', (Gr.refl d H9).new nD'⟩ ?_ ?_
            · rintro j H10 hj ⟨row', hrow', hrl', hrx', hD10, g10⟩
              refine ⟨rfl, _, rfl, _, _, rfl, rfl, _, rfl, .ref d, rfl, d, l, ns, _, rfl, hD10, by omega, by omega, fun x H11 hx hD11 o11 => ?_⟩
              refine ⟨_, _, rfl, rfl, _, _, rfl, rfl, _, _, rfl, _, _, rfl, ?_⟩
              have cl := clamp ((1 : Int) + (r : Int) - 1) (0 + (j : Int) + (x : Int) - 1) (by omega)
              generalize (if (if 0 + (j : Int) + (x : Int) - 1 < (1 : Int) + (r : Int) - 1 then 0 + (j : Int) + (x : Int) - 1 else (1 : Int) + (r : Int) - 1) > 0 then
                (if 0 + (j : Int) + (x : Int) - 1 < (1 : Int) + (r : Int) - 1 then 0 + (j : Int) + (x : Int) - 1 else (1 : Int) + (r : Int) - 1) else 0) = z at cl ⊢
              have hrow9 : H11 D' = some (.lst (row'.map V.int)) := by rw [o11 _ nDd']; exact hrow'
              refine ⟨_, hrow9, ?_, row' ++ [z], ?_, ?_, ?_, hD11.turn hD9 nD' nDd', ?_⟩
              · rw [List.length_map, hrl']
                exact small8 (by omega)
              · rw [upd_same, List.map_append]
                rfl
              · rw [List.length_append, hrl']
                rfl
              · intro y hy
                rcases List.mem_append.mp hy with hy | hy
                · exact hrx' y hy
                · have e : y = z := by simpa using hy
                  omega
              · intro b o nb e
                have e8 := g10.off o11 b o nb e
                rw [upd_ne (ne_of_none e nD')]
                exact e8
            · rintro H10 ⟨row', hrow', hrl', hrx', hD10, g10⟩
              exact ⟨D', row', rfl, hrow', ⟨hrl'.trans er, hrx'⟩, hD10, g9.trans g10⟩
          · rintro σ10 H10 ⟨D10, row, rfl, hrow, hR, hD10, g10⟩
            -- weight = [1, 1 + off(d, 4), 1 + off(d, 99)][off(d, 3)]
            have g10' : Gr d H H10 := g7.trans g10
            refine ⟨.ref d, rfl, d, l, ns, _, rfl, hD10, by omega, by omega, fun x1 H11 hx1 hD11 o11 => ?_⟩
            refine ⟨1, x1, rfl, rfl, .ref d, rfl, d, l, ns, _, rfl, hD11, by omega, by omega, fun x2 H12 hx2 hD12 o12 => ?_⟩
            refine ⟨1, x2, rfl, rfl, (by show 3 ≤ sizeLine; decide), fun W nW => ?_⟩
            have hD13 := hD12.new (o := .lst [.int 1, .int (1 + (x1 : Int)), .int (1 + (x2 : Int))]) nW
            have nWd : W ≠ d := hD12.ne nW
            have g13 : Gr d H10 (upd H12 W (.lst [.int 1, .int (1 + (x1 : Int)), .int (1 + (x2 : Int))])) := (((Gr.refl d H10).off o11).off o12).new nW
            have hW13 : (upd H12 W (.lst [.int 1, .int (1 + (x1 : Int)), .int (1 + (x2 : Int))])) W = some (.lst [.int 1, .int (1 + (x1 : Int)), .int (1 + (x2 : Int))]) := upd_same
            refine ⟨.ref d, rfl, d, l, ns, _, rfl, hD13, by omega, by omega, fun x3 H14 hx3 hD14 o14 => ?_⟩
            have hW14 : H14 W = some (.lst [.int 1, .int (1 + (x1 : Int)), .int (1 + (x2 : Int))]) := by rw [o14 _ nWd]; exact hW13
            have g14 : Gr d H10 H14 := g13.off o14
            obtain ⟨wt, hw1, hw9, hw⟩ : ∃ c : Int, 1 ≤ c ∧ c ≤ 99 ∧ ([.int 1, .int (1 + (x1 : Int)), .int (1 + (x2 : Int))] : List V)[x3]? = some (.int c) := by
              have h3 : x3 < 3 := by omega
              match x3, h3 with
              | 0, _ => exact ⟨1, by decide, by decide, rfl⟩
              | 1, _ => exact ⟨1 + (x1 : Int), by omega, by omega, rfl⟩
              | 2, _ => exact ⟨1 + (x2 : Int), by omega, by omega, rfl⟩
            refine ⟨W, _, _, _, rfl, rfl, SqL.of hW14, atI_nat hw, ?_⟩
            -- moves.append((weight, tuple(row)))
            have nm' : ∀ {H'}, Dc K l ns H' d → H' m = H' m := fun _ => rfl
            have hm14 : H14 m = some (.lst ws) := (g10.trans g14) m _ nmd hm7
            have nD10 : D10 ≠ d := hD10.ne_of hrow fun s0 l k big z => by
              injection z with z
              exact map_int_dl z
            have hrow14 : H14 D10 = some (.lst (row.map V.int)) := g14 D10 _ nD10 hrow
            refine ⟨.ref m, rfl, .inl ⟨rfl, _, SqL.of hm14⟩, .int wt, rfl, .ref D10, rfl, D10, _, rfl, .inl ⟨SqL.of hrow14, fun tq ntq => ?_⟩⟩
            refine ⟨by show 2 ≤ sizeLine; decide, fun tp ntp => ?_⟩
            have g16 : Same H14 (upd (upd H14 tq (.tup (row.map V.int))) tp (.tup [.int wt, .ref tq])) := (same_new ntq).trans (same_new ntp)
            have htp : (upd (upd H14 tq (.tup (row.map V.int))) tp (.tup [.int wt, .ref tq])) tp = some (.tup [.int wt, .ref tq]) := upd_same
            have htq : (upd (upd H14 tq (.tup (row.map V.int))) tp (.tup [.int wt, .ref tq])) tq = some (.tup (row.map V.int)) := by
              rw [upd_ne (ne_of_none upd_same ntp)]
              exact upd_same
            have hD16 := hD14.same g16
            generalize (upd (upd H14 tq (.tup (row.map V.int))) tp (.tup [.int wt, .ref tq])) = H16 at g16 htp htq hD16 ⊢
            have hm16 := g16 m _ hm14
            have gt : Gr d H7 H16 := (g10.trans g14).trans (Gr.of_same g16)
            have hM16 : MovesAt H16 ws ms := hM7.same (gt.tups (K := K) hD7)
            have hl := hM16.length
            refine ⟨m, _, _, rfl, rfl, hm16, by rw [hl]; exact small8 (by omega), ?_⟩
            refine ⟨some (.int (0 + (i : Int))), some (.ref D10), some (.int wt), ms ++ [(wt, row)], ws ++ [.ref tp], rfl, hD16.turn hD2 nm nmd, ?_, upd_same, ?_, by rw [List.length_append, hl7]; rfl, ?_⟩
            · intro b o nb e
              by_cases hb : b = m
              · rw [hb] at e nb
                have z := g2 m o nb e
                rw [nm] at z
                cases z
              · rw [upd_ne hb]
                exact (g7.trans gt) b o nb e
            · refine MovesAt.same (H := H16) ?_ (MovesAt.snoc ⟨tp, tq, rfl, htp, htq⟩ hM16)
              intro b xs e
              rw [upd_ne]
              · exact e
              · intro z
                rw [z, hm16] at e
                cases e
            · intro mv hmv
              rcases List.mem_append.mp hmv with hmv | hmv
              · exact hg7 mv hmv
              · have e : mv = (wt, row) := by simpa using hmv
                subst e
                exact ⟨hw1, hw9, hR⟩
    · rintro σ7 H7 ⟨y5, y6, y7, ms, ws, rfl, hD7, g7, hm7, hM7, hl7, hg7⟩
      refine ⟨_, rfl, .ref m, rfl, (by show 2 ≤ sizeLine; decide), fun t nt => ?_⟩
      refine q t m many ws ms _ ⟨by omega, by omega, by omega, by omega, hg7⟩ (by omega) ⟨?_, same_new nt _ _ hm7, hM7.same (Same.tups (same_new nt))⟩ (hD7.new nt) (g7.new nt)
      rw [← em2]
      exact upd_same
end
end
/-! ### all(x in range(y) for x in a tuple of ints): a rule of our own -/
/-- the element: x in range(y), y a captured int -/
def eltR (x y : Str) (p1 p2 p3 p4 p5 : Pos) : Expr := .Compare (.Name x p1) [.In] [.Call (.Name "range" p2) [.Name y p3] [] p4] p5
def inR (n z : Int) : Bool := decide (0 ≤ z ∧ z < n)
theorem elt_range {prog : Program} {w : World} {cenv : Env} {A : Around} {E : Value → Shared → Prop} {x y : Str} {p1 p2 p3 p4 p5 : Pos} {s : Shared} {m mg mb : Str → Option Value} {cc : Addr} {z n : Int} {t u : Tok}
    (kf : cenv.scope.kind = .function) (kx : cenv.kindOf x = some .local) (ky : cenv.kindOf y = some .free) (kr : cenv.kindOf "range" = some .globalImplicit) (hm : s.heap.Ns cenv.locals m) (ex : m x = some (.int z t))
    (hc : cenv.cells.lookup y = some cc) (ec : s.heap.IsCell cc (some (.int n u))) (hg : s.heap.Ns cenv.globals mg) (nr : mg "range" = none) (hb : s.heap.Ns cenv.builtins mb) (br : mb "range" = some (.type "range"))
    (dx : (x == ("__debug__" : Str)) = false) (dy : (y == ("__debug__" : Str)) = false) (cy : (y == ("__classdict__" : Str)) = false) :
    wpAny (model prog w) A (eval (eltR x y p1 p2 p3 p4 p5) cenv) (fun v s' => v = .bool (inR n z) ∧ Keeps s s') E s := by
  refine wpAny_Compare1 (wpAny_Name (wpAny_loadName_local kf kx hm ex ?_) dx) (by rfl)
  refine wpAny_Call_Name_kw (Calls.Name_function_global kf kr (Calls.loadGlobal_builtin hg nr hb br ?_) (by decide))
  refine PyProof.Rows.callWith_type1 (Calls.spliced_cons (wpAny_Name (wpAny_loadName_free kf ky hc ec ?_ cy) dy)) (by rfl) (by rfl)
  refine Calls.spliced_nil (call_range_1 ?_)
  have ho := Heap.get?_push_size s.heap (o := { cls := .type "range", data := .fields #[.int 0 s.toks, .int n u, .int 1 (s.toks + 1)] }) rfl
  show wpAny _ _ (do return Value.bool (← contains (Value.ref s.heap.objs.size) (Value.int z t))) _ _ _
  refine wpAny_bind (wpAny_contains_slot (T := "range") ⟨_, ho, rfl⟩ F.slot_range_contains (call_meets F.slot_range_contains ⟨_, ho, rfl⟩ F.entry_range_contains (F.args_range_contains_2 _ _) (q_contains s.heap.objs.size 0 n z s.toks u (s.toks + 1) t) ⟨ho, ?_⟩))
  refine wpAny_truthy_bool (wpAny_pure ⟨?_, _, _, rfl, fun b o e => Heap.get?_push_of_some _ e⟩)
  rw [place1]
  rfl
open GxR in
/-- the walk that all(..) makes, once the generator stands at g -/
def AllReady (X : Cx) (pins : List (Addr × Obj)) (σ : L2.St) (H1 : Hp) (P : Addr) (bs : List Bool) (g : Addr) (s5 : Shared) : Prop :=
  ∃ (fp wr : List Addr) (G : Array GenState → Array GenState → Prop) (F : Nat → Value → Prop) (St : Nat → Shared → Prop) (tr : Nat → Bool),
    WalksS X.prog X.w X.A.in1 g fp wr G bs.length F St ∧ St 0 s5 ∧ TruthOf X.prog X.w X.A.in1 F tr ∧ (∀ j b, bs[j]? = some b → tr j = b) ∧
    ∀ s', Moved wr G s5 s' → ∃ H2, Tabbed P H1 H2 ∧ Inv X pins σ H2 s'
theorem clo_one {cells : List (Str × Addr)} : ∀ (names : List (Str × NameKind)) (acc : List (Str × Addr)) (y : Str) (cc : Addr), (∀ p ∈ names, p.2 = .free → cells.lookup p.1 = some ((cells.lookup p.1).getD 0)) → cells.lookup y = some cc →
    ((y, NameKind.free) ∈ names ∨ acc.lookup y = some cc) → (cloFrom cells names acc).lookup y = some cc := by
  intro names
  induction names with
  | nil =>
    intro acc y cc _ _ h
    rcases h with h | h
    · cases h
    · exact h
  | cons p r ih =>
    intro acc y cc hf hy h
    obtain ⟨n, kd⟩ := p
    unfold cloFrom
    have hf' : ∀ p ∈ r, p.2 = .free → cells.lookup p.1 = some ((cells.lookup p.1).getD 0) := fun p hp => hf p (List.mem_cons_of_mem _ hp)
    by_cases hk : (kd == NameKind.free) = true
    · rw [if_pos hk]
      refine ih _ y cc hf' hy ?_
      by_cases hn : y = n
      · subst hn
        refine .inr ?_
        rw [List.lookup_cons_self, hy]
        rfl
      · rcases h with h | h
        · rcases List.mem_cons.mp h with e | e
          · injection e with e1 _
            exact absurd e1 hn
          · exact .inl e
        · refine .inr ?_
          rw [List.lookup_cons, show (y == n) = false from by simpa using hn]
          exact h
    · rw [if_neg hk]
      refine ih _ y cc hf' hy ?_
      rcases h with h | h
      · rcases List.mem_cons.mp h with e | e
        · injection e with _ e2
          exact absurd (by rw [← e2]; rfl) hk
        · exact .inl e
      · exact .inr h
/-- the generator's code object: there already, or made and put into the table -/
theorem gen_code {M : Model} {A : Around} {env : Env} {c P : Addr} {gpos : Pos} {q : Str} {scope : Scope} {E : Value → Shared → Prop} {Q : Value → Shared → Prop} {s : Shared} {ps : Array Value} (hcode : env.code = .ref c) (cd : PySem.W.CodeHd s.heap c P)
    (hP : s.heap.get? P = some { cls := .none, data := .fields ps }) (ht : TriplesOk ps.toList)
    (h : ∀ (code : Value) (h3 : Heap) (tk : Nat) (more : Array Value), Heap.ExtBut P s.heap h3 → s.heap.objs.size ≤ h3.objs.size → h3.get? P = some { cls := .none, data := .fields (ps ++ more) } → TriplesOk (ps ++ more).toList → Q code { s with heap := h3, toks := tk }) :
    wpAny M A (genexprCode env gpos q scope) Q E s := by
  match hf : codeAmong gpos ps.toList with
  | some cv => exact wpAny_genexprCode_hit hcode (cd.code hP ht) hf (h cv s.heap s.toks #[] (Heap.ExtBut.refl _ _) (Nat.le_refl _) (by rw [Array.append_empty]; exact hP) (by rw [Array.append_empty]; exact ht))
  | none =>
    refine wpAny_genexprCodeX hcode (cd.code hP ht) (cd.tab hP) hf fun c' h' tk hx hge hlt hco _ htab _ => h _ h' tk _ hx (Nat.le_trans hge (Nat.le_of_lt hlt)) htab.2 ?_
    obtain ⟨_, _, _, _, _, _, _, _, _, _, _, _, _, _, _, _, _, _, _, htr, _⟩ := hco
    exact htr
section
variable {X : Cx} {pins : List (Addr × Obj)} {σ : L2.St} {H : Hp} {s : Shared}
open GxR in
theorem gen_range {c P : Addr} {iter : Expr} {x y : Str} {px gpos p1 p2 p3 p4 p5 : Pos} {scope : Scope} {te : TE} {k i : Nat} {Q' : Value → Shared → Prop} {R : List Int → Int → Hp → Prop}
    (hr : Room k X.A) (TB : TabB X.base X.mg c P) (hcode : X.env.code = .ref c) (S : GenS X.env scope x) (hi : PE X iter te) (hy : X.N[i]? = some y) (vy : X.env.kindOf y = some .cell) (fy : (y, NameKind.free) ∈ scope.names) (ly : scope.names.lookup y = some .free)
    (lr : scope.names.lookup ("range" : Str) = some .globalImplicit) (nr : X.mg "range" = none) (dx : (x == ("__debug__" : Str)) = false) (dy : (y == ("__debug__" : Str)) = false) (cy : (y == ("__classdict__" : Str)) = false)
    (hs : ∀ v, genFold iter X.env v = pure v) (I : Inv X pins σ H s) (h : te σ H fun v H1 => ∃ (a : Addr) (ns : List Int) (n : Int), v = .ref a ∧ SqT X.K H1 a (ns.map V.int) ∧ TabG H1 P ∧ σ[i]? = some (some (.int n)) ∧ R ns n H1)
    (hQ : ∀ ns n H1 g s5, R ns n H1 → AllReady X pins σ H1 P (ns.map (inR n)) g s5 → Q' (.ref g) s5) :
    wpAny (model X.prog X.w) X.A (eval (.GeneratorExp (eltR x y p1 p2 p3 p4 p5) [⟨.Name x px, iter, [], 0⟩] scope gpos) X.env) Q' X.xe s := by
  refine wpAny_GeneratorExp_walksQ hr.hd S.co (closure_ok S.free) S.cell S.dot S.loc S.kind (by have := hr.dp; omega) ?_ hs
  refine thn (hi.run pins s σ H _ I h) fun xv s1 ⟨v, H1, I1, r1, a, ns, n, ev, hT, hTab, hn, hR⟩ => ?_
  subst ev
  obtain rfl : xv = Value.ref a := r1
  obtain ⟨its, rv, hTup, hz⟩ := I1.tuple hT
  have tupAt : s1.heap.IsTuple a its.toArray := hTup
  -- the captured int
  obtain ⟨cc, u, hcc, hcell⟩ : ∃ (cc : Addr) (u : Tok), X.env.cells.lookup y = some cc ∧ s1.heap.IsCell cc (some (.int n u)) := by
    obtain ⟨m, _, hl⟩ := I1.loc
    obtain ⟨uv, ru, lk⟩ := hl i y (.int n) hy hn (.inr (.inl vy))
    obtain ⟨u, eu⟩ := ru
    subst eu
    rcases lk with ⟨k1, _⟩ | ⟨_, cc, e1, e2⟩
    · rw [vy] at k1
      cases k1
    · exact ⟨cc, u, e1, e2⟩
  obtain ⟨mb, bb1, bb2⟩ := I1.mod.blt
  have lenI : its.toArray.size = ns.length := by
    have e := rv.length
    rw [List.length_map] at e
    simp only [List.size_toArray]
    omega
  obtain ⟨ps, hP, hps⟩ := hTab
  refine wpAny_pyIter_tuple tupAt ?_
  -- it: the iterator's object
  let it : Obj := { cls := .type "tuple_iterator", data := .fields #[.ref a, .int 0 0] }
  have atP : s1.heap.get? P = some { cls := .none, data := .fields ps } := I1.hok P _ hP
  have ltP : P < s1.heap.objs.size := Heap.lt_size atP
  have limI : (s1.heap.push it).NoLimit := I1.nolimit.push it
  have keepI : ∀ b o, s1.heap.get? b = some o → (s1.heap.push it).get? b = some o := fun b o e => Heap.get?_push_of_some _ e
  have codeI : PySem.W.CodeHd (s1.heap.push it) c P := TB.code.keeps fun b o e => keepI b o (I1.bk b o e)
  have ltS : cStatics < s1.heap.objs.size := let ⟨_, q, _⟩ := I1.nolimit; q.lt
  have neS : cStatics ≠ P := fun e => by
    obtain ⟨_, ⟨o', es, ep, g1, g2, _⟩, _⟩ := I1.nolimit
    rw [e, atP] at g1
    cases g1
    cases g2
  have szI : (s1.heap.push it).objs.size = s1.heap.objs.size + 1 := Heap.size_push ..
  have iterI : (s1.heap.push it).IsTupleIter s1.heap.objs.size a 0 := ⟨_, Heap.get?_push_size _ rfl, rfl, rfl⟩
  have tupI : (s1.heap.push it).IsTuple a its.toArray := by
    obtain ⟨o, e, r⟩ := tupAt
    exact ⟨o, keepI _ _ e, r⟩
  have neIt : a ≠ s1.heap.objs.size := by
    obtain ⟨o, e, _⟩ := tupAt
    exact Nat.ne_of_lt (Heap.lt_size e)
  have neAP : a ≠ P := fun e => by
    obtain ⟨o, g, _, nn, dd⟩ := tupAt
    rw [e, atP] at g
    cases g
    cases dd
  have Wk : ∀ A' : Around, A'.handled = none → Walks X.prog X.w A' s1.heap.objs.size [s1.heap.objs.size, a] [s1.heap.objs.size] its.toArray.size (fun j v => its.toArray[j]? = some v) (fun j hp => hp.IsTupleIter s1.heap.objs.size a j ∧ hp.IsTuple a its.toArray) :=
    fun A' hA => Walks.tuple hA s1.heap.objs.size a neIt its.toArray
  refine ⟨limI, gen_code hcode codeI (keepI _ _ atP) hps fun code h3 tk more hx hge hP3 ht3 => ?_⟩
  have hge2 : s1.heap.objs.size + 1 ≤ h3.objs.size := by
    rw [← szI]
    exact hge
  have keep3 : ∀ b o, b ≠ P → s1.heap.get? b = some o → h3.get? b = some o := fun b o nb e => hx b o nb (keepI b o e)
  obtain ⟨bm, ob, f1, f2, f3, f4, f5, f6, f7, f8⟩ := TB.bm
  have glob3 : h3.Ns X.env.globals X.mg := by
    rw [I1.ok.glob]
    exact ((I1.mod.glob.keeps I1.bk).push it).extBut hx TB.gP
  refine wpAny_builtinsFor (m := X.mg) glob3 f1 f2 (keep3 _ _ f4 (I1.bk _ _ f5)) f6 f7 f8 ?_
  refine ⟨s1.heap.objs.size, [s1.heap.objs.size, a], [s1.heap.objs.size], its.toArray.size, fun j v => its.toArray[j]? = some v, _, fun _ => true, fun j v => ∃ z, ns[j]? = some z ∧ v = .bool (inR n z), rfl, Wk, ?_, ?_, limI.extBut hx neS, ?_, ?_, ?_⟩
  · refine ⟨?_, ?_⟩
    · obtain ⟨o, e, r⟩ := iterI
      exact ⟨o, hx _ _ (Nat.ne_of_gt ltP) e, r⟩
    · obtain ⟨o, e, r⟩ := tupI
      exact ⟨o, hx _ _ neAP e, r⟩
  · intro b hb
    show b < h3.objs.size
    rcases List.mem_cons.mp hb with e | e
    · rw [e]
      exact Nat.lt_of_succ_le hge2
    · have e2 : b = a := by simpa using e
      obtain ⟨o, g, _⟩ := tupAt
      have lta := Heap.lt_size g
      rw [e2]
      exact Nat.lt_of_lt_of_le lta (by omega)
  · intro hmem
    have e : cStatics = s1.heap.objs.size := by simpa using hmem
    rw [e] at ltS
    exact Nat.lt_irrefl _ ltS
  · intro href hhref
    refine ⟨fun A' E' j v s₂ m₂ hA hPv ha2 hb2 hk => ?_, fun A' E' j v s₂ m₂ hA hPv _ ha2 hb2 hk => ?_⟩
    · simp only [List.forIn_nil]
      exact wpAny_pure ⟨rfl, s₂.heap, s₂.toks, rfl, fun _ _ e => e⟩
    · -- what stood ahead of the generator stands
      have old : ∀ b o, b ≠ P → s1.heap.get? b = some o → s₂.heap.get? b = some o := fun b o nb e => by
        refine hk b (List.mem_range.mpr ?_) (fun z => ?_) o (hhref b o (keep3 b o nb e))
        · exact Nat.lt_of_lt_of_le (Heap.lt_size e) (by show s1.heap.objs.size ≤ h3.objs.size; omega)
        · have e2 : b = s1.heap.objs.size := by simpa using z
          exact Nat.ne_of_lt (Heap.lt_size e) e2
      have nPb : ∀ b o, X.base.get? b = some o → b ≠ P := fun b o e z => by
        have q := (I1.bs b o e).2
        rw [z, hP] at q
        cases q
      have hjv : its[j]? = some v := by simpa using hPv
      obtain ⟨zv, ez, rz⟩ : ∃ z, ns[j]? = some z ∧ RelV (.int z) v := by
        have hj : j < ns.length := by
          obtain ⟨h, _⟩ := List.getElem?_eq_some_iff.mp hjv
          simpa [lenI] using (show j < its.toArray.size by simpa using h)
        obtain ⟨uu, g1, g2⟩ := rv.get (i := j) (x := .int ns[j]) (by rw [List.getElem?_map, List.getElem?_eq_getElem hj]; rfl)
        rw [hjv] at g1
        cases g1
        exact ⟨_, List.getElem?_eq_getElem hj, g2⟩
      obtain ⟨tz, rfl⟩ := rz
      have cellS : s₂.heap.IsCell cc (some (.int n u)) := by
        obtain ⟨o, e, d⟩ := hcell
        refine ⟨o, old _ _ (fun z => ?_) e, d⟩
        rw [z, atP] at e
        cases e
        cases d
      have gS : s₂.heap.Ns mainGlobals X.mg := by
        obtain ⟨o, es, ep, e, r⟩ := I1.mod.glob
        exact ⟨o, es, ep, old _ _ (nPb _ _ e) (I1.bk _ _ e), r⟩
      have bS : s₂.heap.Ns builtinsNs mb := by
        obtain ⟨o, es, ep, e, r⟩ := bb1
        exact ⟨o, es, ep, old _ _ (nPb _ _ e) (I1.bk _ _ e), r⟩
      have hclo : (cloFrom X.env.cells scope.names []).lookup y = some cc := clo_one _ _ _ _ (fun p hp hf => by
        obtain ⟨c', ec'⟩ := S.free p hp hf
        rw [ec']
        rfl) hcc (.inl fy)
      refine thn (elt_range (x := x) (y := y) S.kind S.loc ly lr ha2 hb2 hclo cellS (mg := X.mg) (by show s₂.heap.Ns X.env.globals X.mg; rw [I1.ok.glob]; exact gS) nr bS ((bb2 "range" (by decide)).trans (by decide +kernel)) dx dy cy) fun v' s3 hv => ⟨⟨zv, ez, hv.1⟩, hv.2⟩
  · intro g h5 tk5 gs hbare hag hsz5 hk5 W5 hat
    have e0 : passing (fun _ => true) its.toArray.size 0 = List.range its.toArray.size := GxR.passing_true _
    rw [e0] at W5
    rw [List.length_range, lenI] at W5
    have oldA : ∀ b o, s1.heap.get? b = some o → b ∉ h3.objs.size :: [s1.heap.objs.size] := fun b o e hb => by
      have l0 := Heap.lt_size e
      rcases List.mem_cons.mp hb with z | z
      · rw [z] at l0
        exact absurd (Nat.lt_of_lt_of_le l0 (Nat.le_of_succ_le hge2)) (Nat.lt_irrefl _)
      · have z2 : b = s1.heap.objs.size := by simpa using z
        exact Nat.ne_of_lt l0 z2
    have W6 := W5.in4_1
    rw [show ns.length = (ns.map (inR n)).length from (List.length_map _).symm] at W6
    rw [lenI, show ns.length = (ns.map (inR n)).length from (List.length_map _).symm] at hat
    refine hQ ns n H1 g _ hR ⟨_, _, _, _, _, fun j => (ns.map (inR n)).getD j false, W6, hat, ?_, fun j b hb => by show (ns.map (inR n)).getD j false = b; rw [List.getD_eq_getElem?_getD, hb]; rfl, fun s' hm => ?_⟩
    · intro j yv sj Qj Ej hy hQj
      obtain ⟨i', hij, z, hz', rfl⟩ := hy
      obtain ⟨hj, ej⟩ := List.getElem?_eq_some_iff.mp hij
      rw [List.getElem_range] at ej
      subst ej
      refine wpAny_truthy_bool ?_
      have eb : (ns.map (inR n)).getD j false = inR n z := by
        rw [List.getD_eq_getElem?_getD, List.getElem?_map, hz']
        rfl
      have hQj' : Qj ((ns.map (inR n)).getD j false) sj := hQj
      rw [eb] at hQj'
      exact hQj'
    · have J := inv_tab (more := more) (h' := s'.heap) (g' := s'.gens) (d' := s'.drawn) (t' := s'.toks) I1 hP (fun b o nb e => hm.heap b o (oldA b o e) (hk5 b o (keep3 b o nb e))) (hm.heap P _ (oldA P _ atP) (hk5 P _ hP3)) (AllBare.movedS (I1.bare.push hbare) hm)
      rw [sh_eta s1 s' hm.os] at J
      exact ⟨upd H1 P (.tbl (ps ++ more)), ⟨⟨ps ++ more, upd_same, ht3⟩, fun b hb => upd_ne hb⟩, J⟩
/-- all(x in range(y) for x in e): e a tuple of ints, y an int in slot i -/
def tAllR (K : PySem.W.Frag) (P : Addr) (i : Nat) (te : TE) : TE := fun σ H Q => te σ H fun v H1 => ∃ (a : Addr) (ns : List Int) (n : Int), v = .ref a ∧ SqT K H1 a (ns.map V.int) ∧ GxR.TabG H1 P ∧ σ[i]? = some (some (.int n)) ∧
  ∀ H2, GxR.Tabbed P H1 H2 → Q (.bl (ns.all (inR n))) H2
theorem all_tr : ∀ (bs : List Bool) (tr : Nat → Bool), (∀ j b, bs[j]? = some b → tr j = b) → (List.range bs.length).all tr = bs.all id := by
  intro bs tr h
  rw [Bool.eq_iff_iff, List.all_eq_true, List.all_eq_true]
  constructor
  · intro g b hb
    obtain ⟨j, hj, e⟩ := List.getElem_of_mem hb
    have q := g j (List.mem_range.mpr hj)
    rw [h j b (by rw [List.getElem?_eq_getElem hj, e])] at q
    exact q
  · intro g j hj
    have hj' := List.mem_range.mp hj
    rw [h j bs[j] (List.getElem?_eq_getElem hj')]
    exact g _ (List.getElem_mem hj')
theorem pe_allR {c P : Addr} {iter : Expr} {x y : Str} {px p pos gpos p1 p2 p3 p4 p5 : Pos} {scope : Scope} {te : TE} {k i : Nat}
    (hr : Room k X.A) (hg : Gl X "all") (hm : X.mg "all" = none) (TB : GxR.TabB X.base X.mg c P) (hcode : X.env.code = .ref c) (S : GxR.GenS X.env scope x) (hi : PE X iter te) (hy : X.N[i]? = some y) (vy : X.env.kindOf y = some .cell) (fy : (y, NameKind.free) ∈ scope.names) (ly : scope.names.lookup y = some .free)
    (lr : scope.names.lookup ("range" : Str) = some .globalImplicit) (nr : X.mg "range" = none) (dx : (x == ("__debug__" : Str)) = false) (dy : (y == ("__debug__" : Str)) = false) (cy : (y == ("__classdict__" : Str)) = false)
    (hs : ∀ v, genFold iter X.env v = pure v)
    (he : starEach [.GeneratorExp (eltR x y p1 p2 p3 p4 p5) [⟨.Name x px, iter, [], 0⟩] scope gpos] X.env = (false, eval (.GeneratorExp (eltR x y p1 p2 p3 p4 p5) [⟨.Name x px, iter, [], 0⟩] scope gpos) X.env) :: starEach [] X.env := by rfl) :
    PE X (.Call (.Name "all" p) [.GeneratorExp (eltR x y p1 p2 p3 p4 p5) [⟨.Name x px, iter, [], 0⟩] scope gpos] [] pos) (tAllR X.K P i te) := by
  refine ⟨fun pins s σ H Q I h => wpAny_Call_Name_kw (ld_blt I hg hm (by decide +kernel) (PyProof.Rows.callWith_builtin1 (id := "all") ?_ he (by rfl)))⟩
  rw [he]
  show wpAny _ _ (spliced (_ :: backTo pos (starEach [] X.env))) _ _ s
  refine Calls.spliced_cons (gen_range (R := fun ns n H1 => ∀ H2, GxR.Tabbed P H1 H2 → Q (.bl (ns.all (inR n))) H2) hr TB hcode S hi hy vy fy ly lr nr dx dy cy hs I h fun ns n H1 g s5 hR ⟨fp, wr, G, F, St', tr, W, hst, htr, hb, hI⟩ => Calls.spliced_nil ?_)
  refine call_all_walkS (W.self 0 _ _ _ hst ⟨g, fp, wr, G, _, F, St', _, rfl, W, hst, htr, fun s' hmv => ?_⟩)
  obtain ⟨H2, hT, J⟩ := hI s' hmv
  refine ⟨.bl _, H2, J, rfl, ?_⟩
  rw [all_tr _ tr hb, List.all_map]
  exact hR H2 hT
end
/-! ### a def of the text whose code object is known -/
structure FunT (K : PySem.W.Frag) (x qual : Str) (st : Stmt) (f : Addr) (fd : FuncData) (c : Addr) : Prop where
  ex : ∃ (oc : Value) (od : Option Addr) (kV doc pm : Value) (an : Option Addr) (ct : Value) (osl : Array (Option Value)),
    fd = PySem.W.fnOf x qual (defArgs st) (defBody st) (defScope st) .none kV doc pm an (.ref c) ct ∧ K.lookup f = some ⟨oc, od, .func fd, osl⟩ ∧ PySem.W.codeIn K (.ref c) qual = true
  kp : PySem.W.keepIn K (.ref f) = true
/-- x not in range(..) -/
theorem op_notIn_rng {X : Cx} : OpR X (compareOp .NotIn) (fun x y H Q => ∃ i a lo hi, x = V.int i ∧ y = V.ref a ∧ H a = some (.rng lo hi) ∧ Q (.bl (!decide (lo ≤ i ∧ i < hi))) H) := by
  intro pins s σ H x y v u Q I rx ry ⟨i, a, lo, hi, ex, ey, ha, q⟩
  subst ex ey
  obtain ⟨k, rfl⟩ := rx
  have e2 : u = Value.ref a := ry
  subst e2
  obtain ⟨t1, t2, t3, ho⟩ := I.hok a _ ha
  show wpAny _ _ (do return Value.bool (!(← contains (Value.ref a) (Value.int i k)))) _ _ s
  refine wpAny_bind (wpAny_contains_slot (T := "range") ⟨_, ho, rfl⟩ F.slot_range_contains (call_meets F.slot_range_contains ⟨_, ho, rfl⟩ F.entry_range_contains (F.args_range_contains_2 _ _) (q_contains a lo hi i t1 t2 t3 k) ⟨ho, wpAny_truthy_bool ?_⟩))
  refine wpAny_pure ⟨.bl _, H, I, rfl, ?_⟩
  rw [place1]
  exact q
section
variable {P : Program} {w : World} {K : PySem.W.Frag} {mg : Str → Option Value} {base : Heap}
/-! ### _is_move -/
theorem scIsMove : FnScope ["many", "move", "weight", "whither"] ["many", "move"] (defScope sIsMove) := ⟨rfl, rfl, rfl, by decide +kernel, rfl, by decide +kernel, by decide +kernel⟩
def isMv (many : Int) (m : Mv) : Bool := decide (1 ≤ m.1 ∧ m.1 < 100) && decide ((m.2.length : Int) = many) && m.2.all (inR many)
def spIsMove (T : Addr) : Sp := fun vs H Q _ => ∃ (many : Int) (v : V) (m : Mv), vs = [.int many, v] ∧ MoveAt H v m ∧ GxR.TabG H T ∧ ∀ H', Gr T H H' → GxR.TabG H' T → Q (.bl (isMv many m)) H'
/-- the program's names that a chain leans on -/
structure ChTxt (K : PySem.W.Frag) (mg : Str → Option Value) (fM cM tM : Addr) (fdM : FuncData) (C fI : Addr) (fdI : FuncData) : Prop where
  FM : FunT K "_is_move" "_is_move" sIsMove fM fdM cM
  bM : Binds K fdM ["many", "move"] []
  gM : mg "_is_move" = some (.ref fM)
  FI : Fun K "__init__" "Chain.__init__" (inClass cChain 0) fI fdI
  bI : Binds K fdI ["self", "many", "moves"] []
  mC : Mk K C fI
  cl : Cls K C
  nM : NoAttr K C "_many"
  nV : NoAttr K C "_moves"
  gC : mg "Chain" = some (.ref C)
  gP : ∃ t, mg "MOST_PLACES" = some (.int 6 t)
  gV : ∃ t, mg "MOST_MOVES" = some (.int 8 t)
  gW : ∃ t, mg "MOST_WEIGHT" = some (.int 99 t)
  ml : mg "len" = none
  mi : mg "isinstance" = none
  mt : mg "tuple" = none
  mr : mg "range" = none
  ma : mg "all" = none
  me : mg "enumerate" = none
  mL : mg "list" = none
section
variable {fM cM tM : Addr} {fdM : FuncData} {C fI : Addr} {fdI : FuncData}
theorem genS_move {L f : Addr} {cdv : Value} {scope : Scope} (hs : scope.names = [((".0" : Str), .local), (("place" : Str), .local), (("many" : Str), .free), (("range" : Str), .globalImplicit)]) (hk : scope.kind = .function) (hc : scope.isCoroutine = false) (ha : (envOfC "_is_move" (defScope sIsMove) L f cdv).cells.lookup ("many" : Str) ≠ none) :
    GxR.GenS (envOfC "_is_move" (defScope sIsMove) L f cdv) scope "place" := by
  refine ⟨hk, hc, ?_, ?_, ?_, ?_⟩
  · rw [hs]
    decide +kernel
  · rw [hs]
    decide +kernel
  · rw [hs]
    decide +kernel
  · intro y hy hf
    rw [hs] at hy
    have e : y.1 = ("many" : Str) := by
      rcases List.mem_cons.mp hy with e | hy
      · rw [e] at hf
        cases hf
      rcases List.mem_cons.mp hy with e | hy
      · rw [e] at hf
        cases hf
      rcases List.mem_cons.mp hy with e | hy
      · rw [e]
      rcases List.mem_cons.mp hy with e | hy
      · rw [e] at hf
        cases hf
      · cases hy
    rw [e]
    cases q : (envOfC "_is_move" (defScope sIsMove) L f cdv).cells.lookup ("many" : Str) with
    | none => exact absurd q ha
    | some c => exact ⟨c, rfl⟩
theorem ok_ismove (T : ChTxt K mg fM cM tM fdM C fI fdI) (TB : GxR.TabB base mg cM tM) : FnOk P w K mg base CX0 1 fM fdM ["many", "move"] (spIsMove tM) := by
  obtain ⟨oc, od, kV, doc, pm, an, ct, osl, efd, lk, hcd⟩ := T.FM.ex
  subst efd
  obtain ⟨tw, gW⟩ := T.gW
  refine fn_of (N := ["many", "move", "weight", "whither"]) lk hcd scIsMove (fun vs H Q E h => ?_) (fun A outer s H vs Q E hr h => ?_)
  · obtain ⟨many, v, m, rfl, _⟩ := h
    rfl
  · obtain ⟨many, v, m, rfl, ⟨a, b, rfl, ha, hb⟩, hTab, q⟩ := h
    refine ⟨_, pss_cons (ps_if (PW.pt (pw_or (pt_not (pt_val (pe_callB RZ.call_isTy (by rfl) T.mi (by decide +kernel) (pa_cons (pv 1) (pa_cons (pe_bltn (v := .ty "tuple") (by rfl) T.mt (by decide +kernel) rfl) pa_nil)))))
          (pw_or1 (pt_cmpR op_ne (pe_callB call_len_seq (by rfl) T.ml PySem.boot_len (pa_cons (pv 1) pa_nil)) pe_int (nomark _))))) (pss_one (ps_ret pe_bl)) pss_nil)
      (pss_cons (ps_asg (pv 1) (pg_tup rfl (pgs_cons (pg_name (i := 2) scIsMove.nd rfl (.inl rfl)) (pgs_cons (pg_name (i := 3) scIsMove.nd rfl (.inl rfl)) pgs_nil))))
      (pss_cons (ps_if (pt_cmpR op_notIn_rng (pv 2) (pe_callTy cr_range2 (by rfl) T.mr (by decide +kernel) (pa_cons pe_int (pa_cons (pe_op op_add (pe_glob (v := .int 99) (by rfl) gW ⟨_, rfl⟩) pe_int) pa_nil))) rfl) (pss_one (ps_ret pe_bl)) pss_nil)
      (pss_cons (ps_if (PW.pt (pw_or (pt_not (pt_val (pe_callB RZ.call_isTy (by rfl) T.mi (by decide +kernel) (pa_cons (pv 3) (pa_cons (pe_bltn (v := .ty "tuple") (by rfl) T.mt (by decide +kernel) rfl) pa_nil)))))
          (pw_or1 (pt_cmpR op_ne (pe_callB call_len_seq (by rfl) T.ml PySem.boot_len (pa_cons (pv 3) pa_nil)) (pv 0) (nomark _))))) (pss_one (ps_ret pe_bl)) pss_nil)
      (pss_one (ps_ret (pe_allR (k := 0) (x := "place") (y := "many") (i := 0) hr (by rfl) T.ma TB rfl (genS_move (by rfl) rfl rfl ?hcell) (pv 3) rfl rfl (by decide +kernel) (by decide +kernel) (by decide +kernel) T.mr (by decide) (by decide) (by decide) (fun _ => rfl) (by rfl))))))), ?_⟩
    case hcell =>
      intro z
      have q : ((envOfC "_is_move" (defScope sIsMove) s.heap.objs.size fM (.ref cM)).cells.lookup ("many" : Str)).isSome = true := PySem.W.cellsFrom_some _ _ _ (.inl (by decide +kernel))
      rw [z] at q
      cases q
    have neT : ∀ {p : Addr}, H p = none → p ≠ tM := fun np z => by
      obtain ⟨ps, e, _⟩ := hTab
      rw [z, e] at np
      cases np
    refine ⟨.ref a, rfl, .ref a, "tuple", rfl, .tup ha, true, rfl, ?_⟩
    refine ⟨.ref a, rfl, a, _, rfl, .inr (SqT.of ha), rfl, _, rfl, iteNS rfl ?_⟩
    refine ⟨.ref a, rfl, a, _, rfl, SqT.of ha, rfl, .int m.1, [.ref b], rfl, .ref b, [], rfl, rfl, ?_⟩
    refine ⟨.int m.1, rfl, 99, 1, rfl, rfl, 1, 100, rfl, fun r nr => ⟨m.1, r, 1, 100, rfl, rfl, upd_same, _, rfl, ?_⟩⟩
    have g1 : Same H (upd H r (.rng 1 100)) := same_new nr
    have tab1 : GxR.TabG (upd H r (.rng 1 100)) tM := by
      obtain ⟨ps, e, t⟩ := hTab
      exact ⟨ps, g1 _ _ e, t⟩
    have hb1 := g1 _ _ hb
    by_cases h1 : 1 ≤ m.1 ∧ m.1 < 100
    · refine iteNS h1 ?_
      refine ⟨.ref b, rfl, .ref b, "tuple", rfl, .tup hb1, true, rfl, ?_⟩
      refine ⟨.ref b, rfl, b, _, rfl, .inr (SqT.of hb1), .int many, rfl, rfl, _, rfl, ?_⟩
      by_cases h2 : (((m.2.map V.int).length : Nat) : Int) = many
      · refine iteNS (congrArg V.int h2) ?_
        refine ⟨.ref b, rfl, b, m.2, many, rfl, SqT.of hb1, tab1, rfl, fun H2 ⟨t2, k2⟩ => ?_⟩
        have e : isMv many m = m.2.all (inR many) := by
          unfold isMv
          rw [List.length_map] at h2
          rw [decide_eq_true h1, decide_eq_true h2, Bool.true_and, Bool.true_and]
        have q2 := q H2 (fun x o nx ex => by rw [k2 x nx]; exact g1 _ _ ex) t2
        rw [e] at q2
        exact q2
      · have e : isMv many m = false := by
          unfold isMv
          rw [List.length_map] at h2
          rw [decide_eq_false h2, Bool.and_false, Bool.false_and]
        have q2 := q _ (Gr.of_same g1) tab1
        rw [e] at q2
        have h3 : ¬ V.int (((m.2.map V.int).length : Nat) : Int) = V.int many := fun z => h2 (V.int.inj z)
        show if (!decide (V.int (((m.2.map V.int).length : Nat) : Int) = V.int many)) = true then _ else _
        rw [decide_eq_false h3]
        exact q2
    · have e : isMv many m = false := by
        unfold isMv
        rw [decide_eq_false h1, Bool.false_and, Bool.false_and]
      have q2 := q _ (Gr.of_same g1) tab1
      rw [e] at q2
      rw [decide_eq_false h1]
      exact q2
end
end
def rLenSq (K : PySem.W.Frag) : List V → Hp → VK → Prop := fun xs H Q => ∃ p ys, xs = [V.ref p] ∧ (SqL K H p ys ∨ SqT K H p ys) ∧ Q (.int ((ys.length : Nat) : Int)) H
section
variable {P : Program} {w : World} {K : PySem.W.Frag} {mg : Str → Option Value} {base : Heap}
variable {fM cM tM : Addr} {fdM : FuncData} {C fI : Addr} {fdI : FuncData}
/-! ### class Chain -/
theorem scInit : FnScope ["self", "many", "moves", "number", "move"] ["self", "many", "moves"] (defScope (inClass cChain 0)) := ⟨rfl, rfl, rfl, by decide +kernel, rfl, by decide +kernel, by decide +kernel⟩
def chF (many : Int) (a : Addr) : List (Str × V) := putF "_moves" (.ref a) (putF "_many" (.int many) [])
theorem ne_mm : ¬ (("_many" : Str) = "_moves") := by decide +kernel
theorem chF_many (many : Int) (a : Addr) : (chF many a).lookup ("_many" : Str) = some (.int many) := by
  unfold chF
  rw [lookup_putF, if_neg ne_mm, lookup_putF, if_pos rfl]
theorem chF_moves (many : Int) (a : Addr) : (chF many a).lookup ("_moves" : Str) = some (.ref a) := by
  unfold chF
  rw [lookup_putF, if_pos rfl]
theorem chF_no (many : Int) (a : Addr) {m : Str} (h1 : ¬ m = "_many") (h2 : ¬ m = "_moves") : (chF many a).lookup m = none := by
  unfold chF
  rw [lookup_putF, if_neg h2, lookup_putF, if_neg h1]
  all_goals rfl
def ChainAt (C : Addr) (H : Hp) (x : Addr) (many : Nat) (ms : List Mv) : Prop := ∃ dx a ws, H x = some (.ins C dx (chF (many : Int) a)) ∧ H a = some (.lst ws) ∧ MovesAt H ws ms
theorem ChainAt.same {C : Addr} {H H' : Hp} {x : Addr} {many : Nat} {ms : List Mv} (s : Same H H') (h : ChainAt C H x many ms) : ChainAt C H' x many ms := by
  obtain ⟨dx, a, ws, h1, h2, h3⟩ := h
  exact ⟨dx, a, ws, s _ _ h1, s _ _ h2, h3.same (Same.tups s)⟩
theorem moves_no_dl {H : Hp} {ws : List V} {ms : List Mv} (h : MovesAt H ws ms) (s0 : Int) (l : Addr) (k big : Int) : HO.lst ws ≠ .lst (dl s0 l k big) := by
  intro z
  injection z with z
  subst z
  cases h with
  | cons a _ =>
    obtain ⟨_, _, e, _⟩ := a
    cases e
theorem ChainAt.gr {C d l : Addr} {ns : List Int} {H H' : Hp} {x : Addr} {many : Nat} {ms : List Mv} (hd : Dc K l ns H d) (s : Gr d H H') (h : ChainAt C H x many ms) : ChainAt C H' x many ms := by
  obtain ⟨dx, a, ws, h1, h2, h3⟩ := h
  exact ⟨dx, a, ws, s _ _ (hd.ne_of h1 fun _ _ _ _ z => nomatch z) h1, s _ _ (hd.ne_of h2 (moves_no_dl h3)) h2, h3.same (s.tups hd)⟩
/-- all that is tracked, but at x and t, is as it was -/
def Gr2 (x t : Addr) (H H' : Hp) : Prop := ∀ b o, b ≠ x → b ≠ t → H b = some o → H' b = some o
/-- a chain that has just been made: its list of moves is its own -/
def ChainNew (C : Addr) (H H' : Hp) (x : Addr) (many : Nat) (ms : List Mv) : Prop := ∃ dx a ws, H' x = some (.ins C dx (chF (many : Int) a)) ∧ H' a = some (.lst ws) ∧ MovesAt H' ws ms ∧ H a = none
theorem ChainNew.at {C : Addr} {H H' : Hp} {x : Addr} {many : Nat} {ms : List Mv} (h : ChainNew C H H' x many ms) : ChainAt C H' x many ms := by
  obtain ⟨dx, a, ws, h1, h2, h3, _⟩ := h
  exact ⟨dx, a, ws, h1, h2, h3⟩
def spInitG (C T : Addr) : Sp := fun vs H Q _ => ∃ (x dx l : Addr) (many : Nat) (ws : List V) (ms : List Mv), vs = [.ref x, .int (many : Int), .ref l] ∧ H x = some (.ins C dx []) ∧ H l = some (.lst ws) ∧ MovesAt H ws ms ∧ Good many ms ∧ GxR.TabG H T ∧
  ∀ H', ChainNew C H H' x many ms → Gr2 x T H H' → GxR.TabG H' T → Q .non H'
theorem isMv_good {many : Nat} {m : Mv} (h : GoodMv many m) : isMv (many : Int) m = true := by
  obtain ⟨h1, h2, h3, h4⟩ := h
  unfold isMv
  rw [decide_eq_true (show 1 ≤ m.1 ∧ m.1 < 100 from ⟨h1, by omega⟩), decide_eq_true (show (m.2.length : Int) = (many : Int) by rw [h3]), Bool.true_and, Bool.true_and, List.all_eq_true]
  intro x hx
  unfold inR
  exact decide_eq_true (h4 x hx)
theorem ok_initG (T : ChTxt K mg fM cM tM fdM C fI fdI) (TB : GxR.TabB base mg cM tM) : FnOk P w K mg base CX0 2 fI fdI ["self", "many", "moves"] (spInitG C tM) := by
  have GM : FnOk P w K mg base CX0 1 fM fdM ["many", "move"] (spIsMove tM) := ok_ismove T TB
  obtain ⟨tp, gP⟩ := T.gP
  obtain ⟨tv, gV⟩ := T.gV
  refine T.FI.ok scInit (fun vs H Q E h => ?_) (fun cdv A outer s H vs Q E hr h => ?_)
  · obtain ⟨x, dx, l, many, ws, ms, rfl, _⟩ := h
    rfl
  · obtain ⟨x, dx, l, many, ws, ms, rfl, hx, hl, hM, G, hTab, q⟩ := h
    have lenW := hM.length
    refine ⟨_, pss_cons (ps_if (pt_not (pt_chain op_le op_le pe_int (pv 1) (pe_glob (v := .int 6) (by rfl) gP ⟨_, rfl⟩))) pss_never pss_nil)
      (pss_cons (ps_if (pt_not (pt_chain op_le op_le pe_int (pe_callB call_len_seq (by rfl) T.ml PySem.boot_len (pa_cons (pv 2) pa_nil)) (pe_glob (v := .int 8) (by rfl) gV ⟨_, rfl⟩))) pss_never pss_nil)
      (pss_cons (ps_for PassesOwn.never rfl (pi_enum (by rfl) T.me (pa_cons (pv 2) pa_nil)) (pg_tup rfl (pgs_cons (pg_name (i := 3) scInit.nd rfl (.inl rfl)) (pgs_cons (pg_name (i := 4) scInit.nd rfl (.inl rfl)) pgs_nil)))
          (pss_one (ps_if (pt_not (pt_val (pe_call GM hr (by rfl) T.gM T.FM.kp T.bM .nil pass0 (pa_cons (pv 1) (pa_cons (pv 4) pa_nil))))) pss_never pss_nil)))
      (pss_cons (ps_fld (pv 0) (pv 1) rfl)
      (pss_one (ps_fld (pv 0) (pe_callTy call_list_of (by rfl) T.mL (by decide +kernel) (pa_cons (pv 2) pa_nil)) rfl))))), ?_⟩
    have G1 := G.m1
    have G2 := G.m6
    have G3 := G.l1
    have G4 := G.l8
    refine ⟨.int (many : Int), rfl, 1, (many : Int), rfl, rfl, _, rfl, ifD (by omega) ⟨_, _, rfl, rfl, _, rfl, iteNS (by omega) ?_⟩⟩
    have hS : SqL K H l ws := SqL.of hl
    refine ⟨.ref l, rfl, l, ws, rfl, .inl hS, 1, _, rfl, rfl, _, rfl, ifD (by omega) ⟨_, _, rfl, rfl, _, rfl, iteNS (by omega) ?_⟩⟩
    -- for number, move in enumerate(moves)
    have nxT : x ≠ tM := fun z => by
      obtain ⟨ps, e, _⟩ := hTab
      rw [z, e] at hx
      cases hx
    have nlT : l ≠ tM := fun z => by
      obtain ⟨ps, e, _⟩ := hTab
      rw [z, e] at hl
      cases hl
    have nxl : x ≠ l := ne_of hx hl (fun z => nomatch z)
    have tupK : ∀ {H'}, Gr tM H H' → ∀ b xs, H b = some (.tup xs) → H' b = some (.tup xs) := fun {H'} g b xs e => g b _ (fun z => by
      obtain ⟨ps, e2, _⟩ := hTab
      rw [z, e2] at e
      cases e) e
    refine ⟨.ref l, rfl, l, ws, rfl, hS, for_it (walk_enum (K := K) (a := l) (xs := ws)) (fun i σ H' => ∃ y3 y4, σ = [some (.ref x), some (.int (many : Int)), some (.ref l), y3, y4] ∧ Gr tM H H' ∧ GxR.TabG H' tM)
      ⟨none, none, rfl, Gr.refl _ _, hTab⟩ (fun i σ H' hi ⟨y3, y4, e, g, t⟩ => SqL.of (g l _ nlT hl)) ?_ ?_⟩
    · rintro i z σ H1 H2 hi ⟨y3, y4, rfl, g1, t1⟩ ⟨Tp, u, v, rfl, nT, rfl, eu, ev⟩
      have g2 : Gr tM H (upd H1 Tp (.tup [u, v])) := g1.new nT
      have t2 : GxR.TabG (upd H1 Tp (.tup [u, v])) tM := by
        obtain ⟨ps, e, t⟩ := t1
        exact ⟨ps, (same_new nT) _ _ e, t⟩
      refine ⟨Tp, [u, v], rfl, SqT.of upd_same, rfl, u, [v], rfl, v, [], rfl, rfl, ?_⟩
      obtain ⟨m, em, hm⟩ := hM.get' ev
      have hgood := G.mv m (List.mem_of_getElem? em)
      have hm2 : MoveAt (upd H1 Tp (.tup [u, v])) v m := hm.same (tupK g2)
      refine ⟨.int (many : Int), rfl, v, rfl, (many : Int), v, m, rfl, hm2, t2, fun H3 g3 t3 => ?_⟩
      rw [isMv_good hgood]
      refine ⟨true, rfl, ?_⟩
      exact ⟨some u, some v, rfl, g2.trans g3, t3⟩
    · rintro σ H1 ⟨y3, y4, rfl, g1, t1⟩
      have hx1 := g1 x _ nxT hx
      have hl1 := g1 l _ nlT hl
      refine ⟨.int (many : Int), rfl, .ref x, rfl, x, C, dx, [], rfl, hx1, T.cl, T.nM, (by show 0 < 1000; decide), ?_⟩
      have hx2 : (upd H1 x (.ins C dx (putF "_many" (.int (many : Int)) []))) x = some (.ins C dx (putF "_many" (.int (many : Int)) [])) := upd_same
      have hl2 : (upd H1 x (.ins C dx (putF "_many" (.int (many : Int)) []))) l = some (.lst ws) := by
        rw [upd_ne (Ne.symm nxl)]
        exact hl1
      refine ⟨.ref l, rfl, l, ws, rfl, .inl (SqL.of hl2), fun a na => ?_⟩
      have nxa : x ≠ a := ne_of_none hx2 na
      refine ⟨.ref x, rfl, x, C, dx, _, rfl, (by rw [upd_ne nxa]; exact hx2), T.cl, T.nV, (by show 1 < 1000; decide), ?_⟩
      have naH1 : H1 a = none := by
        rw [upd_ne (Ne.symm nxa)] at na
        exact na
      have keepT : ∀ b o, b ≠ x → H1 b = some o → (upd (upd (upd H1 x (.ins C dx (putF "_many" (.int (many : Int)) []))) a (.lst ws)) x (.ins C dx (chF (many : Int) a))) b = some o := fun b o nb e => by
        rw [upd_ne nb, upd_ne (ne_of_none e naH1), upd_ne nb]
        exact e
      have ntx : ∀ xs, H1 x ≠ some (.tup xs) := fun xs z => by
        rw [hx1] at z
        cases z
      have naH : H a = none := by
        cases h : H a with
        | none => rfl
        | some o =>
          have nat : a ≠ tM := fun z => by
            obtain ⟨ps, e, _⟩ := t1
            rw [z, e] at naH1
            cases naH1
          rw [g1 a o nat h] at naH1
          cases naH1
      refine q _ ⟨dx, a, ws, upd_same, ?_, hM.same (fun b xs e => ?_), naH⟩ (fun b o nb nt e => keepT b o nb (g1 b o nt e)) ?_
      · rw [upd_ne (Ne.symm nxa)]
        exact upd_same
      · have e1 := tupK g1 b xs e
        refine keepT b _ (fun z => ?_) e1
        rw [z] at e1
        exact ntx xs e1
      · obtain ⟨ps, e, t⟩ := t1
        exact ⟨ps, keepT _ _ (Ne.symm nxT) e, t⟩
/-! ### places, told -/
theorem scPlaces : FnScope ["self"] ["self"] (defScope (inClass cChain 1)) := ⟨rfl, rfl, rfl, by decide +kernel, rfl, by decide +kernel, by decide +kernel⟩
theorem scTold : FnScope ["self"] ["self"] (defScope (inClass cChain 2)) := ⟨rfl, rfl, rfl, by decide +kernel, rfl, by decide +kernel, by decide +kernel⟩
def spPlaces (C : Addr) : Sp := fun vs H Q _ => ∃ (x : Addr) (many : Nat) (ms : List Mv), vs = [.ref x] ∧ ChainAt C H x many ms ∧ Q (.int (many : Int)) H
def spTold (C : Addr) : Sp := fun vs H Q _ => ∃ (x : Addr) (many : Nat) (ms : List Mv), vs = [.ref x] ∧ ChainAt C H x many ms ∧ ∀ (l : Addr) (ws : List V), H l = none → MovesAt (upd H l (.lst ws)) ws ms → Q (.ref l) (upd H l (.lst ws))
theorem ok_places {f : Addr} {fd : FuncData} {k : Nat} (F : Fun K "places" "Chain.places" (inClass cChain 1) f fd) (cl : Cls K C) (nM : NoAttr K C "_many") : FnOk P w K mg base CX0 (k + 1) f fd ["self"] (spPlaces C) := by
  refine F.ok scPlaces (fun vs H Q E h => ?_) (fun cdv A outer s H vs Q E hr h => ?_)
  · obtain ⟨x, many, ms, rfl, _⟩ := h
    rfl
  · obtain ⟨x, many, ms, rfl, ⟨dx, a, ws, h1, h2, h3⟩, q⟩ := h
    exact ⟨_, pss_one (ps_ret (pe_fld (pv 0) rfl)), .ref x, rfl, x, C, dx, _, _, rfl, h1, cl, nM, chF_many _ _, q⟩
theorem ok_told {f : Addr} {fd : FuncData} {k : Nat} (F : Fun K "told" "Chain.told" (inClass cChain 2) f fd) (cl : Cls K C) (nV : NoAttr K C "_moves") (mL : mg "list" = none) : FnOk P w K mg base CX0 (k + 1) f fd ["self"] (spTold C) := by
  refine F.ok scTold (fun vs H Q E h => ?_) (fun cdv A outer s H vs Q E hr h => ?_)
  · obtain ⟨x, many, ms, rfl, _⟩ := h
    rfl
  · obtain ⟨x, many, ms, rfl, ⟨dx, a, ws, h1, h2, h3⟩, q⟩ := h
    exact ⟨_, pss_one (ps_ret (pe_callTy call_list_of (by rfl) mL (by decide +kernel) (pa_cons (pe_fld (pv 0) rfl) pa_nil))), .ref x, rfl, x, C, dx, _, _, rfl, h1, cl, nV, chF_moves _ _, a, ws, rfl, .inl (SqL.of h2), fun l nl => q l ws nl (h3.same (Same.tups (same_new nl)))⟩
/-! ### _law_made -/
theorem scMade : FnScope ["_law_told"] ["_law_told"] (defScope sMade) := ⟨rfl, rfl, rfl, by decide +kernel, rfl, by decide +kernel, by decide +kernel⟩
def spMade (C T : Addr) : Sp := fun vs H Q _ => ∃ (t m : Addr) (many : Nat) (ws : List V) (ms : List Mv), vs = [.ref t] ∧ ToldAt H t m many ws ms ∧ Good many ms ∧ GxR.TabG H T ∧ ∀ H' x, ChainAt C H' x many ms → H x = none → Gr T H H' → GxR.TabG H' T → Q (.ref x) H'
theorem ok_made {f : Addr} {fd : FuncData} (F : Fun K "_law_made" "_law_made" sMade f fd) (T : ChTxt K mg fM cM tM fdM C fI fdI) (TB : GxR.TabB base mg cM tM) : FnOk P w K mg base CX0 4 f fd ["_law_told"] (spMade C tM) := by
  have GI : FnOk P w K mg base CX0 2 fI fdI ["self", "many", "moves"] (spInitG C tM) := ok_initG T TB
  refine F.ok scMade (fun vs H Q E h => ?_) (fun cdv A outer s H vs Q E hr h => ?_)
  · obtain ⟨t, m, many, ws, ms, rfl, _⟩ := h
    rfl
  · obtain ⟨t, m, many, ws, ms, rfl, ⟨h1, h2, h3⟩, G, ⟨ps, hT, htr⟩, q⟩ := h
    refine ⟨_, pss_one (ps_ret (pe_make T.mC GI hr (by rfl) T.gC T.bI .nil pass0 (pa_cons (pe_ix ix_tup (pv 0) pe_int (fun _ _ => rfl)) (pa_cons (pe_callTy call_list_of (by rfl) T.mL (by decide +kernel) (pa_cons (pe_ix ix_tup (pv 0) pe_int (fun _ _ => rfl)) pa_nil)) pa_nil)))), ?_⟩
    refine ⟨.ref t, rfl, t, _, 0, _, rfl, rfl, SqT.of h1, atI_nat (j := 0) rfl, .ref t, rfl, t, _, 1, _, rfl, rfl, SqT.of h1, atI_nat (j := 1) rfl, m, ws, rfl, .inl (SqL.of h2), fun l nl x dx nx ndx nxd => ?_⟩
    have s1 : Same H (upd H l (.lst ws)) := same_new nl
    have s2 : Same (upd H l (.lst ws)) (upd (upd H l (.lst ws)) dx (.own x)) := same_new ndx
    have nx' : (upd (upd H l (.lst ws)) dx (.own x)) x = none := by
      rw [upd_ne (Ne.symm nxd)]
      exact nx
    have s3 := same_new (o := .ins C dx []) nx'
    have s := (s1.trans s2).trans s3
    refine ⟨x, dx, l, many, ws, ms, rfl, upd_same, (s2.trans s3) _ _ upd_same, h3.same (Same.tups s), G, ⟨ps, s _ _ hT, htr⟩, fun H' hc g t' => ⟨rfl, ?_⟩⟩
    exact q H' x hc.at (s1.free nx) (fun b o nb e => g b o (ne_of_none (s1 _ _ e) nx) nb (s _ _ e)) t'
end
/-- a def of the module, named -/
structure Df (K : PySem.W.Frag) (mg : Str → Option Value) (x : Str) (st : Stmt) (ps : List Str) (f : Addr) (fd : FuncData) : Prop where
  F : Fun K x x st f fd
  b : Binds K fd ps []
  g : mg x = some (.ref f)
def spLaw (K : PySem.W.Frag) (T : Addr) : Sp := fun vs H Q _ => ∃ (a : Addr) (ns : List Int), vs = [.ref a] ∧ SqL K H a (ns.map V.int) ∧ ns.length ≤ 63 ∧ GxR.TabG H T ∧ ∀ H', Q (.bl true) H'
theorem Same.put {H H1 : Hp} {p : Addr} {o : HO} (s : Same H H1) (n : H p = none) : Same H (upd H1 p o) := fun b u e => by
  rw [upd_ne (ne_of_none e n)]
  exact s b u e
theorem ToldAt.same {H H' : Hp} {t m : Addr} {many : Nat} {ws : List V} {ms : List Mv} (s : Same H H') (h : ToldAt H t m many ws ms) : ToldAt H' t m many ws ms := ⟨s _ _ h.1, s _ _ h.2.1, h.2.2.same (Same.tups s)⟩
theorem ToldAt.gr {K : PySem.W.Frag} {d l : Addr} {ns : List Int} {H H' : Hp} {t m : Addr} {many : Nat} {ws : List V} {ms : List Mv} (hd : Dc K l ns H d) (g : Gr d H H') (h : ToldAt H t m many ws ms) : ToldAt H' t m many ws ms :=
  ⟨g.tups hd _ _ h.1, g _ _ (hd.ne_of h.2.1 (moves_no_dl h.2.2)) h.2.1, h.2.2.same (g.tups hd)⟩
/-- a table stands while the dice turns -/
theorem tab_gr {K : PySem.W.Frag} {d l : Addr} {ns : List Int} {H H' : Hp} {T : Addr} (hd : Dc K l ns H d) (g : Gr d H H') (h : GxR.TabG H T) : GxR.TabG H' T := by
  obtain ⟨ps, e, t⟩ := h
  exact ⟨ps, g _ _ (hd.ne_of e fun _ _ _ _ z => nomatch z) e, t⟩
theorem tab_same {H H' : Hp} {T : Addr} (s : Same H H') (h : GxR.TabG H T) : GxR.TabG H' T := by
  obtain ⟨ps, e, t⟩ := h
  exact ⟨ps, s _ _ e, t⟩
/-- what is no table stands while the table grows -/
theorem Gr.tab {T p : Addr} {H H' : Hp} {o : HO} (hT : GxR.TabG H T) (g : Gr T H H') (n : ∀ qs, o ≠ .tbl qs) (h : H p = some o) : H' p = some o := g p o (fun z => by
  obtain ⟨ps, e, _⟩ := hT
  rw [z, e] at h
  exact n ps (Option.some.inj h).symm) h
theorem ToldAt.tab {T t m : Addr} {H H' : Hp} {many : Nat} {ws : List V} {ms : List Mv} (hT : GxR.TabG H T) (g : Gr T H H') (h : ToldAt H t m many ws ms) : ToldAt H' t m many ws ms :=
  ⟨g.tab hT (fun _ z => nomatch z) h.1, g.tab hT (fun _ z => nomatch z) h.2.1, h.2.2.same fun _ _ e => g.tab hT (fun _ z => nomatch z) e⟩
theorem Dc.tabT {K : PySem.W.Frag} {T d l : Addr} {ns : List Int} {H H' : Hp} (hT : GxR.TabG H T) (g : Gr T H H') (h : Dc K l ns H d) : Dc K l ns H' d := by
  obtain ⟨s0, k, big, h1, h2, h3⟩ := h
  refine ⟨s0, k, big, g.tab hT (fun _ z => nomatch z) h1, ?_, h3⟩
  rcases h2 with (h | ⟨o, h⟩) | h
  · exact .inl (.inl (g.tab hT (fun _ z => nomatch z) h))
  · exact .inl (.inr ⟨o, g.tab hT (fun _ z => nomatch z) h⟩)
  · exact .inr h
theorem Gr.put {d : Addr} {H H1 : Hp} {p : Addr} {o : HO} (a : Gr d H H1) (h : H p = none) : Gr d H (upd H1 p o) := fun b u n e => by
  rw [upd_ne (ne_of_none e h)]
  exact a b u n e
theorem Gr.free {d : Addr} {H H1 : Hp} {p : Addr} (a : Gr d H H1) (n : H1 p = none) (h : p ≠ d) : H p = none := by
  cases e : H p with
  | none => rfl
  | some o =>
    rw [a p o h e] at n
    cases n
theorem paired_drop {α β : Type} {F : α → β → Prop} : ∀ {l₁ : List α} {l₂ : List β} (n : Nat), Paired F l₁ l₂ → Paired F (l₁.drop n) (l₂.drop n)
  | _, _, 0, h => h
  | _, _, _ + 1, .nil => .nil
  | _, _, n + 1, .cons _ t => paired_drop n t
theorem paired_take {α β : Type} {F : α → β → Prop} : ∀ {l₁ : List α} {l₂ : List β} (n : Nat), Paired F l₁ l₂ → Paired F (l₁.take n) (l₂.take n)
  | _, _, 0, _ => .nil
  | _, _, _ + 1, .nil => .nil
  | _, _, n + 1, .cons h t => .cons h (paired_take n t)
theorem paired_app {α β : Type} {F : α → β → Prop} : ∀ {l₁ : List α} {l₂ : List β} {k₁ : List α} {k₂ : List β}, Paired F l₁ l₂ → Paired F k₁ k₂ → Paired F (l₁ ++ k₁) (l₂ ++ k₂)
  | _, _, _, _, .nil, h => h
  | _, _, _, _, .cons q t, h => .cons q (paired_app t h)
theorem paired_rep {α β : Type} {F : α → β → Prop} {a : α} {b : β} (h : F a b) : ∀ n, Paired F (List.replicate n a) (List.replicate n b)
  | 0 => .nil
  | n + 1 => .cons h (paired_rep h n)
theorem filter_snoc {l : List Int} {i : Nat} {x : Int} {F : Int → Bool} (h : l[i]? = some x) : (l.take (i + 1)).filter F = (l.take i).filter F ++ (if F x = true then [x] else []) := by
  rw [List.take_add_one, h, List.filter_append]
  cases hk : F x with
  | true => simp [hk]
  | false => simp [hk]
theorem paired_get {α β : Type} {F : α → β → Prop} : ∀ {l₁ : List α} {l₂ : List β} {i : Nat} {b : β}, Paired F l₁ l₂ → l₂[i]? = some b → ∃ a, l₁[i]? = some a ∧ F a b
  | _, _, _, _, .nil, e => by simp at e
  | _, _, 0, _, .cons h _, e => by
    simp at e
    subst e
    exact ⟨_, rfl, h⟩
  | _, _, i + 1, b, .cons _ t, e => by
    obtain ⟨a, h1, h2⟩ := paired_get (i := i) (b := b) t (by simpa using e)
    exact ⟨a, by simpa using h1, h2⟩
theorem paired_end {α β : Type} {F : α → β → Prop} {a : α} {b : β} (h : F a b) : ∀ {l₁ : List α} {l₂ : List β}, Paired F l₁ l₂ → Paired F (l₁ ++ [a]) (l₂ ++ [b])
  | _, _, .nil => .cons h .nil
  | _, _, .cons q t => .cons q (paired_end h t)
theorem take_snoc {α : Type} {l : List α} {i : Nat} {x : α} (h : l[i]? = some x) : l.take (i + 1) = l.take i ++ [x] := by
  rw [List.take_add_one, h]
  rfl
theorem small1k {n : Nat} (h : n ≤ 1001) : n < sizeLine := Nat.lt_of_le_of_lt h (by decide)
section
variable {P : Program} {w : World} {K : PySem.W.Frag} {mg : Str → Option Value} {base : Heap} {C : Addr}
/-- range(n) as a value -/
theorem cr_range1 {X : Cx} : CallR X (.type "range") (fun vs H Q => ∃ n, vs = [V.int n] ∧ ∀ p, H p = none → Q (.ref p) (upd H p (.rng 0 n))) := by
  intro pins s σ H vs us Q I r ⟨n, ev, q⟩
  subst ev
  cases r with
  | cons rn rr =>
    cases rr
    obtain ⟨t, rfl⟩ := rn
    refine call_range_1 ⟨.ref s.heap.objs.size, upd H s.heap.objs.size (.rng 0 n), I.laid (t' := s.toks + 1 + 1) (fun b o e => Heap.get?_push_of_some _ e) (Nat.le_refl _) ?_, rfl, q _ (I.hok.fresh (Nat.le_refl _))⟩
    exact ⟨s.toks, t, s.toks + 1, Heap.get?_push_size _ rfl⟩
/-! ### steps_of -/
structure ChM (K : PySem.W.Frag) (C fP fT : Addr) (fdP fdT : FuncData) : Prop where
  FP : Fun K "places" "Chain.places" (inClass cChain 1) fP fdP
  bP : Binds K fdP ["self"] []
  hP : Meth K C "places" fP
  FT : Fun K "told" "Chain.told" (inClass cChain 2) fT fdT
  bT : Binds K fdT ["self"] []
  hT : Meth K C "told" fT
  cl : Cls K C
  nM : NoAttr K C "_many"
  nV : NoAttr K C "_moves"
theorem ch_no {many : Int} {a : Addr} : (chF many a).lookup ("places" : Str) = none := chF_no _ _ (by decide +kernel) (by decide +kernel)
theorem ch_noT {many : Int} {a : Addr} : (chF many a).lookup ("told" : Str) = none := chF_no _ _ (by decide +kernel) (by decide +kernel)
theorem rg_ends (n : Nat) : rgV 0 (n : Int) = ((List.range n).map fun (i : Nat) => (i : Int)).map V.int := by
  unfold rgV
  rw [List.map_map]
  have e : ((n : Int) - 0).toNat = n := by omega
  rw [e]
  refine List.map_congr_left fun i _ => ?_
  show V.int (0 + (i : Int)) = V.int (i : Int)
  rw [Int.zero_add]
end
/-! ### data that are compared -/
def Sh (n : Nat) (d : PyData) : Prop := d.canLay0 = true ∧ d.depth ≤ n
theorem canAll : ∀ {ds : List PyData}, (∀ d ∈ ds, d.canLay0 = true) → PyData.canLayAll0 ds = true
  | [], _ => rfl
  | d :: ds, h => by
    show (d.canLay0 && PyData.canLayAll0 ds) = true
    rw [h d List.mem_cons_self, canAll fun z hz => h z (List.mem_cons_of_mem _ hz)]
    rfl
theorem depAll {n : Nat} : ∀ {ds : List PyData}, (∀ d ∈ ds, d.depth ≤ n) → PyData.depthAll ds ≤ n
  | [], _ => Nat.zero_le _
  | d :: ds, h => by
    show max d.depth (PyData.depthAll ds) ≤ n
    exact Nat.max_le.mpr ⟨h d List.mem_cons_self, depAll fun z hz => h z (List.mem_cons_of_mem _ hz)⟩
theorem Sh.int {n : Nat} (i : Int) : Sh n (.int i) := ⟨rfl, Nat.zero_le _⟩
theorem Sh.bool {n : Nat} (b : Bool) : Sh n (.bool b) := ⟨rfl, Nat.zero_le _⟩
theorem Sh.none {n : Nat} : Sh n .none := ⟨rfl, Nat.zero_le _⟩
theorem Sh.tuple {n : Nat} {ds : List PyData} (h : ∀ d ∈ ds, Sh n d) : Sh (n + 1) (.tuple ds) := ⟨canAll fun d hd => (h d hd).1, Nat.succ_le_succ (depAll fun d hd => (h d hd).2)⟩
theorem Sh.list {n : Nat} {ds : List PyData} (h : ∀ d ∈ ds, Sh n d) : Sh (n + 1) (.list ds) := ⟨canAll fun d hd => (h d hd).1, Nat.succ_le_succ (depAll fun d hd => (h d hd).2)⟩
theorem Sh.mono {n m : Nat} {d : PyData} (h : Sh n d) (le : n ≤ m) : Sh m d := ⟨h.1, Nat.le_trans h.2 le⟩
theorem Sh.shaped {n : Nat} {d : PyData} (h : Sh n d) (le : n ≤ 64) : SeqAt.shaped d = true := by
  unfold SeqAt.shaped
  rw [h.1, decide_eq_true (Nat.le_trans h.2 le)]
  rfl
theorem Sh.refl {n : Nat} {d : PyData} (h : Sh n d) : PyData.eqv d d = true := SeqAt.eqv_refl d h.1
theorem Sh.ints {n : Nat} (ns : List Int) : ∀ d ∈ ns.map PyData.int, Sh n d := fun d hd => by
  obtain ⟨i, _, rfl⟩ := List.mem_map.mp hd
  exact .int i
def mvD (m : Mv) : PyData := .tuple [.int m.1, .tuple (m.2.map PyData.int)]
theorem Sh.mv (m : Mv) : Sh 2 (mvD m) := Sh.tuple fun d hd => by
  rcases List.mem_cons.mp hd with rfl | hd
  · exact .int _
  rcases List.mem_cons.mp hd with rfl | hd
  · exact Sh.tuple (Sh.ints _)
  · cases hd
theorem Sh.mvs (ms : List Mv) : Sh 3 (.list (ms.map mvD)) := Sh.list fun d hd => by
  obtain ⟨m, _, rfl⟩ := List.mem_map.mp hd
  exact .mv m
theorem dp_ints (K : PySem.W.Frag) (H : Hp) : ∀ ns : List Int, DpAll K H (ns.map V.int) (ns.map PyData.int)
  | [] => .nil
  | n :: ns => .cons (.int n) (dp_ints K H ns)
theorem dp_lst {K : PySem.W.Frag} {H : Hp} {a : Addr} {ns : List Int} (h : H a = some (.lst (ns.map V.int))) : Dp K H (.ref a) (.list (ns.map PyData.int)) := .lst (SqL.of h) (dp_ints K H ns)
theorem dp_tup {K : PySem.W.Frag} {H : Hp} {a : Addr} {ns : List Int} (h : H a = some (.tup (ns.map V.int))) : Dp K H (.ref a) (.tuple (ns.map PyData.int)) := .tup (SqT.of h) (dp_ints K H ns)
theorem dp_mv {K : PySem.W.Frag} {H : Hp} {v : V} {m : Mv} (h : MoveAt H v m) : Dp K H v (mvD m) := by
  obtain ⟨a, q, rfl, ha, hq⟩ := h
  exact .tup (SqT.of ha) (.cons (.int _) (.cons (dp_tup hq) .nil))
theorem dp_mvAll {K : PySem.W.Frag} {H : Hp} : ∀ {ws : List V} {ms : List Mv}, MovesAt H ws ms → DpAll K H ws (ms.map mvD)
  | _, _, .nil => .nil
  | _, _, .cons h t => .cons (dp_mv h) (dp_mvAll t)
theorem dp_mvs {K : PySem.W.Frag} {H : Hp} {a : Addr} {ws : List V} {ms : List Mv} (h : H a = some (.lst ws)) (hM : MovesAt H ws ms) : Dp K H (.ref a) (.list (ms.map mvD)) := .lst (SqL.of h) (dp_mvAll hM)
theorem hu64 {A : Around} {k : Nat} (hr : Room k A) : A.units + 64 < cLine := by
  have := hr.un
  omega
/-- d != d is False, d == d is True -/
theorem ne_same {K : PySem.W.Frag} {x y : V} {d : PyData} {n : Nat} {H : Hp} {Q : VK} (hx : Dp K H x d) (hy : Dp K H y d) (h : Sh n d) (le : n ≤ 64) (q : Q (.bl false) H) : rNeD K x y H Q := by
  refine ⟨d, d, hx, hy, h.shaped le, h.shaped le, ?_⟩
  rw [h.refl]
  exact q
theorem eq_same {K : PySem.W.Frag} {x y : V} {d : PyData} {n : Nat} {H : Hp} {Q : VK} (hx : Dp K H x d) (hy : Dp K H y d) (h : Sh n d) (le : n ≤ 64) (q : Q (.bl true) H) : rEqD K x y H Q := by
  refine ⟨d, d, hx, hy, h.shaped le, h.shaped le, ?_⟩
  rw [h.refl]
  exact q
/-! ### sorted(set(a list of ints)): a rule of our own -/
section
variable {prog : Program} {w : World} {A : Around} {E : Value → Shared → Prop} {s : Shared}
/-- a set as it is when it has just been made -/
def bareSet (w : World) : Obj :=
  { cls := .type "set", dict := none, data := .set #[] 0 (.fresh 0 0 (!w.params.followText "set-order")) }
set_option maxHeartbeats 3200000 in
open PySem PyProof.Rows in
/-- the set at S takes what a list gives -/
theorem set_takes {l : Addr} {its : Array Value} {ns : List Int} {R : Result → Shared → Prop} (S : Addr) (hh : A.handled = none) (hS : s.heap.get? S = some (bareSet w)) (hl : s.heap.IsList l its) (neq : l ≠ S) (hi : IntsAre its.toList ns) (small : ns.length + 1 < scanBound)
    (hR : ∀ (g : Heap) (tk c : Nat), SetR w g S (fun j => decide (j ∈ ns)) c → c ≤ ns.length → (∀ b o, b ≠ S → s.heap.get? b = some o → g.get? b = some o) → R (.ok (.ret .none)) { s with heap := g, toks := tk }) :
    wpAny (model prog w) A.in1 (Builtin.«set.__init__» ⟨[.ref S, .ref l], []⟩)
      (fun fin s' => match fin with | .done f => R (.ok f) s' | .again c' => c'.quiet = true ∧ codeAny (model prog w) A c' R s') (fun e s' => R (.error e) s') s := by
  have sz : its.size = ns.length := by
    rw [← Array.length_toList]
    exact IntsAre.length hi
  have ltl : l < s.heap.objs.size := let ⟨_, g, _⟩ := hl; Heap.lt_size g
  have ltS : S < s.heap.objs.size := Heap.lt_size hS
  have hl' := hl
  obtain ⟨⟨k1, k2, k3, k4⟩, g, k5, k6, k7⟩ := hl'
  simp only at k5 k7
  subst k5
  subst k7
  have tS := F.sub_list_set
  have tF := F.sub_list_frozenset
  have tD : (Value.type "list" == Value.type "dict") = false := by decide
  have hi3 : A.in1.in1.handled = none := by
    simp [hh]
  unfold Builtin.«set.__init__» noKeywords
  unfold Builtin.Frozenset.updateFrom
  generalize hq : pyIter = q
  wp_walk
  subst hq
  refine wpAny_pyIter_list hl ?_
  refine wpAny_bind (wpAny_runValue ?_)
  generalize hI : s.heap.objs.size = I at *
  have offS : S ∉ [I, l] := by
    intro h
    rcases List.mem_cons.mp h with e | e
    · exact absurd e (Nat.ne_of_lt ltS)
    · exact neq (List.mem_singleton.mp e).symm
  have offL : l ≠ I := Nat.ne_of_lt ltl
  have vals : ∀ (i : Nat) (v : Value), its[i]? = some v → ∃ k t, ns[i]? = some k ∧ v = .int k t := by
    intro i v hv
    have lt : i < ns.length := by
      rw [← sz]
      exact (Array.getElem?_eq_some_iff.mp hv).1
    obtain ⟨t, e⟩ := IntsAre.int_at hi i v (by rw [Array.getElem?_toList]; exact hv)
    refine ⟨ns[i], t, List.getElem?_eq_getElem lt, ?_⟩
    rw [e, List.getD_eq_getElem?_getD, List.getElem?_eq_getElem lt]
    rfl
  have W := (Walks.list (prog := prog) (w := w) (A := A.in1.in1) hi3 I l offL its).toS
  have fresh1 : ∀ b o, s.heap.get? b = some o → (s.heap.push { cls := .type "list_iterator", data := .fields #[.ref l, .int 0 0] }).get? b = some o := fun b o e => Heap.get?_push_of_some _ e
  have new1 : (s.heap.push { cls := .type "list_iterator", data := .fields #[.ref l, .int 0 0] }).get? I = some { cls := .type "list_iterator", data := .fields #[.ref l, .int 0 0] } := by
    rw [← hI]
    exact Heap.get?_push_size _ rfl
  refine set_update_ints W S offS ns sz small vals its.size 0 _ (Nat.sub_zero _) (Nat.zero_le _) ⟨⟨_, new1, rfl, rfl⟩, ⟨_, fresh1 _ _ g, rfl, _, rfl⟩⟩ ⟨0, Nat.le_refl _, setR_new_at (fresh1 _ _ hS)⟩ fun s' c mv hc hs => ?_
  refine wpAny_pure (wpAny_pure ?_)
  rw [Moved.eq_with mv]
  refine hR s'.heap s'.toks c hs (by rw [← sz]; exact hc) fun b o nb e => mv.heap b o (fun z => ?_) (fresh1 b o e)
  rcases List.mem_cons.mp z with z | z
  · exact nb z
  · have : b < I := by
      rw [← hI]
      exact Heap.lt_size e
    exact absurd (List.mem_singleton.mp z) (Nat.ne_of_lt this)
/-- callType_codes, where the check of __init__'s arguments is proved by itself -/
theorem callType_checked {T nid iid : String} {Bi : Builtin} {args : List Value} {Q Q₁ : Value → Shared → Prop} (ft : TypeCalled T nid iid) (ct : checkTypeCall T ⟨args, []⟩ = pure ()) (en : PySem.entryFor PySem.table iid = some Bi)
    (mk : codeAny (model prog w) A.in1 (.call (.builtin nid) ⟨.type T :: args, []⟩) (wants Q₁ E) s)
    (nx : ∀ obj t, Q₁ obj t → t.TypeIs obj T ∧ (∀ (M : Model) (B : Around) (F : Value → Shared → Prop) (Z : Unit → Shared → Prop), Z () t → wpAny M B (checkBuiltinCall iid ⟨obj :: args, []⟩) Z F t) ∧
      wpAny (model prog w) A.in1.in1 (Bi ⟨obj :: args, []⟩)
        (fun fin u => match fin with | .done f => wants (fun r v => r = .none ∧ Q obj v) E (.ok f) u | .again c => c.quiet = true ∧ codeAny (model prog w) A.in1 c (wants (fun r v => r = .none ∧ Q obj v) E) u)
        (fun e u => wants (fun r v => r = .none ∧ Q obj v) E (.error e) u) t) :
    wpAny (model prog w) A (call (.type T) args) Q E s := by
  have ⟨c0, t0, mr⟩ := ft.mro
  have md := ft.made
  have sb := ft.sub
  refine wpAny_call (codeAny_of_tree ?_)
  show wpAny _ _ (callAny (.type T) _) _ _ _
  refine wpAny_pure ⟨PySem.Code.quiet_builtin _ (by decide +kernel), codeAny_builtin F.entry_type_call ?_⟩
  rw [Around.under_plain (weight_type_call_type T args []) rfl]
  have n1 := ft.notType
  have n2 := ft.canCreate
  repeat (any_goals (first | assumption | wp_step))
  refine codeAny_mono mk fun r t ht => ?_
  match r, ht with
  | .error e, ht => exact ht
  | .ok (.ret obj), ht =>
    obtain ⟨hT, ck, run⟩ := nx _ _ ht
    have li := ft.init.lookup
    have bi := ft.init.bind obj
    repeat (any_goals (first | assumption | wp_step))
    refine codeAny_mono (codeAny_call_builtin ft.init.plain en (ck _ _ _ _ run)) fun r2 t2 h2 => ?_
    match r2, h2 with
    | .error e, h2 => exact h2
    | .ok (.ret r), h2 =>
      obtain ⟨rfl, hq⟩ := h2
      repeat (any_goals (first | assumption | wp_step))
open PyProof.Rows in
theorem call_setL {l : Addr} {its : Array Value} (ns : List Int) {Q : Value → Shared → Prop} (hh : A.handled = none) (hl : s.heap.IsList l its) (hi : IntsAre its.toList ns) (small : ns.length + 1 < scanBound)
    (h : ∀ (g : Heap) (tk c : Nat), SetR w g s.heap.objs.size (fun j => decide (j ∈ ns)) c → c ≤ ns.length → (∀ b o, s.heap.get? b = some o → g.get? b = some o) → Q (.ref s.heap.objs.size) { s with heap := g, toks := tk }) :
    wpAny (model prog w) A (call (.type "set") [.ref l]) Q E s := by
  have ltl : l < s.heap.objs.size := let ⟨_, g, _⟩ := hl; Heap.lt_size g
  refine callType_checked (Q₁ := fun obj t => obj = .ref s.heap.objs.size ∧ t = { s with heap := s.heap.push (bareSet w) }) F.called_set (F.typeCall_set_1 _) F.entry_set_init (code_set_led1 _ ⟨rfl, rfl⟩) fun obj t ht => ?_
  obtain ⟨rfl, rfl⟩ := ht
  have hS : (s.heap.push (bareSet w)).get? s.heap.objs.size = some (bareSet w) := Heap.get?_push_size _ rfl
  refine ⟨⟨_, hS, rfl⟩, fun M B F Z hz => check_set_init_1 ⟨_, hS, rfl⟩ hz, ?_⟩
  refine set_takes (A := A.in1) (s := { s with heap := s.heap.push (bareSet w) }) s.heap.objs.size (by simp [hh]) hS (hl.push _) (Nat.ne_of_lt ltl) hi small fun g tk c hs hc kp => ⟨rfl, h g tk c hs hc fun b o e => kp b o (Nat.ne_of_lt (Heap.lt_size e)) (Heap.get?_push_of_some _ e)⟩
/-- sorted(set(e)), e a list of ints: a new list that rises -/
def tSSet (K : PySem.W.Frag) (ta : TE) : TE := fun σ H Q => ta σ H fun x H1 => ∃ (l : Addr) (ns : List Int), x = V.ref l ∧ SqL K H1 l (ns.map V.int) ∧ ns.length < 64 ∧
  ∀ (p : Addr) (xs : List Int) (c : Nat), xs.Pairwise (· < ·) → (∀ k : Int, k ∈ xs ↔ k ∈ ns) → xs.length = c → c ≤ ns.length → H1 p = none → Q (.ref p) (upd H1 p (.lst (xs.map V.int)))
open RZ in
theorem pe_sset {X : Cx} {a : Expr} {ta : TE} {p p2 q pos : Pos} (hg : Gl X "sorted") (hm : X.mg "sorted" = none) (hg2 : Gl X "set") (hm2 : X.mg "set" = none) (ha : PE X a ta) (hc : X.calm = true := by rfl)
    (na : starEach [a] X.env = (false, eval a X.env) :: starEach [] X.env := by rfl) (nb : starEach [.Call (.Name "set" p2) [a] [] q] X.env = (false, eval (.Call (.Name "set" p2) [a] [] q) X.env) :: starEach [] X.env := by rfl) :
    PE X (.Call (.Name "sorted" p) [.Call (.Name "set" p2) [a] [] q] [] pos) (tSSet X.K ta) := by
  refine ⟨fun pins s σ H Q I h => Call_ (ld_blt I hg hm PyProof.Rows.boot_sorted (PyProof.Rows.callWith_builtin1 (PyProof.Rows.args_cons (Call_ (ld_blt I hg2 hm2 PyProof.Rows.boot_set
    (PyProof.Rows.callWith_type1 (PyProof.Rows.args_cons (thn (ha.run pins s σ H _ I h) fun v s1 hq => PyProof.Rows.args_nil ?_) na) na rfl))) nb) nb rfl))⟩
  obtain ⟨x, H1, I1, r1, l, ns, ex, hq, hl, q1⟩ := hq
  subst ex
  have e0 : v = Value.ref l := r1
  subst e0
  obtain ⟨its, r, pl, hz⟩ := I1.list hq
  have hit : PyProof.Rows.IntsAre its.toArray.toList ns := by simpa using intsAre_vals r
  refine call_setL ns (I1.ok.hd hc) pl.isList hit (by unfold scanBound; omega) fun g tk c hs hcn kp => PyProof.Rows.args_nil ?_
  have I2 : Inv X pins σ H1 { s1 with heap := g, toks := tk } := I1.kept kp
  refine sorted_set hs (I2.ok.hd hc) (by omega) fun s2 p out c2 xs k gs os hp hg' hix hsx hm' hl' => ?_
  have hn : H1 p = none := I2.hok.fresh hp
  have len : (xs.map V.int).length ≤ sizeLine := by
    rw [List.length_map, hl']
    exact Nat.le_of_lt (small1k (by omega))
  have J : Inv X pins σ (upd H1 p (.lst (xs.map V.int))) { s1 with heap := s2.heap, gens := s2.gens, drawn := s2.drawn, toks := s2.toks } :=
    Inv.call (s := { s1 with heap := g, toks := tk }) I2 (ch := []) (Un.laid k hp hn) (I2.hok.laid k hp ⟨len, out.toList, c2, vals_of_ints hix, hg'⟩) (by rw [gs]; exact I2.bare) (fun _ z => nomatch z)
  have e : s2 = { s1 with heap := s2.heap, gens := s2.gens, drawn := s2.drawn, toks := s2.toks } := by
    have o2 : s2.os = s1.os := os
    rw [← o2]
  rw [e]
  exact ⟨.ref p, _, J, rfl, q1 p xs c hsx (fun z => (hm' z).trans (by simp)) hl' hcn hn⟩
end
/-! ### len(set(a list of ints)): a rule of our own, whatever stands twice in it -/
def dist (ns : List Int) : List Int := PyProof.Rows.firstMet (fun i => ns.getD i 0) ns.length
def one (ns : List Int) : Bool := decide (V.int (((dist ns).length : Nat) : Int) = V.int 1)
open RZ in
def tLenSetN (K : PySem.W.Frag) (ta : TE) : TE := fun σ H Q => ta σ H fun x H1 => ∃ (l : Addr) (ns : List Int), x = V.ref l ∧ SqL K H1 l (ns.map V.int) ∧ ns.length < 64 ∧ Q (.int (((dist ns).length : Nat) : Int)) H1
open RZ in
theorem pe_lenSetN {X : Cx} {a : Expr} {ta : TE} {p p2 q pos : Pos} (hg : Gl X "len") (hm : X.mg "len" = none) (hg2 : Gl X "set") (hm2 : X.mg "set" = none) (ha : PE X a ta) (hc : X.calm = true := by rfl)
    (na : starEach [a] X.env = (false, eval a X.env) :: starEach [] X.env := by rfl) : PE X (.Call (.Name "len" p) [.Call (.Name "set" p2) [a] [] q] [] pos) (tLenSetN X.K ta) := by
  refine ⟨fun pins s σ H Q I h => Call_ (ld_blt I hg hm PySem.boot_len (PyProof.Rows.callWith_builtin1 (PyProof.Rows.args_cons (Call_ (ld_blt I hg2 hm2 PyProof.Rows.boot_set
    (PyProof.Rows.callWith_type1 (PyProof.Rows.args_cons (thn (ha.run pins s σ H _ I h) fun v s1 hq => PyProof.Rows.args_nil ?_) na) na rfl))) rfl) rfl rfl))⟩
  obtain ⟨x, H1, I1, r1, l, ns, ex, hq, hl, q1⟩ := hq
  subst ex
  have e0 : v = Value.ref l := r1
  subst e0
  obtain ⟨its, r, pl, hz⟩ := I1.list hq
  have sz : its.toArray.size = ns.length := by
    have e := r.length
    rw [List.length_map] at e
    rw [List.size_toArray, e]
  refine call_set_list (I1.ok.hd hc) pl.isList (by simpa using intsAre_vals r) (by rw [sz]; unfold scanBound; omega) fun h' tk hS hk => PyProof.Rows.args_nil ?_
  rw [sz] at hS
  have hle := PyProof.Rows.firstMet_length_le (fun i => ns.getD i 0) ns.length
  obtain ⟨o, es, ep, t, ho, hex, hd, _, _, _, hf, hn⟩ := hS
  have J : Inv X pins σ H1 { s1 with heap := h', toks := tk } := I1.kept fun b o e => hk b o (Heap.lt_size e) e
  refine call_len_set ho hex hd hf (by rw [hn] <;> omega) ⟨.int (((dist ns).length : Nat) : Int), H1, J.tok _, ⟨_, by rw [hn]; rfl⟩, q1⟩
/-! ### list(reversed(a list)): a rule of our own -/
section
variable {prog : Program} {w : World} {A : Around} {E : Value → Shared → Prop} {s : Shared}
open RT in
/-- the list at S, just made, takes what the iterator gives -/
theorem fill_rev {R : Result → Shared → Prop} {S it l : Addr} {c₀ : Nat} {items : Array Value} (hh : A.handled = none) (hit : s.heap.IsRevIter it l ((items.size : Int) - 1)) (hl : s.heap.IsList l items) (hne : l ≠ it) (hSi : S ≠ it) (hSl : S ≠ l) (hn : items.size ≤ sizeLine)
    (hS : s.heap.get? S = some { cls := .type "list", data := .seq #[] c₀ })
    (hR : ∀ (h' : Heap) (tk : Nat) (acc : Array Value) (c' : Nat), (∀ b o, b ≠ it → b ≠ S → s.heap.get? b = some o → h'.get? b = some o) → h'.get? S = some { cls := .type "list", data := .seq acc c' } →
      ItemsOf (fun i v => items[items.size - 1 - i]? = some v) acc items.size → R (.ok (.ret .none)) { s with heap := h', toks := tk }) :
    wpAny (model prog w) A.in1 (Builtin.List.listExtendWith (.ref S) (.ref it) .none)
      (fun fin s' => match fin with | .done f => R (.ok f) s' | .again c' => c'.quiet = true ∧ codeAny (model prog w) A c' R s') (fun e s' => R (.error e) s') s := by
  have W := (Walks.listRev (prog := prog) (w := w) (A := A.in1) hh it l hne items).toS
  have off : S ∉ [it, l] := fun h => by
    rcases List.mem_cons.mp h with e | e
    · exact hSi e
    · exact hSl (by simpa using e)
  have ty : s.TypeIs (.ref it) "list_reverseiterator" := Heap.IsRevIter.typeIs hit
  have apart : Builtin.List.listSameRef (.ref S) (.ref it) = false := by simp [Builtin.List.listSameRef, hSi]
  have e0 : ((items.size : Nat) : Int) - 1 - ((0 : Nat) : Int) = (items.size : Int) - 1 := by omega
  unfold Builtin.List.listExtendWith
  refine wpAny_bind (wpAny_typeOf ty ?_)
  rw [if_neg (by rw [apart]; decide)]
  refine wpAny_bind (wpAny_pyIter_revIter hit (wpAny_bind (wpAny_holding ?_)))
  unfold Builtin.List.listLengthHint
  refine wpAny_bind (wpAny_specialOf ty nolen_lri ?_)
  show wpAny _ A.in1 (specialOf (Value.ref it) (Str.ofString "__length_hint__") >>= _) _ _ _
  refine wpAny_bind (wpAny_specialOf ty hint_lri ?_)
  generalize hq : ("list_reverseiterator.__length_hint__" : String) = q0
  wp_delta
  rw [show splitId q0 = some ("list_reverseiterator", "__length_hint__") from by subst hq; decide +kernel]
  subst hq
  refine wpAny_bind (wpAny_isInstance (b := true) ty (by rw [isSubtype_type]; kernel_rfl) (wpAny_pure ?_))
  rw [if_neg (by decide)]
  refine wpAny_pure ⟨plainId_quiet F.plain_extend_loop _, codeAny_extend_loopS W hn _ off _ items.size 0 _ _ _ rfl (Nat.zero_le _) ⟨Nat.zero_le _, by rw [e0]; exact hit, hl⟩ hS (ItemsOf.nil _) fun s' acc' c' hm hS' hacc => ?_⟩
  rw [Moved.eq_with hm]
  refine hR s'.heap s'.toks acc' c' (fun b o nb nS e => hm.heap b o (fun hmem => ?_) e) hS' hacc
  rcases List.mem_cons.mp hmem with z | z
  · exact nS z
  · exact nb (List.mem_singleton.mp z)
theorem call_listRev {it l : Addr} {items : Array Value} {Q : Value → Shared → Prop} (hh : A.handled = none) (hit : s.heap.IsRevIter it l ((items.size : Int) - 1)) (hl : s.heap.IsList l items) (hne : l ≠ it) (hn : items.size ≤ sizeLine)
    (hQ : ∀ (h' : Heap) (tk : Nat) (acc : Array Value) (c' : Nat), (∀ b o, b ≠ it → s.heap.get? b = some o → h'.get? b = some o) → h'.get? s.heap.objs.size = some { cls := .type "list", data := .seq acc c' } →
      ItemsOf (fun i v => items[items.size - 1 - i]? = some v) acc items.size → Q (.ref s.heap.objs.size) { s with heap := h', toks := tk }) : wpAny (model prog w) A (call (.type "list") [.ref it]) Q E s := by
  have lti : it < s.heap.objs.size := let ⟨_, g, _⟩ := hit; Heap.lt_size g
  have ltl : l < s.heap.objs.size := let ⟨_, g, _⟩ := hl; Heap.lt_size g
  have hit1 : (s.heap.push { cls := .type "list", data := .seq #[] }).IsRevIter it l ((items.size : Int) - 1) := hit.at fun o e => Heap.get?_push_of_some _ e
  have hl1 : (s.heap.push { cls := .type "list", data := .seq #[] }).IsList l items := hl.push _
  refine callType_codes (Q₁ := fun obj s₁ => obj = .ref s.heap.objs.size ∧ s₁ = { s with heap := s.heap.push { cls := .type "list", data := .seq #[] } }) F.called_list (F.typeCall_list_1 _) F.entry_list_init (code_list_new _ ⟨rfl, rfl⟩) fun obj s₁ h₁ => ?_
  obtain ⟨rfl, rfl⟩ := h₁
  have hS : (s.heap.push { cls := .type "list", data := .seq #[] }).get? s.heap.objs.size = some { cls := .type "list", data := .seq #[] } := Heap.get?_push_size _ rfl
  refine ⟨⟨_, hS, rfl⟩, F.args_list_init_2 _ _, ?_⟩
  show wpAny _ _ (do let old ← Builtin.List.listItems (.ref s.heap.objs.size); Builtin.List.listUpdate (.ref s.heap.objs.size) (fun _ => #[]); letGo old.toList.reverse; Builtin.List.listExtendWith (.ref s.heap.objs.size) (.ref it) .none) _ _ _
  refine wpAny_bind ?_
  unfold Builtin.List.listItems
  refine wpAny_bind (wpAny_seqItems hS rfl (wpAny_pure ?_))
  show wpAny _ _ (updateSeq s.heap.objs.size (fun _ => #[]) >>= fun _ => letGo (#[] : Array Value).toList.reverse >>= fun _ => Builtin.List.listExtendWith (.ref s.heap.objs.size) (.ref it) .none) _ _ _
  refine wpAny_bind (wpAny_updateSeq hS rfl (wpAny_bind (wpAny_letGo ?_)))
  have hS2 := Heap.get?_update_self (Obj.mapSeq (fun _ => (#[] : Array Value))) hS rfl
  have oth : ∀ b o, b ≠ s.heap.objs.size → (s.heap.push { cls := .type "list", data := .seq #[] }).get? b = some o → ((s.heap.push { cls := .type "list", data := .seq #[] }).update s.heap.objs.size (Obj.mapSeq (fun _ => (#[] : Array Value)))).get? b = some o :=
    fun b o hb e => (Heap.get?_update_other _ _ (Ne.symm hb)).trans e
  refine fill_rev hh (hit1.at fun o e => oth _ _ (Nat.ne_of_lt lti) e) ?_ hne (Nat.ne_of_gt lti) (Nat.ne_of_gt ltl) hn hS2 fun h' tk acc c' hk hS' hacc => ⟨rfl, hQ h' tk acc c' (fun b o nb e => hk b o nb (Nat.ne_of_lt (Heap.lt_size e)) (oth b o (Nat.ne_of_lt (Heap.lt_size e)) (Heap.get?_push_of_some _ e))) hS' hacc⟩
  obtain ⟨o, g, r⟩ := hl1
  exact ⟨o, oth _ _ (Nat.ne_of_lt ltl) g, r⟩
end
open RT in
/-- list(reversed(e)), e a list: a new list -/
def tLstRev (K : PySem.W.Frag) (te : TE) : TE := fun σ H Q => te σ H fun v H1 => ∃ (a : Addr) (xs : List V), v = .ref a ∧ SqL K H1 a xs ∧ ∀ q, H1 q = none → Q (.ref q) (upd H1 q (.lst xs.reverse))
open RT in
theorem pe_lstRev {X : Cx} {e : Expr} {te : TE} {p p2 pos pos2 : Pos} (hc : X.calm = true) (hg : Gl X "list") (hm : X.mg "list" = none) (hg2 : Gl X "reversed") (hm2 : X.mg "reversed" = none) (he : PE X e te)
    (hs : starEach [e] X.env = (false, eval e X.env) :: starEach [] X.env := by rfl) (hs2 : starEach [.Call (.Name "reversed" p2) [e] [] pos2] X.env = (false, eval (.Call (.Name "reversed" p2) [e] [] pos2) X.env) :: starEach [] X.env := by rfl) :
    PE X (.Call (.Name "list" p) [.Call (.Name "reversed" p2) [e] [] pos2] [] pos) (tLstRev X.K te) := by
  refine ⟨fun pins s σ H Q I h => Call_ (ld_blt I hg hm boot_list (PyProof.Rows.callWith_type1 (args_cons (Call_ (ld_blt I hg2 hm2 PyProof.Rows.boot_reversed (PyProof.Rows.callWith_type1 (args_cons (thn (he.run pins s σ H _ I h) fun u s1 hq => args_nil ?_) hs) hs rfl))) hs2) hs2 rfl))⟩
  obtain ⟨v, H1, I1, r1, a, xs, ev, hq, q⟩ := hq
  subst ev
  have e0 : u = Value.ref a := r1
  subst e0
  obtain ⟨its, rv, p', hz⟩ := I1.list hq
  have hl := p'.isList
  obtain ⟨ol, hol, _⟩ := id hl
  have hne : a ≠ s1.heap.objs.size := Nat.ne_of_lt (Heap.lt_size hol)
  have hn : its.toArray.size ≤ sizeLine := by rw [List.size_toArray, ← rv.length]; exact hz
  have kp : ∀ b o, s1.heap.get? b = some o → (s1.heap.push (revObj a ((its.toArray.size : Int) - 1))).get? b = some o := fun b o e => Heap.get?_push_of_some _ e
  refine call_reversed_list hl (args_nil ?_)
  obtain ⟨f0, f1, f2, f3, f4, f5⟩ := I1.fpOk (H' := H1) (b := s1.heap.objs.size) (Nat.le_refl _) (I1.hok.fresh (Nat.le_refl _))
  have I2 : Inv X pins σ H1 { s1 with heap := s1.heap.push (revObj a ((its.toArray.size : Int) - 1)) } := I1.kept (t' := s1.toks) kp
  have sz : (s1.heap.push (revObj a ((its.toArray.size : Int) - 1))).objs.size = s1.heap.objs.size + 1 := Heap.size_push ..
  refine call_listRev (s := { s1 with heap := s1.heap.push (revObj a ((its.toArray.size : Int) - 1)) }) (I1.ok.hd hc) ⟨_, Heap.get?_push_size _ rfl, rfl, rfl⟩ (hl.push _) hne hn fun h' tk acc c' hk hS hi => ?_
  have nw : H1 (s1.heap.push (revObj a ((its.toArray.size : Int) - 1))).objs.size = none := I2.hok.fresh (Nat.le_refl _)
  have hS' : h'.get? (s1.heap.push (revObj a ((its.toArray.size : Int) - 1))).objs.size = some { cls := .type "list", data := .seq acc c' } := hS
  have le : s1.heap.objs.size ≤ (s1.heap.push (revObj a ((its.toArray.size : Int) - 1))).objs.size := by
    rw [sz]
    exact Nat.le_succ _
  have new : ObjOk X.prog X.w (upd H1 (s1.heap.push (revObj a ((its.toArray.size : Int) - 1))).objs.size (.lst xs.reverse)) h' (s1.heap.push (revObj a ((its.toArray.size : Int) - 1))).objs.size (.lst xs.reverse) :=
    ⟨by rw [List.length_reverse]; exact hz, acc.toList, c', vals_rev rv hi, by rw [Array.toArray_toList]; exact hS'⟩
  have J := I1.turnedNew (t' := tk) (ch := [s1.heap.objs.size]) (fun b o hb e => hk b o (fun z => hb (by simp [z])) (kp b o e)) (fun b hb => by
    have z : b = s1.heap.objs.size := by simpa using hb
    rw [z]
    exact ⟨f0, f1, f2, f3, f4, f5⟩) le new
  exact ⟨.ref _, _, J, rfl, q _ nw⟩
/-! ### groups of places: the mathematics -/
def goodG (many : Nat) (g : List Int) : Prop := g.Pairwise (· < ·) ∧ ∀ x ∈ g, 0 ≤ x ∧ x < (many : Int)
theorem rise_lenG : ∀ {g : List Int} {lo hi : Int}, g.Pairwise (· < ·) → (∀ x ∈ g, lo ≤ x ∧ x < hi) → (g.length : Int) ≤ max 0 (hi - lo)
  | [], lo, hi, _, _ => by
    show ((0 : Nat) : Int) ≤ max 0 (hi - lo)
    omega
  | x :: g, lo, hi, hp, hb => by
    obtain ⟨h1, h2⟩ := List.pairwise_cons.mp hp
    obtain ⟨b1, b2⟩ := hb x List.mem_cons_self
    have ih := rise_lenG (lo := x + 1) (hi := hi) h2 fun y hy => ⟨by have := h1 y hy; omega, (hb y (List.mem_cons_of_mem _ hy)).2⟩
    rw [List.length_cons]
    omega
theorem goodG.len {many : Nat} {g : List Int} (h : goodG many g) : g.length ≤ many := by
  have := rise_lenG h.1 h.2
  omega
def ids (many : Nat) : List Int := (List.range many).map fun (i : Nat) => (i : Int)
theorem ids_pair (many : Nat) : (ids many).Pairwise (· < ·) := by
  unfold ids
  rw [List.pairwise_map]
  refine List.Pairwise.imp ?_ List.pairwise_lt_range
  intro a b h
  omega
theorem mem_ids {many : Nat} {k : Int} : k ∈ ids many ↔ 0 ≤ k ∧ k < (many : Int) := by
  unfold ids
  rw [List.mem_map]
  constructor
  · rintro ⟨i, hi, rfl⟩
    have := List.mem_range.mp hi
    omega
  · rintro ⟨h0, h1⟩
    exact ⟨k.toNat, List.mem_range.mpr (by omega), by omega⟩
theorem ids_good (many : Nat) : goodG many (ids many) := ⟨ids_pair many, fun _ h => mem_ids.mp h⟩
def ledG (many : Nat) (row g : List Int) : List Int := (ids many).filter fun k => decide (k ∈ g.map (goK row))
theorem ledG_good (many : Nat) (row g : List Int) : goodG many (ledG many row g) := by
  refine ⟨List.Pairwise.filter _ (ids_pair many), fun x hx => ?_⟩
  exact mem_ids.mp (List.mem_filter.mp hx).1
theorem goK_in' {many : Nat} {f : List Int} {p : Int} (h : GoodRow many f) (h0 : 0 ≤ p) (h1 : p < (many : Int)) : 0 ≤ goK f p ∧ goK f p < (many : Int) := by
  have hl : p.toNat < f.length := by rw [h.1]; omega
  unfold goK
  rw [List.getD_eq_getElem?_getD, List.getElem?_eq_getElem hl]
  exact h.2 _ (List.getElem_mem hl)
theorem mem_ledG {many : Nat} {row g : List Int} {k : Int} (hr : GoodRow many row) (hg : ∀ x ∈ g, 0 ≤ x ∧ x < (many : Int)) : k ∈ ledG many row g ↔ ∃ x ∈ g, goK row x = k := by
  unfold ledG
  rw [List.mem_filter, mem_ids]
  constructor
  · rintro ⟨_, h⟩
    exact List.mem_map.mp (of_decide_eq_true h)
  · rintro ⟨x, hx, rfl⟩
    exact ⟨goK_in' hr (hg x hx).1 (hg x hx).2, decide_eq_true (List.mem_map.mpr ⟨x, hx, rfl⟩)⟩
theorem at_goK {row : List Int} {p : Int} (h0 : 0 ≤ p) (h : p.toNat < row.length) : (row.map V.int)[p.toNat]? = some (.int (goK row p)) := by
  rw [List.getElem?_map, List.getElem?_eq_getElem h]
  unfold goK
  rw [List.getD_eq_getElem?_getD, List.getElem?_eq_getElem h]
  rfl
/-! ### walks back: the mathematics -/
def rowsOf (ms : List Mv) (ns : List Int) : List (List Int) := ns.map fun n => (ms.getD n.toNat (0, [])).2
def endsK (many : Nat) (rows : List (List Int)) : Nat → List Int
  | 0 => (List.range many).map fun (i : Nat) => (i : Int)
  | k + 1 => (rows.getD k []).map (goK (endsK many rows k))
theorem endsK_good {many : Nat} {rows : List (List Int)} (h : ∀ r ∈ rows, GoodRow many r) : ∀ k, k ≤ rows.length → GoodRow many (endsK many rows k)
  | 0, _ => by
    refine ⟨by unfold endsK; rw [List.length_map, List.length_range], fun x hx => ?_⟩
    unfold endsK at hx
    obtain ⟨i, hi, rfl⟩ := List.mem_map.mp hx
    have := List.mem_range.mp hi
    omega
  | k + 1, hk => by
    have ih := endsK_good h k (by omega)
    have g : rows.getD k [] = rows[k] := by rw [List.getD_eq_getElem?_getD, List.getElem?_eq_getElem (by omega)]; rfl
    obtain ⟨h1, h2⟩ := h rows[k] (List.getElem_mem (by omega))
    unfold endsK
    rw [g]
    refine ⟨by rw [List.length_map, h1], fun x hx => ?_⟩
    obtain ⟨p, hp, rfl⟩ := List.mem_map.mp hx
    obtain ⟨a, b⟩ := h2 p hp
    have hl : p.toNat < (endsK many rows k).length := by rw [ih.1]; omega
    unfold goK
    rw [List.getD_eq_getElem?_getD, List.getElem?_eq_getElem hl]
    exact ih.2 _ (List.getElem_mem hl)
/-- the first count of steps by which all are one -/
def FirstOne (many : Nat) (rows : List (List Int)) (k : Nat) : Prop := k ≤ rows.length ∧ one (endsK many rows k) = true ∧ ∀ j, j < k → one (endsK many rows j) = false
def NoOne (many : Nat) (rows : List (List Int)) : Prop := ∀ j, j ≤ rows.length → one (endsK many rows j) = false
def DrawnAt (H : Hp) (v : V) (many : Nat) (rows : List (List Int)) : Prop :=
  (∃ (k : Nat) (t : Addr), FirstOne many rows k ∧ v = .ref t ∧ H t = some (.tup [.int (goK (endsK many rows k) 0), .int (k : Int)])) ∨ (NoOne many rows ∧ v = .non)
def NumsOk (ms : List Mv) (ns : List Int) : Prop := ns.length ≤ 1000 ∧ ∀ n ∈ ns, 0 ≤ n ∧ n < (ms.length : Int)
theorem rowsOf_good {many : Nat} {ms : List Mv} {ns : List Int} (G : Good many ms) (h : NumsOk ms ns) : ∀ r ∈ rowsOf ms ns, GoodRow many r := by
  intro r hr
  obtain ⟨n, hn, rfl⟩ := List.mem_map.mp hr
  obtain ⟨a, b⟩ := h.2 n hn
  have hl : n.toNat < ms.length := by omega
  rw [List.getD_eq_getElem?_getD, List.getElem?_eq_getElem hl]
  exact (G.mv _ (List.getElem_mem hl)).2.2
/-- rows that stand as tuples -/
def StepsAt (H : Hp) (S : Addr) (rows : List (List Int)) : Prop := ∃ qs : List Addr, H S = some (.lst (qs.map V.ref)) ∧ Paired (fun q row => H q = some (.tup (row.map V.int))) qs rows
theorem StepsAt.same {H H' : Hp} {S : Addr} {rows : List (List Int)} (s : Same H H') (h : StepsAt H S rows) : StepsAt H' S rows := by
  obtain ⟨qs, e, p⟩ := h
  exact ⟨qs, s _ _ e, L2.Paired.mapP p fun _ _ q => s _ _ q⟩
/-! ### rising lists, and whether all are one: the mathematics -/
def Rise (xs ns : List Int) : Prop := xs.Pairwise (· < ·) ∧ ∀ k, k ∈ xs ↔ k ∈ ns
theorem Rise.same {xs ys ns : List Int} (a : Rise xs ns) (b : Rise ys ns) : xs = ys := rise_same a.1 b.1 fun k => (a.2 k).trans (b.2 k).symm
theorem all_at (ns : List Int) : (List.range ns.length).map (fun i => ns.getD i 0) = ns := by
  apply List.ext_getElem?
  intro i
  rw [List.getElem?_map]
  by_cases h : i < ns.length
  · rw [List.getElem?_range h, List.getElem?_eq_getElem h]
    show some (ns.getD i 0) = _
    rw [List.getD_eq_getElem?_getD, List.getElem?_eq_getElem h]
    rfl
  · rw [List.getElem?_eq_none_iff.mpr (by rw [List.length_range]; omega), List.getElem?_eq_none_iff.mpr (by omega)]
    rfl
theorem mem_dist {ns : List Int} {k : Int} : k ∈ dist ns ↔ k ∈ ns := by
  have e := PyProof.Rows.firstMet_any (fun i => ns.getD i 0) ns.length k
  rw [all_at] at e
  have a : ∀ (l : List Int), (l.any (· == k) = true ↔ k ∈ l) := fun l => by simp
  rw [← a, ← a]
  exact iff_of_eq (congrArg (· = true) e)
theorem nodup_met (val : Nat → Int) : ∀ i, (PyProof.Rows.firstMet val i).Nodup
  | 0 => List.nodup_nil
  | i + 1 => by
    rw [PyProof.Rows.firstMet_succ]
    unfold PyProof.Rows.step_dedup
    have ih := nodup_met val i
    split
    · exact ih
    · rename_i h
      refine List.nodup_append.mpr ⟨ih, by simp, fun a ha b hb => ?_⟩
      rw [List.mem_singleton.mp hb]
      intro e
      subst e
      exact h (by simp [ha])
theorem one_iff {ns : List Int} : one ns = true ↔ ∃ v, v ∈ ns ∧ ∀ x ∈ ns, x = v := by
  unfold one
  rw [decide_eq_true_iff]
  constructor
  · intro h
    have h1 : (dist ns).length = 1 := by
      have e : (((dist ns).length : Nat) : Int) = 1 := V.int.inj h
      omega
    obtain ⟨v, ev⟩ := List.length_eq_one_iff.mp h1
    refine ⟨v, mem_dist.mp (by rw [ev]; exact List.mem_singleton_self v), fun x hx => ?_⟩
    have := mem_dist.mpr hx
    rw [ev] at this
    exact List.mem_singleton.mp this
  · rintro ⟨v, hv, all⟩
    have nd : (dist ns).Nodup := nodup_met _ _
    have m1 := mem_dist.mpr hv
    have m2 : ∀ x ∈ dist ns, x = v := fun x hx => all x (mem_dist.mp hx)
    match hd : dist ns with
    | [] => rw [hd] at m1; simp at m1
    | [a] => rfl
    | a :: b :: t =>
      rw [hd] at nd m2
      have ea := m2 a List.mem_cons_self
      have eb := m2 b (List.mem_cons_of_mem _ List.mem_cons_self)
      have := (List.nodup_cons.mp nd).1
      rw [ea, eb] at this
      exact absurd List.mem_cons_self this
theorem rise_one {xs ns : List Int} (r : Rise xs ns) (h : one ns = true) : ∃ v, xs = [v] ∧ v ∈ ns ∧ ∀ x ∈ ns, x = v := by
  obtain ⟨v, hv, all⟩ := one_iff.mp h
  refine ⟨v, rise_same r.1 (List.pairwise_singleton _ _) fun k => ⟨fun hk => ?_, fun hk => ?_⟩, hv, all⟩
  · exact List.mem_singleton.mpr (all k ((r.2 k).mp hk))
  · rw [List.mem_singleton.mp hk]
    exact (r.2 v).mpr hv
theorem rise_len {xs ns : List Int} (r : Rise xs ns) (ne : ns ≠ []) (h : ¬ 1 < xs.length) : one ns = true := by
  obtain ⟨v, hv⟩ := List.exists_mem_of_ne_nil _ ne
  have m := (r.2 v).mpr hv
  have h1 : xs.length = 1 := by
    have := List.length_pos_of_mem m
    omega
  obtain ⟨u, e⟩ := List.length_eq_one_iff.mp h1
  refine one_iff.mpr ⟨u, (r.2 u).mp (by rw [e]; exact List.mem_singleton_self u), fun x hx => ?_⟩
  have := (r.2 x).mpr hx
  rw [e] at this
  exact List.mem_singleton.mp this
/-- all are one by value v -/
theorem one_goK {many : Nat} {E : List Int} (g : GoodRow many E) (m1 : 1 ≤ many) (h : one E = true) : ∀ x ∈ E, x = goK E 0 := by
  obtain ⟨v, hv, all⟩ := one_iff.mp h
  have h0 : 0 < E.length := by rw [g.1]; omega
  have e : goK E 0 = E[0] := by
    unfold goK
    rw [List.getD_eq_getElem?_getD, show (0 : Int).toNat = 0 from rfl, List.getElem?_eq_getElem h0]
    rfl
  intro x hx
  rw [e, all x hx, all E[0] (List.getElem_mem h0)]
/-- walks that begin still farther back end at the same place -/
theorem one_on {many : Nat} {rows : List (List Int)} (h : ∀ r ∈ rows, GoodRow many r) (m1 : 1 ≤ many) {j : Nat} (ho : one (endsK many rows j) = true) (hj : j ≤ rows.length) : ∀ k, j ≤ k → k ≤ rows.length → one (endsK many rows k) = true ∧ goK (endsK many rows k) 0 = goK (endsK many rows j) 0
  | 0, h1, _ => by
    have : j = 0 := by omega
    subst this
    exact ⟨ho, rfl⟩
  | k + 1, h1, h2 => by
    by_cases e : j = k + 1
    · subst e
      exact ⟨ho, rfl⟩
    · obtain ⟨ih, ev⟩ := one_on h m1 ho hj k (by omega) (by omega)
      have gk := endsK_good h k (by omega)
      have gk1 := endsK_good h (k + 1) h2
      have all := one_goK gk m1 ih
      have g : rows.getD k [] = rows[k] := by
        rw [List.getD_eq_getElem?_getD, List.getElem?_eq_getElem (by omega)]
        rfl
      obtain ⟨r1, r2⟩ := h rows[k] (List.getElem_mem (by omega))
      have mem : ∀ x ∈ endsK many rows (k + 1), x = goK (endsK many rows k) 0 := by
        intro x hx
        unfold endsK at hx
        rw [g] at hx
        obtain ⟨p, hp, rfl⟩ := List.mem_map.mp hx
        obtain ⟨a, b⟩ := r2 p hp
        have hl : p.toNat < (endsK many rows k).length := by rw [gk.1]; omega
        refine all _ ?_
        unfold goK
        rw [List.getD_eq_getElem?_getD, List.getElem?_eq_getElem hl]
        exact List.getElem_mem hl
      have h0 : 0 < (endsK many rows (k + 1)).length := by rw [gk1.1]; omega
      have o1 : one (endsK many rows (k + 1)) = true := one_iff.mpr ⟨_, by
        have := mem _ (List.getElem_mem h0)
        rw [← this]
        exact List.getElem_mem h0, mem⟩
      refine ⟨o1, ?_⟩
      rw [← ev, ← mem (goK (endsK many rows (k + 1)) 0) ?_]
      unfold goK
      rw [List.getD_eq_getElem?_getD, show (0 : Int).toNat = 0 from rfl, List.getElem?_eq_getElem h0]
      exact List.getElem_mem h0
/-- rows behind don't matter -/
theorem ends_more {many : Nat} {rows rows' : List (List Int)} : ∀ k, k ≤ rows.length → endsK many (rows ++ rows') k = endsK many rows k
  | 0, _ => rfl
  | k + 1, hk => by
    show ((rows ++ rows').getD k []).map (goK (endsK many (rows ++ rows') k)) = (rows.getD k []).map (goK (endsK many rows k))
    rw [ends_more k (by omega), List.getD_eq_getElem?_getD, List.getElem?_append_left (by omega), ← List.getD_eq_getElem?_getD]
/-- what tries tells -/
def Tried (E : Nat → List Int) (len : Nat) (tr : List (Nat × List Int)) : Prop :=
  (∀ i x, tr[i]? = some x → x.1 = 2 ^ i ∧ 2 ^ i ≤ len ∧ Rise x.2 (E (2 ^ i))) ∧ (∀ i, i + 1 < tr.length → one (E (2 ^ i)) = false) ∧ (len < 2 ^ tr.length ∨ ∃ i, tr.length = i + 1 ∧ one (E (2 ^ i)) = true)
theorem tried_le {E : Nat → List Int} {len : Nat} {a b : List (Nat × List Int)} (ha : Tried E len a) (hb : Tried E len b) : ¬ a.length < b.length := by
  intro h
  obtain ⟨a1, a2, a3⟩ := ha
  obtain ⟨b1, b2, b3⟩ := hb
  rcases a3 with c | ⟨i, ei, o⟩
  · have := (b1 a.length _ (List.getElem?_eq_getElem h)).2.1
    omega
  · have := b2 i (by omega)
    rw [o] at this
    cases this
theorem tried_same {E : Nat → List Int} {len : Nat} {a b : List (Nat × List Int)} (ha : Tried E len a) (hb : Tried E len b) : a = b := by
  have h1 := tried_le ha hb
  have h2 := tried_le hb ha
  have hl : a.length = b.length := by omega
  apply List.ext_getElem hl
  intro i hi hi'
  have x := ha.1 i _ (List.getElem?_eq_getElem hi)
  have y := hb.1 i _ (List.getElem?_eq_getElem hi')
  exact Prod.ext (x.1.trans y.1.symm) (x.2.2.same y.2.2)
section
variable {P : Program} {w : World} {K : PySem.W.Frag} {mg : Str → Option Value} {base : Heap} {C : Addr}
def nSt : List Str := ["chain", "numbers", "whithers", "number", "_", "whither"]
theorem scSt : FnScope ["chain", "numbers", "whithers", "number", "_", "whither"] ["chain", "numbers"] (defScope sStepsOf) := ⟨rfl, rfl, rfl, by decide +kernel, rfl, by decide +kernel, by decide +kernel⟩
def spSteps (C : Addr) : Sp := fun vs H Q _ => ∃ (x l : Addr) (many : Nat) (ms : List Mv) (ns : List Int), vs = [.ref x, .ref l] ∧ ChainAt C H x many ms ∧ H l = some (.lst (ns.map V.int)) ∧ NumsOk ms ns ∧ ms.length ≤ 8 ∧
  ∀ S H', Same H H' → H S = none → StepsAt H' S (rowsOf ms ns) → Q (.ref S) H'
theorem ok_steps {f fP fT : Addr} {fd fdP fdT : FuncData} (F : Fun K "steps_of" "steps_of" sStepsOf f fd) (T : ChM K C fP fT fdP fdT) (mr : mg "range" = none) (ml : mg "len" = none) (mL : mg "list" = none) : FnOk P w K mg base CX0 2 f fd ["chain", "numbers"] (spSteps C) := by
  have GT : FnOk P w K mg base CX0 1 fT fdT ["self"] (spTold C) := ok_told T.FT T.cl T.nV mL
  refine F.ok scSt (fun vs H Q E h => ?_) (fun cdv A outer s H vs Q E hr h => ?_)
  · obtain ⟨x, l, many, ms, ns, rfl, _⟩ := h
    rfl
  · obtain ⟨x, l, many, ms, ns, rfl, hC, hl, hN, h8, q⟩ := h
    refine ⟨_, pss_cons (ps_set (i := 2) scSt.nd rfl (.inr rfl) (pe_lc (own := [("_", 4), ("whither", 5)]) (g := gTup K 2 (gCons (gName 4) (gCons (gName 5) gNil))) (tt := tYes) (te := tVar 5) rfl scSt.nd (pi_list (pe_meth0 (pv 0) T.cl T.hT GT hr T.bT .nil pass0)) (blkOk_by (N := nSt) (sc := defScope sStepsOf) (by decide +kernel))
          (fun _ _ _ _ _ => by exact (pg_tup rfl (pgs_cons (pg_name (i := 4) scSt.nd rfl (.inl rfl)) (pgs_cons (pg_name (i := 5) scSt.nd rfl (.inl rfl)) pgs_nil)))) (fun _ _ _ _ _ => pts_nil) (fun _ _ _ _ _ => pv 5)))
      (pss_cons (ps_for PassesOwn.never rfl (pi_list (pv 1)) (pg_name (i := 3) scSt.nd rfl (.inl rfl))
        (pss_one (ps_if (pt_cmpR op_notIn_rng (pv 3) (pe_callTy cr_range1 (by rfl) mr (by decide +kernel) (pa_cons (pe_callB call_len_seq (by rfl) ml PySem.boot_len (pa_cons (pv 2) pa_nil)) pa_nil)) rfl) pss_never pss_nil)))
      (pss_one (ps_ret (pe_lc (own := [("number", 3)]) (g := gName 3) (tt := tYes) (te := tOp (rIxL K) (tVar 2) (tVar 3)) rfl scSt.nd (pi_list (pv 1)) (blkOk_by (N := nSt) (sc := defScope sStepsOf) (by decide +kernel))
          (fun _ _ _ _ _ => pg_name (i := 3) scSt.nd rfl (.inl rfl)) (fun _ _ _ _ _ => pts_nil) (fun _ _ _ _ _ => by exact (pe_ix ix_list (pv 2) (pv 3) (fun _ _ => rfl))))))), ?_⟩
    obtain ⟨dx, a0, ws, h1, h2, h3⟩ := id hC
    refine ⟨.ref x, rfl, x, dx, _, rfl, h1, ch_noT, x, many, ms, rfl, hC, fun lt wl nlt hM => ?_⟩
    have s1 : Same H (upd H lt (.lst wl)) := same_new nlt
    have lenW := hM.length
    -- whithers
    refine ⟨lt, rfl, ⟨_, SqL.of upd_same⟩, fun W nW => ?_⟩
    have hlt : (upd H lt (.lst wl)) lt = some (.lst wl) := upd_same
    generalize upd H lt (.lst wl) = H1 at s1 hM hlt nW ⊢
    refine lc_list (K := K) (a := lt) (xs := wl) (fun i H' => Same H1 H' ∧ ∃ qs : List Addr, qs.length = i ∧ H' W = some (.lst (qs.map V.ref)) ∧ Paired (fun q (m : Mv) => H1 q = some (.tup (m.2.map V.int))) qs (ms.take i))
      ⟨same_new nW, [], rfl, upd_same, .nil⟩ (fun i H' _ h => SqL.of (h.1 _ _ hlt)) ?_ ?_
    · rintro i v H2 hv ⟨s2, qs, el, hW, hp⟩
      obtain ⟨m, em, ⟨ta, tb, rfl, hta, htb⟩⟩ := hM.get' hv
      have hi : i < ms.length := by
        obtain ⟨q1, _⟩ := List.getElem?_eq_some_iff.mp em
        exact q1
      refine ⟨ta, _, rfl, SqT.of (s2 _ _ hta), rfl, .int m.1, [.ref tb], rfl, .ref tb, [], rfl, rfl, rfl, .ref tb, rfl, _, hW, by rw [List.length_map, el]; exact small8 (by omega), ?_⟩
      refine ⟨fun b u e => by rw [upd_ne (ne_of_none e nW)]; exact s2 _ _ e, qs ++ [tb], by rw [List.length_append, el]; rfl, by rw [upd_same, List.map_append]; rfl, ?_⟩
      rw [take_snoc em]
      exact paired_end (F := fun q (m : Mv) => H1 q = some (.tup (m.2.map V.int))) htb hp
    rintro H2 ⟨s2, qs, el, hW, hp⟩
    rw [lenW, List.take_length] at hp
    have s12 := s1.trans s2
    have hl2 := s12 _ _ hl
    have lenQ : qs.length = ms.length := hp.length
    -- the numbers are moves
    refine ⟨.ref l, rfl, l, rfl, ⟨_, SqL.of hl2⟩, for_list (K := K) (a := l) (xs := ns.map V.int) (fun i σ H' => ∃ y3, σ = [some (.ref x), some (.ref l), some (.ref W), y3, none, none] ∧ Same H2 H') ⟨none, rfl, Same.refl _⟩ (fun i σ H' _ ⟨_, _, s3⟩ => SqL.of (s3 _ _ hl2)) ?_ ?_⟩
    · rintro i v σ H3 hv ⟨y3, rfl, s3⟩
      rw [List.getElem?_map] at hv
      obtain ⟨n, hn, rfl⟩ := Option.map_eq_some_iff.mp hv
      obtain ⟨n0, n1⟩ := hN.2 n (List.mem_of_getElem? hn)
      have hW3 := s3 _ _ hW
      refine ⟨.int n, rfl, .ref W, rfl, W, _, rfl, .inl (SqL.of hW3), _, rfl, fun r nr => ⟨n, r, 0, _, rfl, rfl, upd_same, _, rfl, iteNS (by rw [List.length_map, lenQ]; omega) ?_⟩⟩
      exact ⟨some (.int n), rfl, s3.trans (same_new nr)⟩
    · rintro σ H3 ⟨y3, rfl, s3⟩
      have hl3 := s3 _ _ hl2
      have hW3 := s3 _ _ hW
      refine ⟨.ref l, rfl, l, rfl, ⟨_, SqL.of hl3⟩, fun S nS => ?_⟩
      refine lc_list (K := K) (a := l) (xs := ns.map V.int) (fun i H' => Same H3 H' ∧ ∃ ps : List Addr, ps.length = i ∧ H' S = some (.lst (ps.map V.ref)) ∧ Paired (fun q row => H1 q = some (.tup (row.map V.int))) ps ((rowsOf ms ns).take i))
        ⟨same_new nS, [], rfl, upd_same, .nil⟩ (fun i H' _ h => SqL.of (h.1 _ _ hl3)) ?_ ?_
      · rintro i v H4 hv ⟨s4, ps, ep, hS, hp4⟩
        rw [List.getElem?_map] at hv
        obtain ⟨n, hn, rfl⟩ := Option.map_eq_some_iff.mp hv
        obtain ⟨n0, n1⟩ := hN.2 n (List.mem_of_getElem? hn)
        have hi : i < ns.length := by
          obtain ⟨q1, _⟩ := List.getElem?_eq_some_iff.mp hn
          exact q1
        have hnm : n.toNat < ms.length := by omega
        obtain ⟨qa, eqa, hqa⟩ := paired_get hp (List.getElem?_eq_getElem hnm)
        have gW : (qs.map V.ref)[n.toNat]? = some (.ref qa) := by rw [List.getElem?_map, eqa]; rfl
        have en : n = ((n.toNat : Nat) : Int) := by omega
        refine ⟨rfl, .ref W, rfl, .int n, rfl, W, _, n, _, rfl, rfl, SqL.of (s4 _ _ hW3), at_of en gW, _, hS, by rw [List.length_map, ep]; exact small1k (by have := hN.1; omega), ?_⟩
        refine ⟨fun b u e => by rw [upd_ne (ne_of_none e nS)]; exact s4 _ _ e, ps ++ [qa], by rw [List.length_append, ep]; rfl, by rw [upd_same, List.map_append]; rfl, ?_⟩
        have er : (rowsOf ms ns)[i]? = some ms[n.toNat].2 := by
          unfold rowsOf
          rw [List.getElem?_map, hn]
          show some (ms.getD n.toNat (0, [])).2 = _
          rw [List.getD_eq_getElem?_getD, List.getElem?_eq_getElem hnm]
          rfl
        rw [take_snoc er]
        exact paired_end (F := fun q (row : List Int) => H1 q = some (.tup (row.map V.int))) hqa hp4
      · rintro H4 ⟨s4, ps, ep, hS, hp4⟩
        rw [List.length_map, List.take_of_length_le (by unfold rowsOf; rw [List.length_map]; exact Nat.le_refl _)] at hp4
        have s14 := (s2.trans s3).trans s4
        exact q S H4 (s1.trans s14) ((s12.trans s3).free nS) ⟨ps, hS, L2.Paired.mapP hp4 fun _ _ e => s14 _ _ e⟩
/-! ### drawn -/
theorem scOne : FnScope ["ends"] ["ends"] (defScope sAreOne) := ⟨rfl, rfl, rfl, by decide +kernel, rfl, by decide +kernel, by decide +kernel⟩
def spOne (K : PySem.W.Frag) : Sp := fun vs H Q _ => ∃ (l : Addr) (ns : List Int), vs = [.ref l] ∧ H l = some (.lst (ns.map V.int)) ∧ ns.length < 64 ∧ Q (.bl (one ns)) H
theorem ok_one {f : Addr} {fd : FuncData} {k : Nat} (F : Fun K "_are_one" "_are_one" sAreOne f fd) (ml : mg "len" = none) (mS : mg "set" = none) : FnOk P w K mg base CX0 (k + 1) f fd ["ends"] (spOne K) := by
  refine F.ok scOne (fun vs H Q E h => ?_) (fun cdv A outer s H vs Q E hr h => ?_)
  · obtain ⟨l, ns, rfl, _⟩ := h
    rfl
  · obtain ⟨l, ns, rfl, hl, h64, q⟩ := h
    exact ⟨_, pss_one (ps_ret (pe_cmpR op_eq (pe_lenSetN (by rfl) ml (by rfl) mS (pv 0)) pe_int (nomark _))), .ref l, rfl, l, ns, rfl, SqL.of hl, h64, rfl, q⟩
end
/-! ### drawn_from, drawn -/
/-- where the walks from these places end -/
def seenK (many : Nat) (rows : List (List Int)) (bs : List Int) (k : Nat) : List Int := bs.map (goK (endsK many rows k))
def FirstB (many : Nat) (rows : List (List Int)) (bs : List Int) (k : Nat) : Prop := k ≤ rows.length ∧ one (seenK many rows bs k) = true ∧ ∀ j, j < k → one (seenK many rows bs j) = false
def NoneB (many : Nat) (rows : List (List Int)) (bs : List Int) : Prop := ∀ j, j ≤ rows.length → one (seenK many rows bs j) = false
def DrawnB (H : Hp) (v : V) (many : Nat) (rows : List (List Int)) (bs : List Int) : Prop :=
  (∃ (k : Nat) (t : Addr), FirstB many rows bs k ∧ v = .ref t ∧ H t = some (.tup [.int (goK (seenK many rows bs k) 0), .int (k : Int)])) ∨ (NoneB many rows bs ∧ v = .non)
theorem goK_zero {many : Nat} {p : Int} (h0 : 0 ≤ p) (h1 : p < (many : Int)) : goK ((List.range many).map fun (i : Nat) => (i : Int)) p = p := by
  unfold goK
  rw [List.getD_eq_getElem?_getD, List.getElem?_map, List.getElem?_range (by omega)]
  show ((p.toNat : Nat) : Int) = p
  omega
theorem seenK_zero {many : Nat} {rows : List (List Int)} {bs : List Int} (h : ∀ b ∈ bs, 0 ≤ b ∧ b < (many : Int)) : seenK many rows bs 0 = bs := by
  have e : seenK many rows bs 0 = bs.map id := List.map_congr_left fun b hb => goK_zero (h b hb).1 (h b hb).2
  rw [e, List.map_id]
theorem seenK_all {many : Nat} {rows : List (List Int)} (h : ∀ r ∈ rows, GoodRow many r) {k : Nat} (hk : k ≤ rows.length) : seenK many rows ((List.range many).map fun (i : Nat) => (i : Int)) k = endsK many rows k := by
  have gE := endsK_good h k hk
  unfold seenK
  rw [List.map_map]
  apply List.ext_getElem?
  intro i
  rw [List.getElem?_map]
  by_cases hi : i < many
  · rw [List.getElem?_range hi, List.getElem?_eq_getElem (by rw [gE.1]; exact hi)]
    show some (goK (endsK many rows k) (i : Int)) = _
    unfold goK
    rw [Int.toNat_natCast, List.getD_eq_getElem?_getD, List.getElem?_eq_getElem (by rw [gE.1]; exact hi)]
    rfl
  · rw [List.getElem?_eq_none_iff.mpr (by rw [List.length_range]; omega), List.getElem?_eq_none_iff.mpr (by rw [gE.1]; omega)]
    rfl
theorem DrawnB.all {H : Hp} {v : V} {many : Nat} {rows : List (List Int)} (h : ∀ r ∈ rows, GoodRow many r) (d : DrawnB H v many rows ((List.range many).map fun (i : Nat) => (i : Int))) : DrawnAt H v many rows := by
  rcases d with ⟨k, t, ⟨hk, h1, h2⟩, e, ht⟩ | ⟨hn, e⟩
  · refine .inl ⟨k, t, ⟨hk, by rw [← seenK_all h hk]; exact h1, fun j hj => by rw [← seenK_all h (by omega)]; exact h2 j hj⟩, e, ?_⟩
    rw [ht, seenK_all h hk]
  · exact .inr ⟨fun j hj => by rw [← seenK_all h hj]; exact hn j hj, e⟩
section
variable {P : Program} {w : World} {K : PySem.W.Frag} {mg : Str → Option Value} {base : Heap} {C : Addr}
def nDf : List Str := ["chain", "begins", "numbers", "steps", "ends", "seen", "far", "place"]
theorem scDf : FnScope ["chain", "begins", "numbers", "steps", "ends", "seen", "far", "place"] ["chain", "begins", "numbers"] (defScope sDrawnFrom) := ⟨rfl, rfl, rfl, by decide +kernel, rfl, by decide +kernel, by decide +kernel⟩
def spDf (K : PySem.W.Frag) (C : Addr) : Sp := fun vs H Q _ => ∃ (x b l : Addr) (many : Nat) (ms : List Mv) (bs ns : List Int), vs = [.ref x, .ref b, .ref l] ∧ ChainAt C H x many ms ∧ Good many ms ∧ SqL K H b (bs.map V.int) ∧ bs.length < 64 ∧ 1 ≤ bs.length ∧ (∀ z ∈ bs, 0 ≤ z ∧ z < (many : Int)) ∧ H l = some (.lst (ns.map V.int)) ∧ NumsOk ms ns ∧
  ∀ v H', Same H H' → DrawnB H' v many (rowsOf ms ns) bs → Q v H'
theorem ok_drawnFrom {f fS fO fP fT : Addr} {fd fdS fdO fdP fdT : FuncData} (F : Fun K "drawn_from" "drawn_from" sDrawnFrom f fd) (FS : Fun K "steps_of" "steps_of" sStepsOf fS fdS) (bS : Binds K fdS ["chain", "numbers"] []) (gS : mg "steps_of" = some (.ref fS))
    (FO : Fun K "_are_one" "_are_one" sAreOne fO fdO) (bO : Binds K fdO ["ends"] []) (gO : mg "_are_one" = some (.ref fO)) (T : ChM K C fP fT fdP fdT) (mr : mg "range" = none) (ml : mg "len" = none) (mL : mg "list" = none) (mS : mg "set" = none) :
    FnOk P w K mg base CX0 3 f fd ["chain", "begins", "numbers"] (spDf K C) := by
  have GS : FnOk P w K mg base CX0 2 fS fdS ["chain", "numbers"] (spSteps C) := ok_steps FS T mr ml mL
  have GO : FnOk P w K mg base CX0 1 fO fdO ["ends"] (spOne K) := ok_one FO ml mS
  have GP : FnOk P w K mg base CX0 1 fP fdP ["self"] (spPlaces C) := ok_places T.FP T.cl T.nM
  refine F.ok scDf (fun vs H Q E h => ?_) (fun cdv A outer s H vs Q E hr h => ?_)
  · obtain ⟨x, b, l, many, ms, bs, ns, rfl, _⟩ := h
    rfl
  · obtain ⟨x, b, l, many, ms, bs, ns, rfl, hC, G, hb, b64, b1, hbs, hl, hN, q⟩ := h
    have r1 : Room 1 _ := hr.mono (by decide)
    refine ⟨_, pss_cons (ps_set (i := 3) scDf.nd rfl (.inl rfl) (pe_call GS hr (by rfl) gS FS.kp bS .nil pass0 (pa_cons (pv 0) (pa_cons (pv 2) pa_nil))))
      (pss_cons (ps_set (i := 4) scDf.nd rfl (.inr rfl) (pe_listRg rfl (by rfl) mL (prg_1 (by rfl) mr (pe_meth0 (pv 0) T.cl T.hP GP r1 T.bP .nil pass0))))
      (pss_cons (ps_set (i := 5) scDf.nd rfl (.inl rfl) (pe_callTy call_list_of (by rfl) mL (by decide +kernel) (pa_cons (pv 1) pa_nil)))
      (pss_cons (ps_set (i := 6) scDf.nd rfl (.inl rfl) pe_int)
      (pss_cons (ps_while PassesOwn.never (PW.pt (pw_and (pt_cmpR op_lt (pv 6) (pe_callB call_len_seq (by rfl) ml PySem.boot_len (pa_cons (pv 3) pa_nil)) (nomark _)) (pw_and1 (pt_not (pt_val (pe_call GO r1 (by rfl) gO FO.kp bO .nil pass0 (pa_cons (pv 5) pa_nil)))))))
        (pss_cons (ps_set (i := 4) scDf.nd rfl (.inr rfl) (pe_lc (own := [("place", 7)]) (g := gName 7) (tt := tYes) (te := tOp (rIxL K) (tVar 4) (tVar 7)) rfl scDf.nd (pi_tup (pe_ix ix_list (pv 3) (pv 6) (fun _ _ => rfl))) (blkOk_by (N := nDf) (sc := defScope sDrawnFrom) (by decide +kernel))
          (fun _ _ _ _ _ => pg_name (i := 7) scDf.nd rfl (.inl rfl)) (fun _ _ _ _ _ => pts_nil) (fun _ _ _ _ _ => by exact (pe_ix ix_list (pv 4) (pv 7) (fun _ _ => rfl)))))
        (pss_cons (ps_setLc (i := 5) (own := [("place", 7)]) (g := gName 7) (tt := tYes) (te := tOp (rIxL K) (tVar 4) (tVar 7)) rfl scDf.nd rfl rfl (sw_true rfl rfl rfl (by decide +kernel)) (pi_list (pv 1)) (blkOk_by (N := nDf) (sc := defScope sDrawnFrom) (by decide +kernel))
          (fun _ _ _ _ _ => pg_name (i := 7) scDf.nd rfl (.inl rfl)) (fun _ _ _ _ _ => pts_nil) (fun _ _ _ _ _ => by exact (pe_ix ix_list (pv 4) (pv 7) (fun _ _ => rfl))))
        (pss_one (ps_aug (i := 6) scDf.nd rfl (.inl rfl) pe_int ip_add)))))
      (pss_cons (ps_if (pt_val (pe_call GO r1 (by rfl) gO FO.kp bO .nil pass0 (pa_cons (pv 5) pa_nil))) (pss_one (ps_ret (pe_tup (pa_cons (pe_ix ix_list (pv 5) pe_int (fun _ _ => rfl)) (pa_cons (pv 6) pa_nil))))) pss_nil)
      (pss_one (ps_ret pe_non))))))), ?_⟩
    have h8 := G.l8
    have m6 := G.m6
    have m1 := G.m1
    refine ⟨.ref x, rfl, .ref l, rfl, x, l, many, ms, ns, rfl, hC, hl, hN, h8, fun S H1 s1 nS hSt => ?_⟩
    have hC1 := hC.same s1
    obtain ⟨dx, a0, ws, h1, h2, h3⟩ := id hC1
    obtain ⟨qs, hS, hp⟩ := hSt
    have gR := rowsOf_good G hN
    have lenR : (rowsOf ms ns).length = ns.length := by
      unfold rowsOf
      rw [List.length_map]
    have lenQ : qs.length = (rowsOf ms ns).length := hp.length
    have n1000 := hN.1
    have gE := endsK_good gR
    have lenSeen : ∀ k, (seenK many (rowsOf ms ns) bs k).length = bs.length := fun k => by
      unfold seenK
      rw [List.length_map]
    refine ⟨.ref x, rfl, x, dx, _, rfl, h1, ch_no, x, many, ms, rfl, hC1, _, rfl, RgOk.of_le (by omega) (by omega) (by omega) (by omega), fun e0 ne0 => ?_⟩
    rw [rg_ends]
    have s2 : Same H1 (upd H1 e0 (.lst ((endsK many (rowsOf ms ns) 0).map V.int))) := same_new ne0
    have hb1 := s1.seq hb
    refine ⟨.ref b, rfl, b, _, rfl, .inl (s2.seq hb1), fun g0 ng0 => ?_⟩
    have s3' : Same (upd H1 e0 (.lst ((endsK many (rowsOf ms ns) 0).map V.int))) (upd (upd H1 e0 (.lst ((endsK many (rowsOf ms ns) 0).map V.int))) g0 (.lst (bs.map V.int))) := same_new ng0
    refine while_by (fun σ H' => ∃ (k : Nat) (e g : Addr), σ = [some (.ref x), some (.ref b), some (.ref l), some (.ref S), some (.ref e), some (.ref g), some (.int (k : Int)), none] ∧ Same H1 H' ∧ k ≤ (rowsOf ms ns).length ∧ H' e = some (.lst ((endsK many (rowsOf ms ns) k).map V.int)) ∧ H' g = some (.lst ((seenK many (rowsOf ms ns) bs k).map V.int)) ∧ ∀ j, j < k → one (seenK many (rowsOf ms ns) bs j) = false)
      (fun σ _ => match σ with | [_, _, _, _, _, _, some (.int k), _] => (rowsOf ms ns).length - k.toNat | _ => 0) ⟨0, e0, g0, rfl, s2.trans s3', Nat.zero_le _, s3' _ _ upd_same, by rw [seenK_zero hbs]; exact upd_same, fun j hj => absurd hj (Nat.not_lt_zero _)⟩ ?_ ?_
    · rintro σ H2 ⟨k, e, g, rfl, s3, hk, he, hg, hbef⟩
      have hS2 := s3 _ _ hS
      obtain ⟨gl, gx⟩ := gE k hk
      have h64 : (seenK many (rowsOf ms ns) bs k).length < 64 := by rw [lenSeen]; exact b64
      -- what follows the loop
      have after : (k = (rowsOf ms ns).length ∨ one (seenK many (rowsOf ms ns) bs k) = true) → tSeq (tIfS (tB (tCall (spOne K) [] E0 (tCons (tVar 5) tNil))) (tRet (tTup (tCons (tOp (rIxL K) (tVar 5) (tC (.int 0))) (tCons (tVar 6) tNil)))) tNext) (tRet (tC .non)) { nx := fun _ H' => Q .non H', rt := Q } [some (.ref x), some (.ref b), some (.ref l), some (.ref S), some (.ref e), some (.ref g), some (.int (k : Int)), none] H2 := by
        intro hex
        refine ⟨.ref g, rfl, g, _, rfl, hg, h64, _, rfl, ite2 (fun c => ?_) (fun c => ?_)⟩
        · have g0 : ((seenK many (rowsOf ms ns) bs k).map V.int)[0]? = some (.int (goK (seenK many (rowsOf ms ns) bs k) 0)) := by
            have h0 : 0 < (seenK many (rowsOf ms ns) bs k).length := by rw [lenSeen]; omega
            rw [List.getElem?_map, List.getElem?_eq_getElem h0]
            unfold goK
            rw [List.getD_eq_getElem?_getD, show (0 : Int).toNat = 0 from rfl, List.getElem?_eq_getElem h0]
            rfl
          refine ⟨.ref g, rfl, g, _, 0, _, rfl, rfl, SqL.of hg, atI_nat (j := 0) g0, .int (k : Int), rfl, (by show 2 ≤ sizeLine; decide), fun t nt => ?_⟩
          exact q _ _ ((s1.trans s3).trans (same_new nt)) (.inl ⟨k, t, ⟨hk, c, hbef⟩, rfl, upd_same⟩)
        · refine q _ _ (s1.trans s3) (.inr ⟨fun j hj => ?_, rfl⟩)
          by_cases hjk : j < k
          · exact hbef j hjk
          · have ek : k = (rowsOf ms ns).length := hex.resolve_right c
            have ej : j = k := by omega
            rw [ej]
            cases ho : one (seenK many (rowsOf ms ns) bs k) with
            | false => rfl
            | true => exact absurd ho c
      refine ⟨.int (k : Int), rfl, .ref S, rfl, S, _, rfl, .inl (SqL.of hS2), _, _, rfl, rfl, _, rfl, ite2 (fun c => ?_) (fun c => ?_)⟩
      · have hlt : k < (rowsOf ms ns).length := by
          have := of_decide_eq_true c
          rw [List.length_map, lenQ] at this
          omega
        refine ⟨.ref g, rfl, g, _, rfl, hg, h64, _, rfl, ?_⟩
        cases ho : one (seenK many (rowsOf ms ns) bs k) with
        | true => exact after (.inr ho)
        | false =>
          refine (if_pos (rfl : (!false) = true)).mpr ?_
          have er := List.getElem?_eq_getElem hlt
          obtain ⟨qa, eqa, hqa⟩ := paired_get hp er
          have gS : (qs.map V.ref)[k]? = some (.ref qa) := by rw [List.getElem?_map, eqa]; rfl
          have hqa2 := s3 _ _ hqa
          obtain ⟨rl, rx⟩ := gR _ (List.getElem_mem hlt)
          refine ⟨.ref S, rfl, .int (k : Int), rfl, S, _, (k : Int), _, rfl, rfl, SqL.of hS2, atI_nat gS, qa, rfl, ⟨_, SqT.of hqa2⟩, fun D nD => ?_⟩
          have eK : endsK many (rowsOf ms ns) (k + 1) = (rowsOf ms ns)[k].map (goK (endsK many (rowsOf ms ns) k)) := by
            show ((rowsOf ms ns).getD k []).map _ = _
            rw [List.getD_eq_getElem?_getD, er]
            rfl
          refine lc_tup (K := K) (a := qa) (xs := ((rowsOf ms ns)[k]).map V.int) (fun i H' => Same H2 H' ∧ H' D = some (.lst ((((rowsOf ms ns)[k].map (goK (endsK many (rowsOf ms ns) k))).take i).map V.int)))
            ⟨same_new nD, by rw [List.take_zero]; exact upd_same⟩ (fun i H' _ h => SqT.of (h.1 _ _ hqa2)) ?_ ?_
          · rintro i v H3 hv ⟨s4, hD⟩
            rw [List.getElem?_map] at hv
            obtain ⟨p, hpp, rfl⟩ := Option.map_eq_some_iff.mp hv
            obtain ⟨p0, p1⟩ := rx p (List.mem_of_getElem? hpp)
            have hpl : p.toNat < (endsK many (rowsOf ms ns) k).length := by omega
            have ge : ((endsK many (rowsOf ms ns) k).map V.int)[p.toNat]? = some (.int (goK (endsK many (rowsOf ms ns) k) p)) := by
              rw [List.getElem?_map, List.getElem?_eq_getElem hpl]
              unfold goK
              rw [List.getD_eq_getElem?_getD, List.getElem?_eq_getElem hpl]
              rfl
            have hi : i < (rowsOf ms ns)[k].length := by
              obtain ⟨q1, _⟩ := List.getElem?_eq_some_iff.mp hpp
              exact q1
            refine ⟨rfl, .ref e, rfl, .int p, rfl, e, _, p, _, rfl, rfl, SqL.of (s4 _ _ he), at_of (show p = ((p.toNat : Nat) : Int) by omega) ge, _, hD, ?_, fun b u eb => by rw [upd_ne (ne_of_none eb nD)]; exact s4 _ _ eb, ?_⟩
            · rw [List.length_map, List.length_take]
              exact small8 (Nat.le_trans (Nat.min_le_left _ _) (by omega))
            · rw [upd_same, take_snoc (x := goK (endsK many (rowsOf ms ns) k) p) (by rw [List.getElem?_map, hpp]; rfl), List.map_append]
              rfl
          · rintro H3 ⟨s4, hD⟩
            rw [List.length_map, List.take_of_length_le (by rw [List.length_map]; exact Nat.le_refl _), ← eK] at hD
            have hb3 : SqL K H3 b (bs.map V.int) := (s3.trans s4).seq hb1
            obtain ⟨gl', gx'⟩ := gE (k + 1) hlt
            refine ⟨.ref b, rfl, b, rfl, ⟨_, hb3⟩, fun D' nD' => ?_⟩
            refine lc_list (K := K) (a := b) (xs := bs.map V.int) (fun i H' => Same H3 H' ∧ H' D' = some (.lst (((seenK many (rowsOf ms ns) bs (k + 1)).take i).map V.int)))
              ⟨same_new nD', by rw [List.take_zero]; exact upd_same⟩ (fun i H' _ h => h.1.seq hb3) ?_ ?_
            · rintro i v H4 hv ⟨s5, hD4⟩
              rw [List.getElem?_map] at hv
              obtain ⟨p, hpp, rfl⟩ := Option.map_eq_some_iff.mp hv
              obtain ⟨p0, p1⟩ := hbs p (List.mem_of_getElem? hpp)
              have hpl : p.toNat < (endsK many (rowsOf ms ns) (k + 1)).length := by omega
              have ge : ((endsK many (rowsOf ms ns) (k + 1)).map V.int)[p.toNat]? = some (.int (goK (endsK many (rowsOf ms ns) (k + 1)) p)) := by
                rw [List.getElem?_map, List.getElem?_eq_getElem hpl]
                unfold goK
                rw [List.getD_eq_getElem?_getD, List.getElem?_eq_getElem hpl]
                rfl
              refine ⟨rfl, .ref D, rfl, .int p, rfl, D, _, p, _, rfl, rfl, SqL.of (s5 _ _ hD), at_of (show p = ((p.toNat : Nat) : Int) by omega) ge, _, hD4, ?_, fun b u eb => by rw [upd_ne (ne_of_none eb nD')]; exact s5 _ _ eb, ?_⟩
              · rw [List.length_map, List.length_take, lenSeen]
                exact small1k (Nat.le_trans (Nat.min_le_right _ _) (by omega))
              · have et : (seenK many (rowsOf ms ns) bs (k + 1))[i]? = some (goK (endsK many (rowsOf ms ns) (k + 1)) p) := by
                  unfold seenK
                  rw [List.getElem?_map, hpp]
                  rfl
                rw [upd_same, take_snoc et, List.map_append]
                rfl
            · rintro H4 ⟨s5, hD4⟩
              rw [List.length_map, List.take_of_length_le (by rw [lenSeen]; exact Nat.le_refl _)] at hD4
              refine ⟨.int (k : Int), rfl, (k : Int), 1, rfl, rfl, ⟨k + 1, D, D', ?_, (s3.trans s4).trans s5, hlt, s5 _ _ hD, hD4, fun j hj => ?_⟩, ?_⟩
              · rfl
              · by_cases hjk : j < k
                · exact hbef j hjk
                · have ej : j = k := by omega
                  rw [ej]
                  exact ho
              · show (rowsOf ms ns).length - ((k : Int) + 1).toNat < (rowsOf ms ns).length - ((k : Int)).toNat
                omega
      · have hge : k = (rowsOf ms ns).length := by
          have h9 : ¬ ((k : Int) < ((qs.map V.ref).length : Int)) := fun z => c (decide_eq_true z)
          rw [List.length_map, lenQ] at h9
          omega
        exact after (.inl hge)
    · rintro σ H2 Q1 Q2 hq ⟨v, e1, u, e2, p, ys, e3, e4, i, j, e5, e6, b, e7, h⟩
      refine ⟨v, e1, u, e2, p, ys, e3, e4, i, j, e5, e6, b, e7, ?_⟩
      cases b with
      | false => exact hq _ _ h
      | true =>
        obtain ⟨z, e8, l2, ns2, e9, e10, e11, k2, e12, h2⟩ := h
        exact ⟨z, e8, l2, ns2, e9, e10, e11, k2, e12, hq _ _ h2⟩
end
section
variable {P : Program} {w : World} {K : PySem.W.Frag} {mg : Str → Option Value} {base : Heap} {C : Addr}
abbrev LstOf (H : Hp) : V → List Int → Prop := fun v xs => ∃ a, v = V.ref a ∧ H a = some (.lst (xs.map V.int))
def ListsAt (H : Hp) (L : Addr) (xss : List (List Int)) : Prop := ∃ vs, H L = some (.lst vs) ∧ Paired (LstOf H) vs xss
theorem ListsAt.same {H H' : Hp} {L : Addr} {xss : List (List Int)} (s : Same H H') (h : ListsAt H L xss) : ListsAt H' L xss := by
  obtain ⟨vs, e, p⟩ := h
  exact ⟨vs, s _ _ e, L2.Paired.mapP p fun v xs ⟨a, h1, h2⟩ => ⟨a, h1, s _ _ h2⟩⟩
/-- lists at F, none of them F -/
def ListsIn (H : Hp) (F : Addr) (xss : List (List Int)) : Prop := ∃ vs, H F = some (.lst vs) ∧ Paired (fun v xs => ∃ a, v = V.ref a ∧ a ≠ F ∧ H a = some (.lst (xs.map V.int))) vs xss
theorem ListsIn.same {H H' : Hp} {L : Addr} {xss : List (List Int)} (s : Same H H') (h : ListsIn H L xss) : ListsIn H' L xss := by
  obtain ⟨vs, e, p⟩ := h
  exact ⟨vs, s _ _ e, L2.Paired.mapP p fun v xs ⟨a, h1, h2, h3⟩ => ⟨a, h1, h2, s _ _ h3⟩⟩
theorem ListsIn.at {H : Hp} {L : Addr} {xss : List (List Int)} (h : ListsIn H L xss) : ListsAt H L xss := by
  obtain ⟨vs, e, p⟩ := h
  exact ⟨vs, e, L2.Paired.mapP p fun v xs ⟨a, h1, h2, h3⟩ => ⟨a, h1, h3⟩⟩
theorem dp_lists {K : PySem.W.Frag} {H : Hp} : ∀ {vs : List V} {xss : List (List Int)}, Paired (LstOf H) vs xss → DpAll K H vs (xss.map fun xs => .list (xs.map PyData.int))
  | _, _, .nil => .nil
  | _, _, .cons ⟨a, e, h⟩ t => .cons (by rw [e]; exact dp_lst h) (dp_lists t)
def lsD (xss : List (List Int)) : PyData := .list (xss.map fun xs => .list (xs.map PyData.int))
theorem Sh.lists (xss : List (List Int)) : Sh 2 (lsD xss) := Sh.list fun d hd => by
  obtain ⟨xs, _, rfl⟩ := List.mem_map.mp hd
  exact Sh.list (Sh.ints xs)
theorem ListsAt.dp {K : PySem.W.Frag} {H : Hp} {L : Addr} {xss : List (List Int)} (h : ListsAt H L xss) : Dp K H (.ref L) (lsD xss) := by
  obtain ⟨vs, e, p⟩ := h
  exact .lst (SqL.of e) (dp_lists p)
theorem Sh.lst (xs : List Int) : Sh 1 (.list (xs.map PyData.int)) := Sh.list (Sh.ints xs)
theorem eqv_lst (xs ys : List Int) : PyData.eqv (.list (xs.map PyData.int)) (.list (ys.map PyData.int)) = decide (xs = ys) := by
  simp only [PyData.eqv]
  exact PySem.W.ked_eqvAll xs ys
theorem any_lsts (g : List Int) : ∀ xss : List (List Int), ((xss.map fun xs => PyData.list (xs.map PyData.int)).any fun z => PyData.eqv z (.list (g.map PyData.int))) = decide (g ∈ xss)
  | [] => by rw [decide_eq_false (by simp)]; rfl
  | x :: xss => by
    rw [List.map_cons, List.any_cons, eqv_lst, any_lsts g xss]
    by_cases c : x = g
    · subst c
      rw [decide_eq_true rfl, decide_eq_true List.mem_cons_self]
      rfl
    · rw [decide_eq_false c, Bool.false_or]
      exact decide_eq_decide.mpr ⟨fun h => List.mem_cons_of_mem _ h, fun h => (List.mem_cons.mp h).resolve_left (Ne.symm c)⟩
end
/-! ### orders: the mathematics -/
def rankO (o : List Int) (x : Int) : Int := ((o.idxOf x : Nat) : Int)
def standsO (row o : List Int) : List Int := o.map fun p => rankO o (goK row p)
def keepsR (row o : List Int) : Bool := decide ((standsO row o).Pairwise (· ≤ ·))
/-- the first move that doesn't keep the order -/
def fbN (ms : List Mv) (o : List Int) : Option Nat := ms.findIdx? fun mv => !keepsR mv.2 o
def fbV (ms : List Mv) (o : List Int) : V := match fbN ms o with
  | none => .non
  | some k => .int (k : Int)
def isOrd (many : Nat) (o : List Int) : Prop := o.Perm (ids many)
theorem isOrd.mem {many : Nat} {o : List Int} (h : isOrd many o) {x : Int} : x ∈ o ↔ 0 ≤ x ∧ x < (many : Int) := (h.mem_iff).trans mem_ids
theorem isOrd.len {many : Nat} {o : List Int} (h : isOrd many o) : o.length = many := by
  rw [h.length_eq]
  unfold ids
  rw [List.length_map, List.length_range]
theorem ix_at {o : List Int} {x : Int} (h : x ∈ o) : (o.map V.int)[o.idxOf x]? = some (.int x) := by
  have hl : o.idxOf x < o.length := List.idxOf_lt_length_of_mem h
  rw [List.getElem?_map, List.getElem?_eq_getElem hl, List.getElem_idxOf hl]
  rfl
theorem ix_before {o : List Int} {x : Int} {m : Nat} {z : V} (hm : m < o.idxOf x) (e : (o.map V.int)[m]? = some z) : eqV z (.int x) = false := by
  rw [List.getElem?_map] at e
  obtain ⟨y, hy, rfl⟩ := Option.map_eq_some_iff.mp e
  obtain ⟨lt, e2⟩ := List.getElem?_eq_some_iff.mp hy
  have : y ≠ x := by
    intro z
    have h := List.not_of_lt_findIdx (p := (· == x)) (xs := o) hm
    rw [e2, z] at h
    simp at h
  show (y == x) = false
  exact beq_eq_false_iff_ne.mpr this
theorem flat_ints (ns : List Int) : (ns.map V.int).all flatV = true := List.all_eq_true.mpr fun v hv => by
  obtain ⟨n, _, rfl⟩ := List.mem_map.mp hv
  rfl
theorem sort_same : ∀ {xs ys : List Int}, xs.Perm ys → xs.Pairwise (· ≤ ·) → ys.Pairwise (· ≤ ·) → xs = ys
  | [], ys, h, _, _ => (List.nil_perm.mp h).symm
  | x :: xs, [], h, _, _ => absurd h.symm.nil_eq (by simp)
  | x :: xs, y :: ys, h, hx, hy => by
    obtain ⟨x1, x2⟩ := List.pairwise_cons.mp hx
    obtain ⟨y1, y2⟩ := List.pairwise_cons.mp hy
    have e : x = y := by
      have m1 := h.mem_iff.mp (List.mem_cons_self (a := x) (l := xs))
      have m2 := h.mem_iff.mpr (List.mem_cons_self (a := y) (l := ys))
      rcases List.mem_cons.mp m1 with a | a
      · exact a
      · rcases List.mem_cons.mp m2 with b | b
        · exact b.symm
        · have := x1 y b
          have := y1 x a
          omega
    subst e
    rw [sort_same (List.Perm.cons_inv h) x2 y2]
theorem ids_le (many : Nat) : (ids many).Pairwise (· ≤ ·) := List.Pairwise.imp (fun {a b} (h : a < b) => (by omega : a ≤ b)) (ids_pair many)
/-- sorted is all places in turn just for an order -/
theorem sorted_ids {many : Nat} {o zs : List Int} (hp : zs.Perm o) (hs : zs.Pairwise (· ≤ ·)) : (zs = ids many) ↔ isOrd many o := by
  constructor
  · intro e
    subst e
    exact hp.symm
  · intro h
    exact sort_same (hp.trans h) hs (ids_le many)
theorem goK_ord {many : Nat} {row o : List Int} (hr : GoodRow many row) (ho : isOrd many o) {p : Int} (hp : p ∈ o) : goK row p ∈ o := ho.mem.mpr (goK_in' hr (ho.mem.mp hp).1 (ho.mem.mp hp).2)
theorem fbN_none {ms : List Mv} {o : List Int} : fbN ms o = none ↔ ∀ mv ∈ ms, keepsR mv.2 o = true := by
  unfold fbN
  rw [List.findIdx?_eq_none_iff]
  constructor
  · intro h mv hm
    have := h mv hm
    cases hk : keepsR mv.2 o with
    | true => rfl
    | false =>
      rw [hk] at this
      cases this
  · intro h mv hm
    rw [h mv hm]
    rfl
theorem standsO_at {row o : List Int} {k : Nat} {p : Int} (h : o[k]? = some p) : (standsO row o)[k]? = some (rankO o (goK row p)) := by
  unfold standsO
  rw [List.getElem?_map, h]
  rfl
section
variable {P : Program} {w : World} {K : PySem.W.Frag} {mg : Str → Option Value} {base : Heap} {C : Addr}
/-! ### _keeps -/
theorem scKe : FnScope ["whither", "order", "stands", "place"] ["whither", "order"] (defScope sKeeps) := ⟨rfl, rfl, rfl, by decide +kernel, rfl, by decide +kernel, by decide +kernel⟩
def spKe : Sp := fun vs H Q _ => ∃ (wa l : Addr) (many : Nat) (row o : List Int), vs = [.ref wa, .ref l] ∧ H wa = some (.tup (row.map V.int)) ∧ H l = some (.lst (o.map V.int)) ∧ many ≤ 6 ∧ GoodRow many row ∧ isOrd many o ∧ ∀ H', Same H H' → Q (.bl (keepsR row o)) H'
theorem ok_keeps {k : Nat} {f : Addr} {fd : FuncData} (F : Fun K "_keeps" "_keeps" sKeeps f fd) (ms' : mg "sorted" = none) : FnOk P w K mg base CX0 (k + 1) f fd ["whither", "order"] spKe := by
  refine F.ok scKe (fun vs H Q E h => ?_) (fun cdv A outer s H vs Q E hr h => ?_)
  · obtain ⟨wa, l, many, row, o, rfl, _⟩ := h
    rfl
  · obtain ⟨wa, l, many, row, o, rfl, hw, hl, m6, hrow, ho, q⟩ := h
    have hu := hu64 hr
    refine ⟨_, (pss_cons (ps_setLc (i := 2) (own := [("place", 3)]) (g := gName 3) (tt := tYes) (te := (tBM K "list" (rIndex K) (tVar 1) (tCons (tOp (rIxT K) (tVar 0) (tVar 3)) tNil))) rfl scKe.nd rfl rfl (sw_true rfl rfl rfl (by decide +kernel)) (pi_list (pv 1)) (blkOk_by (N := ["whither", "order", "stands", "place"]) (sc := defScope sKeeps) (by decide +kernel)) (fun _ _ _ _ _ => by exact (pg_name (i := 3) scKe.nd rfl (.inl rfl))) (fun _ _ _ _ _ => pts_nil) (fun _ _ _ _ _ => by exact (pe_bm PySem.F.plainAttrs_list PySem.F.slot_list_index PySem.F.type_list_index mt_index (pv 1) (pa_cons (pe_ix ix_tup (pv 0) (pv 3) (fun _ _ => rfl)) pa_nil))))
      (pss_one (ps_ret (pe_cmpR (op_eqD hu) (pv 2) (pe_callB cr_sorted (by rfl) ms' (by decide +kernel) (pa_cons (pv 2) pa_nil)) (nomark _))))), ?_⟩
    have lo := ho.len
    refine ⟨.ref l, rfl, l, rfl, ⟨_, SqL.of hl⟩, fun D nD => ?_⟩
    refine lc_list (K := K) (a := l) (xs := o.map V.int) (fun i H' => Same H H' ∧ H' D = some (.lst (((standsO row o).take i).map V.int))) ⟨same_new nD, by rw [List.take_zero]; exact upd_same⟩ (fun i H' _ h => SqL.of (h.1 _ _ hl)) ?_ ?_
    · rintro i v H1 hv ⟨s1, hD⟩
      rw [List.getElem?_map] at hv
      obtain ⟨p, hp, rfl⟩ := Option.map_eq_some_iff.mp hv
      have hpo := List.mem_of_getElem? hp
      obtain ⟨p0, p1⟩ := ho.mem.mp hpo
      have hg := goK_ord hrow ho hpo
      refine ⟨rfl, .ref l, rfl, .inl ⟨rfl, _, SqL.of (s1 _ _ hl)⟩, .ref wa, rfl, .int p, rfl, wa, _, p, _, rfl, rfl, SqT.of (s1 _ _ hw), at_of (show p = ((p.toNat : Nat) : Int) by omega) (at_goK p0 (by rw [hrow.1]; omega)), ?_⟩
      refine ⟨l, _, .int (goK row p), o.idxOf (goK row p), _, rfl, rfl, SqL.of (s1 _ _ hl), rfl, flat_ints o, ix_at hg, beq_self_eq_true _, fun m z hm e => ix_before hm e, ?_⟩
      refine ⟨_, hD, by rw [List.length_map, List.length_take]; exact small8 (Nat.le_trans (Nat.min_le_right _ _) (by unfold standsO; rw [List.length_map]; omega)), fun b u e => by rw [upd_ne (ne_of_none e nD)]; exact s1 _ _ e, ?_⟩
      have e1 : (standsO row o)[i]? = some (rankO o (goK row p)) := by
        unfold standsO
        rw [List.getElem?_map, hp]
        rfl
      rw [upd_same, take_snoc e1, List.map_append]
      rfl
    · rintro H1 ⟨s1, hD⟩
      rw [List.length_map, List.take_of_length_le (by unfold standsO; rw [List.length_map]; exact Nat.le_refl _)] at hD
      refine ⟨.ref D, rfl, .ref D, rfl, D, _, rfl, SqL.of hD, by unfold standsO; rw [List.length_map]; omega, fun zs L hp hs nL => ?_⟩
      have s2 := same_new (o := .lst (zs.map V.int)) nL
      refine ⟨_, _, dp_lst (s2 _ _ hD), dp_lst upd_same, (Sh.lst _).shaped (by decide), (Sh.lst _).shaped (by decide), ?_⟩
      rw [eqv_lst]
      have e : decide (standsO row o = zs) = keepsR row o := by
        unfold keepsR
        refine decide_eq_decide.mpr ⟨fun e => ?_, fun h => ?_⟩
        · rw [e]
          exact hs
        · exact sort_same hp.symm h hs
      rw [e]
      exact q _ (s1.trans s2)
end
section
variable {P : Program} {w : World} {K : PySem.W.Frag} {mg : Str → Option Value} {base : Heap} {C : Addr}
/-! ### _first_breaking, keeps_order, first_order -/
theorem scFb : FnScope ["chain", "order", "number", "_", "whither"] ["chain", "order"] (defScope sFirstBreaking) := ⟨rfl, rfl, rfl, by decide +kernel, rfl, by decide +kernel, by decide +kernel⟩
def spFb (C : Addr) : Sp := fun vs H Q _ => ∃ (x l : Addr) (many : Nat) (ms : List Mv) (o : List Int), vs = [.ref x, .ref l] ∧ ChainAt C H x many ms ∧ Good many ms ∧ H l = some (.lst (o.map V.int)) ∧ isOrd many o ∧ ∀ H', Same H H' → Q (fbV ms o) H'
theorem findIdx_none {α : Type} {l : List α} {p : α → Bool} (h : ∀ x ∈ l, p x = false) : l.findIdx? p = none := List.findIdx?_eq_none_iff.mpr h
theorem findIdx_at {α : Type} {l : List α} {p : α → Bool} {i : Nat} {x : α} (e : l[i]? = some x) (hp : p x = true) (hb : ∀ j y, j < i → l[j]? = some y → p y = false) : l.findIdx? p = some i := by
  obtain ⟨lt, e2⟩ := List.getElem?_eq_some_iff.mp e
  refine List.findIdx?_eq_some_iff_getElem.mpr ⟨lt, by rw [e2]; exact hp, fun j hj => ?_⟩
  rw [hb j _ hj (List.getElem?_eq_getElem (by omega))]
  exact Bool.false_ne_true
theorem ok_fb {f fK fP fT : Addr} {fd fdK fdP fdT : FuncData} (F : Fun K "_first_breaking" "_first_breaking" sFirstBreaking f fd) (DK : Df K mg "_keeps" sKeeps ["whither", "order"] fK fdK) (T : ChM K C fP fT fdP fdT) (ms' : mg "sorted" = none) (mL : mg "list" = none) (mr : mg "range" = none) (mE : mg "enumerate" = none) : FnOk P w K mg base CX0 2 f fd ["chain", "order"] (spFb C) := by
  have GK : FnOk P w K mg base CX0 1 fK fdK ["whither", "order"] spKe := ok_keeps DK.F ms'
  have GT : FnOk P w K mg base CX0 1 fT fdT ["self"] (spTold C) := ok_told T.FT T.cl T.nV mL
  have GP : FnOk P w K mg base CX0 1 fP fdP ["self"] (spPlaces C) := ok_places T.FP T.cl T.nM
  refine F.ok scFb (fun vs H Q E h => ?_) (fun cdv A outer s H vs Q E hr h => ?_)
  · obtain ⟨x, l, many, ms, o, rfl, _⟩ := h
    rfl
  · obtain ⟨x, l, many, ms, o, rfl, hC, G, hl, ho, q⟩ := h
    have hu := hu64 hr
    have r1 : Room 1 _ := hr.mono (by decide)
    refine ⟨_, (pss_cons (ps_if (pt_cmpR (op_neD hu) (pe_callB cr_sorted (by rfl) ms' (by decide +kernel) (pa_cons (pv 1) pa_nil)) (pe_listRg rfl (by rfl) mL (prg_1 (by rfl) mr (pe_meth0 (pv 0) T.cl T.hP GP r1 T.bP .nil pass0))) (nomark _)) pss_never pss_nil)
      (pss_cons (ps_for PassesOwn.never rfl (pi_enum (by rfl) mE (pa_cons (pe_meth0 (pv 0) T.cl T.hT GT r1 T.bT .nil pass0) pa_nil)) (pg_tup rfl (pgs_cons (pg_name (i := 2) scFb.nd rfl (.inl rfl)) (pgs_cons (pg_tup rfl (pgs_cons (pg_name (i := 3) scFb.nd rfl (.inl rfl)) (pgs_cons (pg_name (i := 4) scFb.nd rfl (.inl rfl)) pgs_nil))) pgs_nil))) (pss_one (ps_if (pt_not (pt_val (pe_call GK hr (by rfl) DK.g DK.F.kp DK.b .nil pass0 (pa_cons (pv 4) (pa_cons (pv 1) pa_nil))))) (pss_one (ps_ret (pv 2))) pss_nil)))
      (pss_one (ps_ret pe_non)))), ?_⟩
    have m1 := G.m1
    have m6 := G.m6
    have l8 := G.l8
    have lo := ho.len
    refine ⟨.ref l, rfl, l, _, rfl, SqL.of hl, by omega, fun zs L hp hs nL => ?_⟩
    have s1 := same_new (o := .lst (zs.map V.int)) nL
    have hL1 : (upd H L (.lst (zs.map V.int))) L = some (.lst (zs.map V.int)) := upd_same
    generalize upd H L (.lst (zs.map V.int)) = H1 at s1 hL1 ⊢
    have hC1 := hC.same s1
    obtain ⟨dx, a0, ws, h1, h2, h3⟩ := id hC1
    refine ⟨.ref x, rfl, x, dx, _, rfl, h1, ch_no, x, many, ms, rfl, hC1, _, rfl, RgOk.of_le (by omega) (by omega) (by omega) (by omega), fun L2 nL2 => ?_⟩
    rw [rg_ends]
    have s2 := same_new (o := .lst (((List.range many).map fun (i : Nat) => (i : Int)).map V.int)) nL2
    have e1 : zs = (List.range many).map fun (i : Nat) => (i : Int) := (sorted_ids hp hs).mpr ho
    refine ne_same (d := .list (zs.map PyData.int)) (dp_lst (s2 _ _ hL1)) (by rw [e1]; exact dp_lst upd_same) (Sh.lst _) (by decide) ⟨false, rfl, iteF ?_⟩
    have s12 := s1.trans s2
    have hC2 := hC1.same s2
    have hl2 := s12 _ _ hl
    generalize upd H1 L2 (.lst (((List.range many).map fun (i : Nat) => (i : Int)).map V.int)) = H2 at s12 hC2 hl2 ⊢
    obtain ⟨dx, a0, ws, h1, h2, h3⟩ := id hC2
    refine ⟨.ref x, rfl, x, dx, _, rfl, h1, ch_noT, x, many, ms, rfl, hC2, fun m wl nm hM => ?_⟩
    have s3 := s12.trans (same_new (o := .lst wl) nm)
    have hm3 : (upd H2 m (.lst wl)) m = some (.lst wl) := upd_same
    generalize upd H2 m (.lst wl) = H3 at s3 hM hm3 ⊢
    refine ⟨m, wl, rfl, SqL.of hm3, for_it (walk_enum (K := K) (a := m) (xs := wl)) (fun i σ H' => ∃ y2 y3 y4, σ = [some (.ref x), some (.ref l), y2, y3, y4] ∧ Same H3 H' ∧ ∀ j mv, j < i → ms[j]? = some mv → keepsR mv.2 o = true) ⟨none, none, none, rfl, Same.refl _, fun j mv h => absurd h (Nat.not_lt_zero _)⟩ (fun i σ H' hi ⟨_, _, _, _, s, _⟩ => SqL.of (s _ _ hm3)) ?_ ?_⟩
    · rintro i z σ H4 H5 hi ⟨y2, y3, y4, rfl, s4, hbef⟩ ⟨Tp, u, v, rfl, nT, rfl, eu, ev⟩
      have eu' : u = .int (i : Int) := (Option.some.inj eu).symm
      subst eu'
      obtain ⟨mv, emv, hmv⟩ := hM.get' ev
      have sT := s4.trans (same_new (o := .tup [.int (i : Int), v]) nT)
      obtain ⟨ta, tb, rfl, hta, htb⟩ := hmv.same (Same.tups sT)
      have gm := G.mv mv (List.mem_of_getElem? emv)
      refine ⟨Tp, [.int (i : Int), .ref ta], rfl, SqT.of upd_same, rfl, .int (i : Int), [.ref ta], rfl, .ref ta, [], rfl, ?_⟩
      refine ⟨ta, [.int mv.1, .ref tb], rfl, SqT.of hta, rfl, .int mv.1, [.ref tb], rfl, .ref tb, [], rfl, rfl, rfl, ?_⟩
      refine ⟨.ref tb, rfl, .ref l, rfl, tb, l, many, mv.2, o, rfl, htb, (s3.trans sT) _ _ hl, m6, gm.2.2, ho, fun H6 s6 => ?_⟩
      cases hk : keepsR mv.2 o with
      | true =>
        refine ⟨true, rfl, ?_⟩
        refine ⟨some (.int (i : Int)), some (.int mv.1), some (.ref tb), rfl, sT.trans s6, fun j mv' hj e => ?_⟩
        by_cases c : j < i
        · exact hbef j mv' c e
        · have ej : j = i := by omega
          rw [ej, emv] at e
          cases e
          exact hk
      | false =>
        refine ⟨false, rfl, iteT ⟨.int (i : Int), rfl, ?_⟩⟩
        have e2 : fbV ms o = .int (i : Int) := by
          unfold fbV fbN
          rw [findIdx_at (p := fun mv => !keepsR mv.2 o) emv (by rw [hk]; rfl) (fun j y hj e => by rw [hbef j y hj e]; rfl)]
        have := q H6 ((s3.trans sT).trans s6)
        rw [e2] at this
        exact this
    · rintro σ H4 ⟨y2, y3, y4, rfl, s4, hbef⟩
      have e2 : fbV ms o = .non := by
        unfold fbV fbN
        rw [findIdx_none fun mv hmv => ?_]
        obtain ⟨j, hj, e⟩ := List.getElem_of_mem hmv
        rw [hbef j mv (by rw [hM.length]; exact hj) (by rw [← e]; exact List.getElem?_eq_getElem hj)]
        rfl
      have := q H4 (s3.trans s4)
      rw [e2] at this
      exact this
/-! keeps_order -/
theorem scKo : FnScope ["chain", "order"] ["chain", "order"] (defScope sKeepsOrder) := ⟨rfl, rfl, rfl, by decide +kernel, rfl, by decide +kernel, by decide +kernel⟩
def spKo (C : Addr) : Sp := fun vs H Q _ => ∃ (x l : Addr) (many : Nat) (ms : List Mv) (o : List Int), vs = [.ref x, .ref l] ∧ ChainAt C H x many ms ∧ Good many ms ∧ H l = some (.lst (o.map V.int)) ∧ isOrd many o ∧ ∀ H', Same H H' → Q (.bl (decide (fbN ms o = none))) H'
theorem ok_ko {f fB : Addr} {fd fdB : FuncData} (F : Fun K "keeps_order" "keeps_order" sKeepsOrder f fd) (DB : Df K mg "_first_breaking" sFirstBreaking ["chain", "order"] fB fdB) (GB : FnOk P w K mg base CX0 2 fB fdB ["chain", "order"] (spFb C)) : FnOk P w K mg base CX0 3 f fd ["chain", "order"] (spKo C) := by
  refine F.ok scKo (fun vs H Q E h => ?_) (fun cdv A outer s H vs Q E hr h => ?_)
  · obtain ⟨x, l, many, ms, o, rfl, _⟩ := h
    rfl
  · obtain ⟨x, l, many, ms, o, rfl, hC, G, hl, ho, q⟩ := h
    refine ⟨_, pss_one (ps_ret (pe_cmpR op_isN (pe_call GB hr (by rfl) DB.g DB.F.kp DB.b .nil pass0 (pa_cons (pv 0) (pa_cons (pv 1) pa_nil))) pe_non (nomark _))), ?_⟩
    refine ⟨.ref x, rfl, .ref l, rfl, x, l, many, ms, o, rfl, hC, G, hl, ho, fun H1 s1 => ⟨rfl, ?_⟩⟩
    have e : decide (fbV ms o = .non) = decide (fbN ms o = none) := by
      unfold fbV
      cases fbN ms o with
      | none => rfl
      | some k => rw [decide_eq_false (by simp), decide_eq_false (by simp)]
    rw [e]
    exact q H1 s1
/-! first_order -/
theorem scFo : FnScope ["chain", "places", "order"] ["chain"] (defScope sFirstOrder) := ⟨rfl, rfl, rfl, by decide +kernel, rfl, by decide +kernel, by decide +kernel⟩
/-- all orders, the least ones first -/
def ordsL (many : Nat) : List (List Int) := (Pm.permsN many).map fun ns => (ns.take many).map fun (j : Nat) => (j : Int)
def foL (many : Nat) (ms : List Mv) : Option (List Int) := (ordsL many).find? fun o => decide (fbN ms o = none)
theorem ordsL_ok : ∀ many, many ≤ 6 → ((ordsL many).all fun o => o.isPerm (ids many)) = true := by
  intro n hn
  match n, hn with
  | 0, _ => decide +kernel
  | 1, _ => decide +kernel
  | 2, _ => decide +kernel
  | 3, _ => decide +kernel
  | 4, _ => decide +kernel
  | 5, _ => decide +kernel
  | 6, _ => decide +kernel
theorem ordsL_ord {many : Nat} (m6 : many ≤ 6) {o : List Int} (h : o ∈ ordsL many) : isOrd many o := List.isPerm_iff.mp (List.all_eq_true.mp (ordsL_ok many m6) o h)
def ListOr (H : Hp) (v : V) (r : Option (List Int)) : Prop := match r with
  | none => v = .non
  | some o => ∃ a, v = .ref a ∧ H a = some (.lst (o.map V.int))
def spFo (C : Addr) : Sp := fun vs H Q _ => ∃ (x : Addr) (many : Nat) (ms : List Mv), vs = [.ref x] ∧ ChainAt C H x many ms ∧ Good many ms ∧ ∀ v H', Same H H' → ListOr H' v (foL many ms) → Q v H'
theorem ok_fo {f fK fP fT : Addr} {fd fdK fdP fdT : FuncData} (F : Fun K "first_order" "first_order" sFirstOrder f fd) (DKo : Df K mg "keeps_order" sKeepsOrder ["chain", "order"] fK fdK) (GKo : FnOk P w K mg base CX0 3 fK fdK ["chain", "order"] (spKo C)) (T : ChM K C fP fT fdP fdT) (mL : mg "list" = none) (mr : mg "range" = none) (mP : mg "permutations" = some (.type "itertools.permutations")) : FnOk P w K mg base CX0 4 f fd ["chain"] (spFo C) := by
  have GP : FnOk P w K mg base CX0 1 fP fdP ["self"] (spPlaces C) := ok_places T.FP T.cl T.nM
  refine F.ok scFo (fun vs H Q E h => ?_) (fun cdv A outer s H vs Q E hr h => ?_)
  · obtain ⟨x, many, ms, rfl, _⟩ := h
    rfl
  · obtain ⟨x, many, ms, rfl, hC, G, q⟩ := h
    have r1 : Room 1 _ := hr.mono (by decide)
    refine ⟨_, (pss_cons (ps_for PassesOwn.never rfl (pi_perm rfl (by rfl) mP (prg_1 (by rfl) mr (pe_meth0 (pv 0) T.cl T.hP GP r1 T.bP .nil pass0))) (pg_name (i := 1) scFo.nd rfl (.inl rfl)) (pss_cons (ps_set (i := 2) scFo.nd rfl (.inl rfl) (pe_callTy call_list_of (by rfl) mL (by decide +kernel) (pa_cons (pv 1) pa_nil)))
      (pss_one (ps_if (pt_val (pe_call GKo hr (by rfl) DKo.g DKo.F.kp DKo.b .nil pass0 (pa_cons (pv 0) (pa_cons (pv 2) pa_nil)))) (pss_one (ps_ret (pv 2))) pss_nil))))
      (pss_one (ps_ret pe_non))), ?_⟩
    have m6 := G.m6
    obtain ⟨dx, a0, ws, h1, h2, h3⟩ := id hC
    refine ⟨.ref x, rfl, x, dx, _, rfl, h1, ch_no, x, many, ms, rfl, hC, _, rfl, many, rfl, rfl, m6, ?_⟩
    have lenO : (ordsL many).length = (Pm.permsN many).length := by
      unfold ordsL
      rw [List.length_map]
    refine ⟨fun i m σ H' => m = (Pm.permsN many).length - i ∧ i ≤ (Pm.permsN many).length ∧ ∃ y1 y2, σ = [some (.ref x), y1, y2] ∧ Same H H' ∧ ∀ j o, j < i → (ordsL many)[j]? = some o → fbN ms o ≠ none, ⟨_, rfl, Nat.zero_le _, none, none, rfl, Same.refl _, fun j o h => absurd h (Nat.not_lt_zero _)⟩, ?_⟩
    rintro i m σ H1 ⟨rfl, hi, y1, y2, rfl, s1, hbef⟩
    by_cases lt : i < (Pm.permsN many).length
    · refine .inr ⟨lt, fun σ H' => i + 1 ≤ (Pm.permsN many).length ∧ ∃ y1 y2, σ = [some (.ref x), y1, y2] ∧ Same H H' ∧ ∀ j o, j < i + 1 → (ordsL many)[j]? = some o → fbN ms o ≠ none, fun σ' H' h => ⟨_, by omega, rfl, h⟩, ?_⟩
      rintro v H2 ⟨Tp, ns, rfl, nT, rfl, en⟩
      have eo : (ordsL many)[i]? = some ((ns.take many).map fun (j : Nat) => (j : Int)) := by
        unfold ordsL
        rw [List.getElem?_map, en]
        rfl
      have ho := ordsL_ord m6 (List.mem_of_getElem? eo)
      have em : (ns.take many).map (fun (j : Nat) => V.int j) = ((ns.take many).map fun (j : Nat) => (j : Int)).map V.int := by rw [List.map_map]; rfl
      rw [em]
      generalize (ns.take many).map (fun (j : Nat) => (j : Int)) = o at eo ho ⊢
      have s2 := s1.trans (same_new (o := .tup (o.map V.int)) nT)
      refine ⟨.ref Tp, rfl, Tp, _, rfl, .inr (SqT.of upd_same), fun L nL => ?_⟩
      have s3 := s2.trans (same_new (o := .lst (o.map V.int)) nL)
      refine ⟨.ref x, rfl, .ref L, rfl, x, L, many, ms, o, rfl, hC.same s3, G, upd_same, ho, fun H4 s4 => ⟨_, rfl, ?_⟩⟩
      by_cases c : fbN ms o = none
      · rw [decide_eq_true c]
        refine iteT ⟨.ref L, rfl, ?_⟩
        refine q _ _ (s3.trans s4) ?_
        have e : foL many ms = some o := by
          unfold foL
          rw [List.find?_eq_some_iff_getElem]
          obtain ⟨hl, e⟩ := List.getElem?_eq_some_iff.mp eo
          refine ⟨decide_eq_true c, i, hl, e, fun j hj => ?_⟩
          rw [decide_eq_false (hbef j _ hj (List.getElem?_eq_getElem (by omega)))]
          rfl
        rw [e]
        exact ⟨L, rfl, s4 _ _ upd_same⟩
      · rw [decide_eq_false c]
        refine iteF ⟨lt, _, _, rfl, s3.trans s4, fun j o' hj e => ?_⟩
        by_cases cj : j < i
        · exact hbef j o' cj e
        · have ej : j = i := by omega
          rw [ej, eo] at e
          cases e
          exact c
    · refine .inl ⟨by show (Pm.permsN many).length ≤ i; omega, ?_⟩
      refine q _ _ s1 ?_
      have e : foL many ms = none := by
        unfold foL
        refine List.find?_eq_none.mpr fun o ho => ?_
        obtain ⟨j, hj, e⟩ := List.getElem_of_mem ho
        rw [decide_eq_false (hbef j o (by omega) (by rw [← e]; exact List.getElem?_eq_getElem hj))]
        exact Bool.false_ne_true
      rw [e]
      exact rfl
end
section
variable {P : Program} {w : World} {K : PySem.W.Frag} {mg : Str → Option Value} {base : Heap} {C : Addr}
/-! ### steps_of, where a number is no move -/
def BadNo (ms : List Mv) (n : Int) : Prop := ¬ (0 ≤ n ∧ n < (ms.length : Int))
/-- numbers of which one is no move -/
def BadNos (ms : List Mv) (ns : List Int) : Prop := ns.length ≤ 1000 ∧ (∀ n ∈ ns, n.natAbs.log2 < 1920) ∧ ∃ n ∈ ns, BadNo ms n
def spStepsX (C CN : Addr) : Sp := fun vs H _ E => ∃ (x l : Addr) (many : Nat) (ms : List Mv) (ns : List Int), vs = [.ref x, .ref l] ∧ ChainAt C H x many ms ∧ H l = some (.lst (ns.map V.int)) ∧ BadNos ms ns ∧ ms.length ≤ 8 ∧
  ∀ H', Same H H' → E (.ref CN) none H'
theorem ok_stepsX {f fP fT CN : Addr} {fd fdP fdT : FuncData} (F : Fun K "steps_of" "steps_of" sStepsOf f fd) (T : ChM K C fP fT fdP fdT) (N : OwnE K mg "NoSuch" CN) (mr : mg "range" = none) (ml : mg "len" = none) (mL : mg "list" = none) : FnOk P w K mg base (L2.CX P w) 2 f fd ["chain", "numbers"] (spStepsX C CN) := by
  have GT : FnOk P w K mg base CX0 1 fT fdT ["self"] (spTold C) := ok_told T.FT T.cl T.nV mL
  refine F.okX scSt (fun vs H Q E h => ?_) (fun cdv A outer s H vs Q E hr h => ?_)
  · obtain ⟨x, l, many, ms, ns, rfl, _⟩ := h
    rfl
  · obtain ⟨x, l, many, ms, ns, rfl, hC, hl, ⟨n1000, small, bad⟩, h8, q⟩ := h
    refine ⟨_, pss_cons (ps_set (i := 2) scSt.nd rfl (.inr rfl) (pe_lc (own := [("_", 4), ("whither", 5)]) (g := gTup K 2 (gCons (gName 4) (gCons (gName 5) gNil))) (tt := tYes) (te := tVar 5) rfl scSt.nd (pi_list (pe_meth0 (pv 0) T.cl T.hT GT hr T.bT .nil pass0)) (blkOk_by (N := nSt) (sc := defScope sStepsOf) (by decide +kernel))
          (fun _ _ _ _ _ => by exact (pg_tup rfl (pgs_cons (pg_name (i := 4) scSt.nd rfl (.inl rfl)) (pgs_cons (pg_name (i := 5) scSt.nd rfl (.inl rfl)) pgs_nil)))) (fun _ _ _ _ _ => pts_nil) (fun _ _ _ _ _ => pv 5)))
      (pss_cons (ps_for (passes_of rfl) rfl (pi_list (pv 1)) (pg_name (i := 3) scSt.nd rfl (.inl rfl))
        (pss_one (ps_if (pt_cmpR op_notIn_rng (pv 3) (pe_callTy cr_range1 (by rfl) mr (by decide +kernel) (pa_cons (pe_callB call_len_seq (by rfl) ml PySem.boot_len (pa_cons (pv 2) pa_nil)) pa_nil)) rfl)
          (pss_one (ps_raise rfl (takes_of rfl rfl rfl rfl) (SkE.pmk_own1 PySem.F.excBase_ValueError N.x N.g N.k (raises_own N.b N.t) (by exact rfl) (pe_joined (.cons pe_str (.cons (pe_fmt (pv 3)) .nil)))))) pss_nil)))
      (pss_one (ps_ret (pe_lc (own := [("number", 3)]) (g := gName 3) (tt := tYes) (te := tOp (rIxL K) (tVar 2) (tVar 3)) rfl scSt.nd (pi_list (pv 1)) (blkOk_by (N := nSt) (sc := defScope sStepsOf) (by decide +kernel))
          (fun _ _ _ _ _ => pg_name (i := 3) scSt.nd rfl (.inl rfl)) (fun _ _ _ _ _ => pts_nil) (fun _ _ _ _ _ => by exact (pe_ix ix_list (pv 2) (pv 3) (fun _ _ => rfl))))))), ?_⟩
    obtain ⟨dx, a0, ws, h1, h2, h3⟩ := id hC
    refine ⟨.ref x, rfl, x, dx, _, rfl, h1, ch_noT, x, many, ms, rfl, hC, fun lt wl nlt hM => ?_⟩
    have s1 : Same H (upd H lt (.lst wl)) := same_new nlt
    have lenW := hM.length
    -- whithers
    refine ⟨lt, rfl, ⟨_, SqL.of upd_same⟩, fun W nW => ?_⟩
    have hlt : (upd H lt (.lst wl)) lt = some (.lst wl) := upd_same
    generalize upd H lt (.lst wl) = H1 at s1 hM hlt nW ⊢
    refine lc_list (K := K) (a := lt) (xs := wl) (fun i H' => Same H1 H' ∧ ∃ qs : List Addr, qs.length = i ∧ H' W = some (.lst (qs.map V.ref)) ∧ Paired (fun q (m : Mv) => H1 q = some (.tup (m.2.map V.int))) qs (ms.take i))
      ⟨same_new nW, [], rfl, upd_same, .nil⟩ (fun i H' _ h => SqL.of (h.1 _ _ hlt)) ?_ ?_
    · rintro i v H2 hv ⟨s2, qs, el, hW, hp⟩
      obtain ⟨m, em, ⟨ta, tb, rfl, hta, htb⟩⟩ := hM.get' hv
      have hi : i < ms.length := by
        obtain ⟨q1, _⟩ := List.getElem?_eq_some_iff.mp em
        exact q1
      refine ⟨ta, _, rfl, SqT.of (s2 _ _ hta), rfl, .int m.1, [.ref tb], rfl, .ref tb, [], rfl, rfl, rfl, .ref tb, rfl, _, hW, by rw [List.length_map, el]; exact small8 (by omega), ?_⟩
      refine ⟨fun b u e => by rw [upd_ne (ne_of_none e nW)]; exact s2 _ _ e, qs ++ [tb], by rw [List.length_append, el]; rfl, by rw [upd_same, List.map_append]; rfl, ?_⟩
      rw [take_snoc em]
      exact paired_end (F := fun q (m : Mv) => H1 q = some (.tup (m.2.map V.int))) htb hp
    rintro H2 ⟨s2, qs, el, hW, hp⟩
    rw [lenW, List.take_length] at hp
    have s12 := s1.trans s2
    have hl2 := s12 _ _ hl
    have lenQ : qs.length = ms.length := hp.length
    refine ⟨.ref l, rfl, l, rfl, ⟨_, SqL.of hl2⟩, for_list (K := K) (a := l) (xs := ns.map V.int) (fun i σ H' => ∃ y3, σ = [some (.ref x), some (.ref l), some (.ref W), y3, none, none] ∧ Same H2 H' ∧ ∀ n ∈ ns.take i, ¬ BadNo ms n) ⟨none, rfl, Same.refl _, fun n hn => by simp at hn⟩ (fun i σ H' _ ⟨_, _, s3, _⟩ => SqL.of (s3 _ _ hl2)) ?_ ?_⟩
    · rintro i v σ H3 hv ⟨y3, rfl, s3, hbef⟩
      rw [List.getElem?_map] at hv
      obtain ⟨n, hn, rfl⟩ := Option.map_eq_some_iff.mp hv
      have hW3 := s3 _ _ hW
      refine ⟨.int n, rfl, .ref W, rfl, W, _, rfl, .inl (SqL.of hW3), _, rfl, fun r nr => ⟨n, r, 0, _, rfl, rfl, upd_same, _, rfl, ite2 (fun c => ?_) (fun c => ?_)⟩⟩
      · refine ⟨_, rfl, (by decide), .int n, rfl, .inr ⟨n, rfl, small n (List.mem_of_getElem? hn), _, rfl, ?_, ?_⟩⟩
        · have e := int_text_length_le (k := 1920) (by decide) (small n (List.mem_of_getElem? hn))
          have e2 : (Str.ofString (toString n)).length ≤ 1921 := by rw [PySem.ofString_length]; omega
          exact app_fits (by decide) e2
        · exact q _ ((s12.trans s3).trans (same_new nr))
      · refine ⟨some (.int n), rfl, s3.trans (same_new nr), fun z hz => ?_⟩
        rw [take_snoc hn] at hz
        rcases List.mem_append.mp hz with hz | hz
        · exact hbef z hz
        · rw [List.mem_singleton.mp hz]
          intro bd
          refine c ?_
          rw [List.length_map, lenQ]
          have e : decide (0 ≤ n ∧ n < (ms.length : Int)) = false := decide_eq_false bd
          rw [e]
          rfl
    · rintro σ H3 ⟨y3, rfl, s3, hbef⟩
      rw [List.length_map, List.take_length] at hbef
      obtain ⟨n, hn, bd⟩ := bad
      exact (hbef n hn bd).elim
end
section
variable {P : Program} {w : World} {K : PySem.W.Frag} {mg : Str → Option Value} {base : Heap} {C : Addr}
/-- drawn_from, where a number is no move -/
def spDfX (K : PySem.W.Frag) (C CN : Addr) : Sp := fun vs H _ E => ∃ (x b l : Addr) (many : Nat) (ms : List Mv) (ns : List Int), vs = [.ref x, .ref b, .ref l] ∧ ChainAt C H x many ms ∧ H l = some (.lst (ns.map V.int)) ∧ BadNos ms ns ∧ ms.length ≤ 8 ∧
  ∀ H', Same H H' → E (.ref CN) none H'
theorem ok_drawnFromX {f fS fP fT CN : Addr} {fd fdS fdP fdT : FuncData} (F : Fun K "drawn_from" "drawn_from" sDrawnFrom f fd) (FS : Fun K "steps_of" "steps_of" sStepsOf fS fdS) (bS : Binds K fdS ["chain", "numbers"] []) (gS : mg "steps_of" = some (.ref fS))
    (T : ChM K C fP fT fdP fdT) (N : OwnE K mg "NoSuch" CN) (mr : mg "range" = none) (ml : mg "len" = none) (mL : mg "list" = none) :
    FnOk P w K mg base (L2.CX P w) 3 f fd ["chain", "begins", "numbers"] (spDfX K C CN) := by
  have GS : FnOk P w K mg base (L2.CX P w) 2 fS fdS ["chain", "numbers"] (spStepsX C CN) := ok_stepsX FS T N mr ml mL
  refine F.okX scDf (fun vs H Q E h => ?_) (fun cdv A outer s H vs Q E hr h => ?_)
  · obtain ⟨x, b, l, many, ms, ns, rfl, _⟩ := h
    rfl
  · obtain ⟨x, b, l, many, ms, ns, rfl, hC, hl, bad, h8, q⟩ := h
    refine ⟨_, pss_cons (ps_set (i := 3) scDf.nd rfl (.inl rfl) (pe_call GS hr (by rfl) gS FS.kp bS .nil (passes_call (takes_of rfl rfl rfl rfl) (fun _ _ _ _ h => h)) (pa_cons (pv 0) (pa_cons (pv 2) pa_nil)))) pss_never, ?_⟩
    exact ⟨.ref x, rfl, .ref l, rfl, x, l, many, ms, ns, rfl, hC, hl, bad, h8, q⟩
end
section
variable {P : Program} {w : World} {K : PySem.W.Frag} {mg : Str → Option Value} {base : Heap}
/-! ### _law_numbers -/
def nNu : List Str := ["_law_d", "_law_moves", "_law_most", "_law_k"]
theorem scNu : FnScope ["_law_d", "_law_moves", "_law_most", "_law_k"] ["_law_d", "_law_moves", "_law_most"] (defScope sNumbers) := ⟨rfl, rfl, rfl, by decide +kernel, rfl, by decide +kernel, by decide +kernel⟩
def spNu (K : PySem.W.Frag) : Sp := fun vs H Q _ => ∃ (d l m : Addr) (most : Nat) (ns : List Int) (ws : List V), vs = [.ref d, .ref m, .int ((most : Nat) : Int)] ∧ Dc K l ns H d ∧ H m = some (.lst ws) ∧ m ≠ d ∧ 1 ≤ ws.length ∧ ws.length ≤ 8 ∧ most ≤ 900 ∧
  ∀ (r : Addr) (zs : List Int) H', Dc K l ns H' d → Gr d H H' → H r = none → r ≠ d → H' r = some (.lst (zs.map V.int)) → zs.length ≤ most → (∀ z ∈ zs, 0 ≤ z ∧ z < (ws.length : Int)) → Q (.ref r) H'
theorem small900 {n : Nat} (h : n ≤ 900) : n < sizeLine := Nat.lt_of_le_of_lt h (by decide)
theorem ok_numbers {f fC fD fO : Addr} {fd fdC fdD fdO : FuncData} (F : Fun K "_law_numbers" "_law_numbers" sNumbers f fd) (T : LawTxt K mg fC fD fO fdC fdD fdO) : FnOk P w K mg base CX0 3 f fd ["_law_d", "_law_moves", "_law_most"] (spNu K) := by
  have GO : FnOk P w K mg base CX0 2 fO fdO ["_law_d", "_law_most"] (spOff K) := T.off
  refine F.ok scNu (fun vs H Q E h => ?_) (fun cdv A outer s H vs Q E hr h => ?_)
  · obtain ⟨d, l, m, most, ns, ws, rfl, _⟩ := h
    rfl
  · obtain ⟨d, l, m, most, ns, ws, rfl, hD, hm, nmd, w1, w8, h900, q⟩ := h
    refine ⟨_, pss_one (ps_ret (pe_lc (own := [("_law_k", 3)]) (g := gName 3) (tt := tYes) (te := tCall (spOff K) [] E0 (tCons (tVar 0) (tCons (tCB (rLenSq K) (tCons (tVar 1) tNil)) tNil))) rfl scNu.nd
        (pi_range1 (by rfl) T.mr (pa_cons (pe_call GO hr (by rfl) T.gO T.FO.kp T.bO .nil pass0 (pa_cons (pv 0) (pa_cons (pe_op op_add (pv 2) pe_int) pa_nil))) pa_nil)) (blkOk_by (N := nNu) (sc := defScope sNumbers) (by decide +kernel))
        (fun _ _ _ _ _ => pg_name (i := 3) scNu.nd rfl (.inl rfl)) (fun _ _ _ _ _ => pts_nil)
        (fun _ _ _ _ _ => by exact (pe_call GO hr (by rfl) T.gO T.FO.kp T.bO .nil pass0 (pa_cons (pv 0) (pa_cons (pe_callB call_len_seq (by rfl) T.ml PySem.boot_len (pa_cons (pv 1) pa_nil)) pa_nil)))))), ?_⟩
    have m0 : (0 : Int) ≤ ((most : Nat) : Int) := Int.natCast_nonneg _
    refine ⟨.ref d, rfl, .int ((most : Nat) : Int), rfl, _, _, rfl, rfl, d, l, ns, _, rfl, hD, by omega, by omega, fun cnt H1 hc hD1 o1 => ?_⟩
    refine ⟨_, rfl, by omega, by omega, fun D nD => ?_⟩
    have nDd : D ≠ d := hD1.ne nD
    have hm1 : H1 m = some (.lst ws) := by rw [o1 m nmd]; exact hm
    have g1 : Gr d H H1 := (Gr.refl d H).off o1
    have nDH : H D = none := by
      rw [← o1 D nDd]
      exact nD
    refine lc_range (lo := 0) (n := ((cnt : Nat) : Int).toNat) (fun j H' => Dc K l ns H' d ∧ Gr d H1 H' ∧ ∃ zs : List Int, zs.length = j ∧ H' D = some (.lst (zs.map V.int)) ∧ ∀ z ∈ zs, 0 ≤ z ∧ z < (ws.length : Int))
      ⟨hD1.new nD, (Gr.refl d H1).new nD, [], rfl, upd_same, (fun _ z => nomatch z)⟩ ?_ ?_
    · rintro j H2 hj ⟨hD2, g2, zs, el, hz, hin⟩
      have hm2 := g2 m _ nmd hm1
      refine ⟨rfl, .ref d, rfl, .ref m, rfl, m, ws, rfl, .inl (SqL.of hm2), d, l, ns, _, rfl, hD2, by omega, by omega, fun x H3 hx hD3 o3 => ?_⟩
      have hz3 : H3 D = some (.lst (zs.map V.int)) := by rw [o3 D nDd]; exact hz
      refine ⟨_, hz3, by rw [List.length_map, el]; exact small900 (by omega), hD3.turn hD1 nD nDd, ?_, zs ++ [(x : Int)], by rw [List.length_append, el]; rfl, by rw [upd_same, List.map_append]; rfl, ?_⟩
      · intro b o nb e
        rw [upd_ne (ne_of_none e nD)]
        exact (g2.off o3) b o nb e
      · intro z hzz
        rcases List.mem_append.mp hzz with hzz | hzz
        · exact hin z hzz
        · have e : z = (x : Int) := by simpa using hzz
          omega
    · rintro H2 ⟨hD2, g2, zs, el, hz, hin⟩
      exact q D zs H2 hD2 (g1.trans g2) nDH nDd hz (by omega) hin
end
/-! ### _law_ends, _law_drawn: the mathematics -/
def rowN (ms : List Mv) (n : Int) : List Int := (ms.getD n.toNat (0, [])).2
def foldE (many : Nat) (ms : List Mv) (ns : List Int) : List Int := ns.foldl (fun L n => L.map (goK (rowN ms n))) ((List.range many).map fun (i : Nat) => (i : Int))
theorem foldE_snoc {many i : Nat} {ms : List Mv} {ns : List Int} {n : Int} (h : ns[i]? = some n) : foldE many ms (ns.take (i + 1)) = (foldE many ms (ns.take i)).map (goK (rowN ms n)) := by
  unfold foldE
  rw [take_snoc h, List.foldl_append]
  rfl
theorem goK_in {many : Nat} {f : List Int} {p : Int} (h : GoodRow many f) (h0 : 0 ≤ p) (h1 : p < (many : Int)) : 0 ≤ goK f p ∧ goK f p < (many : Int) := by
  have hl : p.toNat < f.length := by rw [h.1]; omega
  unfold goK
  rw [List.getD_eq_getElem?_getD, List.getElem?_eq_getElem hl]
  exact h.2 _ (List.getElem_mem hl)
theorem map_good {many : Nat} {f L : List Int} (hf : GoodRow many f) (hL : GoodRow many L) : GoodRow many (L.map (goK f)) := by
  refine ⟨by rw [List.length_map, hL.1], fun x hx => ?_⟩
  obtain ⟨p, hp, rfl⟩ := List.mem_map.mp hx
  exact goK_in hf (hL.2 p hp).1 (hL.2 p hp).2
theorem rowN_good {many : Nat} {ms : List Mv} {n : Int} (G : Good many ms) (h0 : 0 ≤ n) (h1 : n < (ms.length : Int)) : GoodRow many (rowN ms n) := by
  have hl : n.toNat < ms.length := by omega
  unfold rowN
  rw [List.getD_eq_getElem?_getD, List.getElem?_eq_getElem hl]
  exact (G.mv _ (List.getElem_mem hl)).2.2
theorem range_good (many : Nat) : GoodRow many ((List.range many).map fun (i : Nat) => (i : Int)) := by
  refine ⟨by rw [List.length_map, List.length_range], fun x hx => ?_⟩
  obtain ⟨i, hi, rfl⟩ := List.mem_map.mp hx
  have := List.mem_range.mp hi
  omega
theorem foldE_good {many : Nat} {ms : List Mv} (G : Good many ms) : ∀ {ns L : List Int}, (∀ n ∈ ns, 0 ≤ n ∧ n < (ms.length : Int)) → GoodRow many L → GoodRow many (ns.foldl (fun L n => L.map (goK (rowN ms n))) L)
  | [], _, _, h => h
  | n :: ns, L, hn, hL => by
    rw [List.foldl_cons]
    exact foldE_good G (fun z hz => hn z (List.mem_cons_of_mem _ hz)) (map_good (rowN_good G (hn n List.mem_cons_self).1 (hn n List.mem_cons_self).2) hL)
/-- goK of the identity row -/
theorem goK_id {many : Nat} {p : Int} (h0 : 0 ≤ p) (h1 : p < (many : Int)) : goK ((List.range many).map fun (i : Nat) => (i : Int)) p = p := by
  unfold goK
  rw [List.getD_eq_getElem?_getD, List.getElem?_map, List.getElem?_range (by omega)]
  show ((p.toNat : Nat) : Int) = p
  omega
theorem goK_map {many : Nat} {f g : List Int} {p : Int} (hg : GoodRow many g) (h0 : 0 ≤ p) (h1 : p < (many : Int)) : goK (g.map (goK f)) p = goK f (goK g p) := by
  have hl : p.toNat < g.length := by rw [hg.1]; omega
  unfold goK
  rw [List.getD_eq_getElem?_getD, List.getElem?_map, List.getD_eq_getElem?_getD (l := g), List.getElem?_eq_getElem hl]
  rfl
theorem rows_at {ms : List Mv} {ns : List Int} {k : Nat} {n : Int} (h : ns[k]? = some n) : (rowsOf ms ns).getD k [] = rowN ms n := by
  unfold rowsOf
  rw [List.getD_eq_getElem?_getD, List.getElem?_map, h]
  rfl
/-- walks that begin k steps back, walked from there -/
theorem fold_ends {many : Nat} {ms : List Mv} {ns : List Int} (G : Good many ms) (hN : NumsOk ms ns) : ∀ (k : Nat), k ≤ ns.length → ∀ L : List Int, GoodRow many L →
    ((ns.take k).reverse).foldl (fun L n => L.map (goK (rowN ms n))) L = L.map (goK (endsK many (rowsOf ms ns) k))
  | 0, _, L, hL => by
    show L = L.map (goK (endsK many (rowsOf ms ns) 0))
    have : L.map (goK (endsK many (rowsOf ms ns) 0)) = L.map id := List.map_congr_left fun p hp => goK_id (hL.2 p hp).1 (hL.2 p hp).2
    rw [this, List.map_id]
  | k + 1, hk, L, hL => by
    have hkl : k < ns.length := by omega
    have e := List.getElem?_eq_getElem hkl
    obtain ⟨n0, n1⟩ := hN.2 ns[k] (List.getElem_mem hkl)
    have gr := rowN_good G n0 n1
    have gE : GoodRow many (endsK many (rowsOf ms ns) k) := endsK_good (rowsOf_good G hN) k (by unfold rowsOf; rw [List.length_map]; omega)
    rw [take_snoc e, List.reverse_append, List.reverse_cons, List.reverse_nil, List.nil_append, List.singleton_append, List.foldl_cons, fold_ends G hN k (by omega) _ (map_good gr hL), List.map_map]
    refine List.map_congr_left fun p hp => ?_
    show goK (endsK many (rowsOf ms ns) k) (goK (rowN ms ns[k]) p) = goK (((rowsOf ms ns).getD k []).map (goK (endsK many (rowsOf ms ns) k))) p
    rw [rows_at e, goK_map gr (hL.2 p hp).1 (hL.2 p hp).2]
theorem foldE_back {many : Nat} {ms : List Mv} {ns : List Int} (G : Good many ms) (hN : NumsOk ms ns) (k : Nat) (hk : k ≤ ns.length) : foldE many ms ((ns.take k).reverse) = endsK many (rowsOf ms ns) k := by
  have gE : GoodRow many (endsK many (rowsOf ms ns) k) := endsK_good (rowsOf_good G hN) k (by unfold rowsOf; rw [List.length_map]; exact hk)
  unfold foldE
  rw [fold_ends G hN k hk _ (range_good many), List.map_map]
  apply List.ext_getElem?
  intro i
  rw [List.getElem?_map]
  by_cases hi : i < many
  · rw [List.getElem?_range hi, List.getElem?_eq_getElem (by rw [gE.1]; exact hi)]
    show some (goK (endsK many (rowsOf ms ns) k) (i : Int)) = _
    unfold goK
    rw [Int.toNat_natCast, List.getD_eq_getElem?_getD, List.getElem?_eq_getElem (by rw [gE.1]; exact hi)]
    rfl
  · rw [List.getElem?_eq_none_iff.mpr (by rw [List.length_range]; omega), List.getElem?_eq_none_iff.mpr (by rw [gE.1]; omega)]
    rfl
section
variable {P : Program} {w : World} {K : PySem.W.Frag} {mg : Str → Option Value} {base : Heap}
def nEn : List Str := ["_law_told", "_law_numbers_here", "_law_found", "_law_number", "_law_place"]
theorem scEn : FnScope ["_law_told", "_law_numbers_here", "_law_found", "_law_number", "_law_place"] ["_law_told", "_law_numbers_here"] (defScope sLawEnds) := ⟨rfl, rfl, rfl, by decide +kernel, rfl, by decide +kernel, by decide +kernel⟩
def spEn : Sp := fun vs H Q _ => ∃ (t m l : Addr) (many : Nat) (ws : List V) (ms : List Mv) (ns : List Int), vs = [.ref t, .ref l] ∧ ToldAt H t m many ws ms ∧ Good many ms ∧ H l = some (.lst (ns.map V.int)) ∧ NumsOk ms ns ∧
  ∀ e H', Same H H' → H' e = some (.lst ((foldE many ms ns).map V.int)) → Q (.ref e) H'
theorem ok_ends {f : Addr} {fd : FuncData} {k : Nat} (F : Fun K "_law_ends" "_law_ends" sLawEnds f fd) (mr : mg "range" = none) (mL : mg "list" = none) : FnOk P w K mg base CX0 (k + 1) f fd ["_law_told", "_law_numbers_here"] spEn := by
  refine F.ok scEn (fun vs H Q E h => ?_) (fun cdv A outer s H vs Q E hr h => ?_)
  · obtain ⟨t, m, l, many, ws, ms, ns, rfl, _⟩ := h
    rfl
  · obtain ⟨t, m, l, many, ws, ms, ns, rfl, ⟨ht, hm, hM⟩, G, hl, hN, q⟩ := h
    refine ⟨_, pss_cons (ps_set (i := 2) scEn.nd rfl (.inl rfl) (pe_listRg rfl (by rfl) mL (prg_1 (by rfl) mr (pe_ix ix_tup (pv 0) pe_int (fun _ _ => rfl)))))
      (pss_cons (ps_for PassesOwn.never rfl (pi_list (pv 1)) (pg_name (i := 3) scEn.nd rfl (.inr rfl))
        (pss_one (ps_setLc (i := 2) (own := [("_law_place", 4)]) (g := gName 4) (tt := tYes) (te := tOp (rIxT K) (tOp (rIxT K) (tOp (rIxL K) (tOp (rIxT K) (tVar 0) (tC (.int 1))) (tVar 3)) (tC (.int 1))) (tVar 4)) rfl scEn.nd rfl rfl (sw_true rfl rfl rfl (by decide +kernel)) (pi_list (pv 2)) (blkOk_by (N := nEn) (sc := defScope sLawEnds) (by decide +kernel))
          (fun _ _ _ _ _ => pg_name (i := 4) scEn.nd rfl (.inl rfl)) (fun _ _ _ _ _ => pts_nil)
          (fun _ _ _ _ _ => by exact (pe_ix ix_tup (pe_ix ix_tup (pe_ix ix_list (pe_ix ix_tup (pv 0) pe_int (fun _ _ => rfl)) (pv 3) (fun _ _ => rfl)) pe_int (fun _ _ => rfl)) (pv 4) (fun _ _ => rfl))))))
      (pss_one (ps_ret (pv 2)))), ?_⟩
    have m6 := G.m6
    have lenW := hM.length
    refine ⟨.ref t, rfl, t, _, 0, _, rfl, rfl, SqT.of ht, atI_nat (j := 0) rfl, _, rfl, RgOk.of_le (by omega) (by omega) (by omega) (by omega), fun e0 ne0 => ?_⟩
    rw [rg_ends]
    have s1 : Same H (upd H e0 (.lst (((List.range many).map fun (i : Nat) => (i : Int)).map V.int))) := same_new ne0
    refine ⟨.ref l, rfl, l, rfl, ⟨_, SqL.of (s1 _ _ hl)⟩, for_list (K := K) (a := l) (xs := ns.map V.int) (fun i σ H' => ∃ e y3, σ = [some (.ref t), some (.ref l), some (.ref e), y3, none] ∧ Same H H' ∧ H' e = some (.lst ((foldE many ms (ns.take i)).map V.int)))
      ⟨e0, none, rfl, s1, by rw [List.take_zero]; exact upd_same⟩ (fun i σ H' _ ⟨_, _, _, s, _⟩ => SqL.of (s _ _ hl)) ?_ ?_⟩
    · rintro i v σ H1 hv ⟨e, y3, rfl, s2, he⟩
      rw [List.getElem?_map] at hv
      obtain ⟨n, hn, rfl⟩ := Option.map_eq_some_iff.mp hv
      obtain ⟨n0, n1⟩ := hN.2 n (List.mem_of_getElem? hn)
      have hnm : n.toNat < ms.length := by omega
      obtain ⟨mv, emv, ⟨ta, tb, rfl, hta, htb⟩⟩ := hM.get (List.getElem?_eq_getElem hnm)
      have eR : rowN ms n = ms[n.toNat].2 := by
        unfold rowN
        rw [List.getD_eq_getElem?_getD, List.getElem?_eq_getElem hnm]
        rfl
      have gR := rowN_good G n0 n1
      have gL : GoodRow many (foldE many ms (ns.take i)) := foldE_good G (fun z hz => hN.2 z (List.mem_of_mem_take hz)) (range_good many)
      refine ⟨.ref e, rfl, e, rfl, ⟨_, SqL.of he⟩, fun D nD => ?_⟩
      refine lc_list (K := K) (a := e) (xs := (foldE many ms (ns.take i)).map V.int) (fun j H' => Same H1 H' ∧ H' D = some (.lst ((((foldE many ms (ns.take i)).map (goK (rowN ms n))).take j).map V.int)))
        ⟨same_new nD, by rw [List.take_zero]; exact upd_same⟩ (fun j H' _ h => SqL.of (h.1 _ _ he)) ?_ ?_
      · rintro j u H2 hu ⟨s3, hD⟩
        rw [List.getElem?_map] at hu
        obtain ⟨p, hp, rfl⟩ := Option.map_eq_some_iff.mp hu
        obtain ⟨p0, p1⟩ := gL.2 p (List.mem_of_getElem? hp)
        have hj : j < many := by
          obtain ⟨q1, _⟩ := List.getElem?_eq_some_iff.mp hp
          rw [gL.1] at q1
          exact q1
        have s23 := s2.trans s3
        have hpl : p.toNat < ms[n.toNat].2.length := by rw [← eR, gR.1]; omega
        have gp : (ms[n.toNat].2.map V.int)[p.toNat]? = some (.int (goK (rowN ms n) p)) := by
          rw [List.getElem?_map, List.getElem?_eq_getElem hpl]
          unfold goK
          rw [eR, List.getD_eq_getElem?_getD, List.getElem?_eq_getElem hpl]
          rfl
        refine ⟨rfl, .ref t, rfl, t, _, 1, _, rfl, rfl, SqT.of (s23 _ _ ht), atI_nat (j := 1) rfl, .int n, rfl, m, _, n, _, rfl, rfl, SqL.of (s23 _ _ hm), at_of (show n = ((n.toNat : Nat) : Int) by omega) emv, ta, _, 1, _, rfl, rfl, SqT.of (s23 _ _ hta), atI_nat (j := 1) rfl, ?_⟩
        refine ⟨.int p, rfl, tb, _, p, _, rfl, rfl, SqT.of (s23 _ _ htb), at_of (show p = ((p.toNat : Nat) : Int) by omega) gp, _, hD, ?_, fun b o eb => by rw [upd_ne (ne_of_none eb nD)]; exact s3 _ _ eb, ?_⟩
        · rw [List.length_map, List.length_take]
          exact small8 (Nat.le_trans (Nat.min_le_left _ _) (by omega))
        · rw [upd_same, take_snoc (x := goK (rowN ms n) p) (by rw [List.getElem?_map, hp]; rfl), List.map_append]
          rfl
      · rintro H2 ⟨s3, hD⟩
        rw [List.length_map, List.take_of_length_le (by rw [List.length_map]; exact Nat.le_refl _), ← foldE_snoc hn] at hD
        exact ⟨D, some (.int n), rfl, s2.trans s3, hD⟩
    · rintro σ H1 ⟨e, y3, rfl, s2, he⟩
      rw [List.length_map, List.take_length] at he
      exact ⟨.ref e, rfl, q e H1 s2 he⟩
end
section
variable {P : Program} {w : World} {K : PySem.W.Frag} {mg : Str → Option Value} {base : Heap}
theorem scLd : FnScope ["_law_told", "_law_numbers_here", "_law_far", "_law_ends_here"] ["_law_told", "_law_numbers_here"] (defScope sLawDrawn) := ⟨rfl, rfl, rfl, by decide +kernel, rfl, by decide +kernel, by decide +kernel⟩
def spLd : Sp := fun vs H Q _ => ∃ (t m l : Addr) (many : Nat) (ws : List V) (ms : List Mv) (ns : List Int), vs = [.ref t, .ref l] ∧ ToldAt H t m many ws ms ∧ Good many ms ∧ H l = some (.lst (ns.map V.int)) ∧ NumsOk ms ns ∧
  ∀ v H', Same H H' → DrawnAt H' v many (rowsOf ms ns) → Q v H'
theorem cut_toN (xs : List V) (n : Nat) : cutV xs none (some ((n : Nat) : Int)) = xs.take n := by
  unfold cutV
  rw [HT.sIx_none, HT.sIx_nat, List.drop_zero, Nat.sub_zero]
  by_cases h : n ≤ xs.length
  · rw [Nat.min_eq_left h]
  · rw [Nat.min_eq_right (by omega), List.take_of_length_le (Nat.le_refl _), List.take_of_length_le (by omega)]
theorem ok_ldrawn {f fE : Addr} {fd fdE : FuncData} (F : Fun K "_law_drawn" "_law_drawn" sLawDrawn f fd) (FE : Fun K "_law_ends" "_law_ends" sLawEnds fE fdE) (bE : Binds K fdE ["_law_told", "_law_numbers_here"] []) (gE : mg "_law_ends" = some (.ref fE))
    (mr : mg "range" = none) (mL : mg "list" = none) (ml : mg "len" = none) (mS : mg "set" = none) (mR : mg "reversed" = none) : FnOk P w K mg base CX0 2 f fd ["_law_told", "_law_numbers_here"] spLd := by
  have GE : FnOk P w K mg base CX0 1 fE fdE ["_law_told", "_law_numbers_here"] spEn := ok_ends FE mr mL
  refine F.ok scLd (fun vs H Q E h => ?_) (fun cdv A outer s H vs Q E hr h => ?_)
  · obtain ⟨t, m, l, many, ws, ms, ns, rfl, _⟩ := h
    rfl
  · obtain ⟨t, m, l, many, ws, ms, ns, rfl, hT, G, hl, hN, q⟩ := h
    refine ⟨_, pss_cons (ps_for PassesOwn.never rfl (pi_range1 (by rfl) mr (pa_cons (pe_op op_add (pe_callB call_len_seq (by rfl) ml PySem.boot_len (pa_cons (pv 1) pa_nil)) pe_int) pa_nil)) (pg_name (i := 2) scLd.nd rfl (.inl rfl))
        (pss_cons (ps_set (i := 3) scLd.nd rfl (.inl rfl) (pe_call GE hr (by rfl) gE FE.kp bE .nil pass0 (pa_cons (pv 0) (pa_cons (pe_lstRev rfl (by rfl) mL (by rfl) mR (pe_slice sl_list (pv 1) po_none (po_some (pv 2)))) pa_nil))))
        (pss_one (ps_if (pt_cmpR op_eq (pe_lenSetN (by rfl) ml (by rfl) mS (pv 3)) pe_int (nomark _)) (pss_one (ps_ret (pe_tup (pa_cons (pe_ix ix_list (pv 3) pe_int (fun _ _ => rfl)) (pa_cons (pv 2) pa_nil))))) pss_nil))))
      (pss_one (ps_ret pe_non)), ?_⟩
    have m6 := G.m6
    have m1 := G.m1
    have n1000 := hN.1
    have lenR : (rowsOf ms ns).length = ns.length := by
      unfold rowsOf
      rw [List.length_map]
    have gE' := endsK_good (rowsOf_good G hN)
    refine ⟨.ref l, rfl, l, _, rfl, .inl (SqL.of hl), _, _, rfl, rfl, _, rfl, by omega, by rw [List.length_map]; omega, ?_⟩
    have en : ((((ns.map V.int).length : Nat) : Int) + 1).toNat = ns.length + 1 := by rw [List.length_map]; omega
    refine for_range (lo := 0) (n := ((((ns.map V.int).length : Nat) : Int) + 1).toNat) (fun i σ H' => ∃ y2 y3, σ = [some (.ref t), some (.ref l), y2, y3] ∧ Same H H' ∧ ∀ j, j < i → one (endsK many (rowsOf ms ns) j) = false)
      ⟨none, none, rfl, Same.refl _, fun j hj => absurd hj (Nat.not_lt_zero _)⟩ ?_ ?_
    · rintro i σ H1 hi ⟨y2, y3, rfl, s1, hbef⟩
      rw [en] at hi
      have ei : (0 : Int) + ((i : Nat) : Int) = ((i : Nat) : Int) := Int.zero_add _
      refine ⟨.ref t, rfl, .ref l, rfl, .int (0 + ((i : Nat) : Int)), rfl, _, rfl, l, _, rfl, SqL.of (s1 _ _ hl), fun c nc => ?_⟩
      rw [ei, cut_toN, ← List.map_take]
      have s2 : Same H1 (upd H1 c (.lst ((ns.take i).map V.int))) := same_new nc
      refine ⟨c, _, rfl, SqL.of upd_same, fun r nr => ?_⟩
      rw [← List.map_reverse]
      have s3 : Same (upd H1 c (.lst ((ns.take i).map V.int))) (upd (upd H1 c (.lst ((ns.take i).map V.int))) r (.lst ((ns.take i).reverse.map V.int))) := same_new nr
      have s13 := (s1.trans s2).trans s3
      have hN2 : NumsOk ms (ns.take i).reverse := by
        refine ⟨by rw [List.length_reverse, List.length_take]; exact Nat.le_trans (Nat.min_le_right _ _) n1000, fun n hn => hN.2 n (List.mem_of_mem_take (List.mem_reverse.mp hn))⟩
      refine ⟨t, m, r, many, ws, ms, (ns.take i).reverse, rfl, hT.same s13, G, upd_same, hN2, fun e H2 s4 he => ?_⟩
      rw [foldE_back G hN i (by omega)] at he
      obtain ⟨gl, gx⟩ := gE' i (by omega)
      have h64 : (endsK many (rowsOf ms ns) i).length < 64 := by omega
      refine ⟨.ref e, rfl, e, _, rfl, SqL.of he, h64, rfl, _, rfl, ite2 (fun c1 => ?_) (fun c1 => ?_)⟩
      · have g0 : ((endsK many (rowsOf ms ns) i).map V.int)[0]? = some (.int (goK (endsK many (rowsOf ms ns) i) 0)) := by
          have h0 : 0 < (endsK many (rowsOf ms ns) i).length := by omega
          rw [List.getElem?_map, List.getElem?_eq_getElem h0]
          unfold goK
          rw [List.getD_eq_getElem?_getD, show (0 : Int).toNat = 0 from rfl, List.getElem?_eq_getElem h0]
          rfl
        refine ⟨.ref e, rfl, e, _, 0, _, rfl, rfl, SqL.of he, atI_nat (j := 0) g0, .int ((i : Nat) : Int), rfl, (by show 2 ≤ sizeLine; decide), fun t2 nt2 => ?_⟩
        exact q _ _ ((s13.trans s4).trans (same_new nt2)) (.inl ⟨i, t2, ⟨by omega, c1, hbef⟩, rfl, upd_same⟩)
      · refine ⟨some (.int ((i : Nat) : Int)), some (.ref e), rfl, s13.trans s4, fun j hj => ?_⟩
        by_cases hji : j < i
        · exact hbef j hji
        · have ej : j = i := by omega
          rw [ej]
          cases ho : one (endsK many (rowsOf ms ns) i) with
          | false => rfl
          | true => exact absurd ho c1
    · rintro σ H1 ⟨y2, y3, rfl, s1, hbef⟩
      exact q _ _ s1 (.inr ⟨fun j hj => hbef j (by rw [en]; omega), rfl⟩)
end
/-! ### walks between two others: the mathematics -/
theorem rank_inj {o : List Int} {x y : Int} (hx : x ∈ o) (hy : y ∈ o) (e : rankO o x = rankO o y) : x = y := by
  have h1 := List.getElem_idxOf (List.idxOf_lt_length_of_mem hx)
  have h2 := List.getElem_idxOf (List.idxOf_lt_length_of_mem hy)
  have e' : o.idxOf x = o.idxOf y := by
    unfold rankO at e
    omega
  rw [← h1, ← h2]
  exact getElem_congr_idx e'
theorem nodup_idx {o : List Int} (nd : o.Nodup) {i : Nat} {x : Int} (e : o[i]? = some x) : o.idxOf x = i := by
  obtain ⟨hi, ei⟩ := List.getElem?_eq_some_iff.mp e
  have hl := List.idxOf_lt_length_of_mem (List.mem_of_getElem? e)
  have ex := List.getElem_idxOf hl
  have pw := List.pairwise_iff_getElem.mp nd
  rcases Nat.lt_trichotomy (o.idxOf x) i with c | c | c
  · exact absurd (ex.trans ei.symm) (pw _ _ hl hi c)
  · exact c
  · exact absurd (ei.trans ex.symm) (pw _ _ hi hl c)
/-- what leaves places in their order -/
def Mono (o f : List Int) : Prop := ∀ p q, p ∈ o → q ∈ o → rankO o p ≤ rankO o q → rankO o (goK f p) ≤ rankO o (goK f q)
theorem mono_of {o row : List Int} (nd : o.Nodup) (h : keepsR row o = true) : Mono o row := by
  intro p q hp hq hle
  have hpw : (standsO row o).Pairwise (· ≤ ·) := of_decide_eq_true h
  have lp := List.idxOf_lt_length_of_mem hp
  have lq := List.idxOf_lt_length_of_mem hq
  have sp : (standsO row o)[o.idxOf p]? = some (rankO o (goK row p)) := standsO_at (by rw [List.getElem?_eq_getElem lp, List.getElem_idxOf lp])
  have sq : (standsO row o)[o.idxOf q]? = some (rankO o (goK row q)) := standsO_at (by rw [List.getElem?_eq_getElem lq, List.getElem_idxOf lq])
  obtain ⟨l1, e1⟩ := List.getElem?_eq_some_iff.mp sp
  obtain ⟨l2, e2⟩ := List.getElem?_eq_some_iff.mp sq
  have hle' : o.idxOf p ≤ o.idxOf q := by
    unfold rankO at hle
    omega
  rcases Nat.lt_or_eq_of_le hle' with c | c
  · have := List.pairwise_iff_getElem.mp hpw _ _ l1 l2 c
    rw [e1, e2] at this
    exact this
  · have : p = q := rank_inj hp hq (by unfold rankO; omega)
    rw [this]
    exact Int.le_refl _
theorem isOrd.nodup {many : Nat} {o : List Int} (h : isOrd many o) : o.Nodup := by
  have n : (ids many).Nodup := List.Pairwise.imp (fun {a b} (h : a < b) => (by omega : a ≠ b)) (ids_pair many)
  exact h.nodup_iff.mpr n
theorem mono_ends {many : Nat} {o : List Int} {rows : List (List Int)} (ho : isOrd many o) (hg : ∀ r ∈ rows, GoodRow many r) (hk : ∀ r ∈ rows, keepsR r o = true) : ∀ k, k ≤ rows.length → Mono o (endsK many rows k)
  | 0, _ => fun p q hp hq hle => by
    have ep : goK (endsK many rows 0) p = p := goK_zero (ho.mem.mp hp).1 (ho.mem.mp hp).2
    have eq : goK (endsK many rows 0) q = q := goK_zero (ho.mem.mp hq).1 (ho.mem.mp hq).2
    rw [ep, eq]
    exact hle
  | k + 1, hlt => fun p q hp hq hle => by
    have ih := mono_ends ho hg hk k (by omega)
    have er : rows.getD k [] = rows[k] := by rw [List.getD_eq_getElem?_getD, List.getElem?_eq_getElem (by omega)]; rfl
    have gr := hg rows[k] (List.getElem_mem (by omega))
    have kr := hk rows[k] (List.getElem_mem (by omega))
    have step : ∀ {z}, z ∈ o → goK (endsK many rows (k + 1)) z = goK (endsK many rows k) (goK rows[k] z) := fun {z} hz => by
      show goK ((rows.getD k []).map (goK (endsK many rows k))) z = _
      rw [er]
      exact goK_map gr (ho.mem.mp hz).1 (ho.mem.mp hz).2
    rw [step hp, step hq]
    exact ih _ _ (goK_ord gr ho hp) (goK_ord gr ho hq) (mono_of ho.nodup kr p q hp hq hle)
/-- two ends that meet hold all others between them -/
theorem between {many : Nat} {o : List Int} {rows : List (List Int)} (m1 : 1 ≤ many) (ho : isOrd many o) (hg : ∀ r ∈ rows, GoodRow many r) (hk : ∀ r ∈ rows, keepsR r o = true) {k : Nat} (hl : k ≤ rows.length) {lo hi : Int} (h0 : o[0]? = some lo) (h1 : o[many - 1]? = some hi) :
    one (seenK many rows [lo, hi] k) = one (endsK many rows k) ∧ (one (endsK many rows k) = true → goK (seenK many rows [lo, hi] k) 0 = goK (endsK many rows k) 0) := by
  have M := mono_ends ho hg hk k hl
  have gE := endsK_good hg k hl
  have mlo := List.mem_of_getElem? h0
  have mhi := List.mem_of_getElem? h1
  have lo' := ho.mem.mp mlo
  have hi' := ho.mem.mp mhi
  have seen : seenK many rows [lo, hi] k = [goK (endsK many rows k) lo, goK (endsK many rows k) hi] := rfl
  have inE : ∀ {z}, z ∈ o → goK (endsK many rows k) z ∈ endsK many rows k := fun {z} hz => by
    have hz' := ho.mem.mp hz
    have hlt : z.toNat < (endsK many rows k).length := by rw [gE.1]; omega
    unfold goK
    rw [List.getD_eq_getElem?_getD, List.getElem?_eq_getElem hlt]
    exact List.getElem_mem hlt
  have ofE : ∀ {v}, v ∈ endsK many rows k → ∃ z, z ∈ o ∧ goK (endsK many rows k) z = v := fun {v} hv => by
    obtain ⟨i, hi, e⟩ := List.getElem_of_mem hv
    refine ⟨(i : Int), ho.mem.mpr ⟨by omega, by rw [gE.1] at hi; omega⟩, ?_⟩
    unfold goK
    rw [List.getD_eq_getElem?_getD, Int.toNat_natCast, List.getElem?_eq_getElem hi]
    exact e
  have rk : ∀ {z}, z ∈ o → rankO o lo ≤ rankO o z ∧ rankO o z ≤ rankO o hi := fun {z} hz => by
    have nd := ho.nodup
    have lz := List.idxOf_lt_length_of_mem hz
    obtain ⟨l0, e0⟩ := List.getElem?_eq_some_iff.mp h0
    obtain ⟨l1, e1⟩ := List.getElem?_eq_some_iff.mp h1
    have i0 : o.idxOf lo = 0 := nodup_idx nd h0
    have i1 : o.idxOf hi = many - 1 := nodup_idx nd h1
    have lo := ho.len
    unfold rankO
    omega
  have key : goK (endsK many rows k) lo = goK (endsK many rows k) hi → ∀ v ∈ endsK many rows k, v = goK (endsK many rows k) lo := fun e v hv => by
    obtain ⟨z, hz, rfl⟩ := ofE hv
    obtain ⟨r1, r2⟩ := rk hz
    have a := M lo z mlo hz r1
    have b := M z hi hz mhi r2
    rw [← e] at b
    have hin : ∀ {y}, y ∈ o → goK (endsK many rows k) y ∈ o := fun {y} hy => ho.mem.mpr (gE.2 _ (inE hy))
    exact rank_inj (hin hz) (hin mlo) (by omega)
  have mem0 : (endsK many rows k) ≠ [] := fun z => by
    have := gE.1
    rw [z] at this
    have : (0 : Nat) = many := this
    omega
  have h0E : goK (endsK many rows k) 0 ∈ endsK many rows k := inE (ho.mem.mpr ⟨by omega, by omega⟩)
  constructor
  · by_cases c : goK (endsK many rows k) lo = goK (endsK many rows k) hi
    · have a : one (seenK many rows [lo, hi] k) = true := one_iff.mpr ⟨_, List.mem_cons_self, fun x hx => by
        rw [seen] at hx
        rcases List.mem_cons.mp hx with e | hx
        · exact e
        · rw [List.mem_singleton.mp hx]
          exact c.symm⟩
      have b : one (endsK many rows k) = true := one_iff.mpr ⟨_, inE mlo, key c⟩
      rw [a, b]
    · have a : one (seenK many rows [lo, hi] k) = false := by
        rw [Bool.eq_false_iff]
        intro z
        obtain ⟨v, hv, all⟩ := one_iff.mp z
        have x1 := all _ (by rw [seen]; exact List.mem_cons_self)
        have x2 := all _ (by rw [seen]; exact List.mem_cons_of_mem _ List.mem_cons_self)
        exact c (x1.trans x2.symm)
      have b : one (endsK many rows k) = false := by
        rw [Bool.eq_false_iff]
        intro z
        obtain ⟨v, hv, all⟩ := one_iff.mp z
        exact c ((all _ (inE mlo)).trans (all _ (inE mhi)).symm)
      rw [a, b]
  · intro z
    obtain ⟨v, hv, all⟩ := one_iff.mp z
    have : goK (seenK many rows [lo, hi] k) 0 = goK (endsK many rows k) lo := rfl
    rw [this, all _ (inE mlo), all _ h0E]
theorem DrawnB.ends {many : Nat} {o : List Int} {rows : List (List Int)} {H : Hp} {v : V} (m1 : 1 ≤ many) (ho : isOrd many o) (hg : ∀ r ∈ rows, GoodRow many r) (hk : ∀ r ∈ rows, keepsR r o = true) {lo hi : Int} (h0 : o[0]? = some lo) (h1 : o[many - 1]? = some hi) (h : DrawnB H v many rows [lo, hi]) : DrawnAt H v many rows := by
  have B := fun k (hl : k ≤ rows.length) => between m1 ho hg hk hl h0 h1
  rcases h with ⟨k, t, ⟨hl, a, b⟩, e, ht⟩ | ⟨n, e⟩
  · have o1 : one (endsK many rows k) = true := by rw [← (B k hl).1]; exact a
    refine .inl ⟨k, t, ⟨hl, o1, fun j hj => by rw [← (B j (by omega)).1]; exact b j hj⟩, e, ?_⟩
    rw [ht, (B k hl).2 o1]
  · exact .inr ⟨fun j hj => by rw [← (B j hj).1]; exact n j hj, e⟩
section
open PySem.W NdefX
variable {P : Program} {w : World} {K : PySem.W.Frag} {mg : Str → Option Value} {base : Heap}
/-! ### NotOrdered.__init__ -/
theorem scNO : NScope ["self", "move", "__class__"] ["self", "move"] ["__class__"] (defScope (inClass cNotOrdered 0)) := nscope_by (by decide +kernel)
def spNO (K : PySem.W.Frag) (C : Addr) : Sp := fun vs H Q _ => ∃ (x : Addr) (n : Int), vs = [.ref x, .int n] ∧ H x = some (exo x C none) ∧ n.natAbs ≤ 2000000 ∧ OexC K C ∧ PySem.W.findIn K (.ref C) "move" = some none ∧
  ∀ d H', (∀ b o, b ≠ x → H b = some o → H' b = some o) → H' x = some (exo x C (some d)) → H' d = some (exd d [("move", .int n)]) → H d = none → Q .non H'
theorem ok_no {f C cc cda : Addr} {dV kV doc pm ct oc : Value} {an od : Option Addr} {osl : Array (Option Value)} (T : SupE P K C cc cda)
    (lk : K.lookup f = some ⟨oc, od, .func (fnX "__init__" "NotOrdered.__init__" (defArgs (inClass cNotOrdered 0)) (defBody (inClass cNotOrdered 0)) (defScope (inClass cNotOrdered 0)) [("__class__", cc)] dV kV doc pm an (.ref cda) ct), osl⟩) (hcd : codeIn K (.ref cda) "NotOrdered.__init__" = true) :
    FnOk P w K mg base CX0 1 f (fnX "__init__" "NotOrdered.__init__" (defArgs (inClass cNotOrdered 0)) (defBody (inClass cNotOrdered 0)) (defScope (inClass cNotOrdered 0)) [("__class__", cc)] dV kV doc pm an (.ref cda) ct) ["self", "move"] (spNO K C) := by
  refine fn_sup T lk hcd scNO rfl rfl (by decide +kernel) (by decide +kernel) (fun env he => rfl) (fun env => rfl) (fun env => rfl) (fun env he => ?_) (fun env he => ?_) (fun vs H Q E h => ?_) (fun A outer s H vs Q E hr h => ?_)
  · unfold interactive
    rw [he]
    rfl
  · rfl
  · obtain ⟨x, n, rfl, _⟩ := h
    rfl
  · obtain ⟨x, n, rfl, hx, hn, TX, hno, q⟩ := h
    refine ⟨x, _, _, rfl, hx, pa_cons (pe_joined (.cons pe_str (.cons (pe_fmt (pv 1)) (.cons pe_str .nil)))) pa_nil, pss_one (ps_ost (pv 0) (pv 1)), ?_⟩
    have hg : n.natAbs.log2 < 1920 := log_small hn
    refine ⟨_, rfl, by decide, .int n, rfl, .inr ⟨_, rfl, hg, _, rfl, fitA (m := 100) (by decide) (int_len hg) (by decide), _, rfl, fitA (app_le (m := 100) (by decide) (int_len hg)) (n := 100) (by decide) (by decide), ?_⟩⟩
    refine ⟨by simp, hx, .int n, rfl, .ref x, rfl, x, C, rfl, TX, hno, .inl ⟨hx, fun dx ndx nxx => ?_⟩⟩
    refine q dx _ (fun b o nb e => ?_) upd_same (by rw [upd_ne nxx]; exact upd_same) ndx
    rw [upd_ne nb, upd_ne (ne_of_none e ndx)]
    exact e
end
section
variable {P : Program} {w : World} {K : PySem.W.Frag} {mg : Str → Option Value} {base : Heap} {C : Addr}
/-- an own error with an __init__ of its own, its field f -/
structure OwnI (K : PySem.W.Frag) (mg : Str → Option Value) (x : Str) (CE fI : Addr) (fd : FuncData) (ps : List Str) (fld : Str) : Prop where
  g : mg x = some (.ref CE)
  T : OexC K CE
  iC : PySem.W.findIn K (.ref CE) "__init__" = some (some (.ref fI))
  tI : PySem.W.typeIn K (.ref fI) = some (.type "function")
  no : PySem.W.findIn K (.ref CE) fld = some none
  b : Binds K fd ps []
/-! ### by_ends -/
theorem scBe : FnScope ["chain", "order", "numbers", "breaking"] ["chain", "order", "numbers"] (defScope sByEnds) := ⟨rfl, rfl, rfl, by decide +kernel, rfl, by decide +kernel, by decide +kernel⟩
def spBe (C : Addr) : Sp := fun vs H Q _ => ∃ (x l m : Addr) (many : Nat) (ms : List Mv) (o ns : List Int), vs = [.ref x, .ref l, .ref m] ∧ ChainAt C H x many ms ∧ Good many ms ∧ H l = some (.lst (o.map V.int)) ∧ isOrd many o ∧ H m = some (.lst (ns.map V.int)) ∧ NumsOk ms ns ∧ fbN ms o = none ∧
  ∀ v H', Same H H' → DrawnAt H' v many (rowsOf ms ns) → Q v H'
theorem atI_back {xs : List V} {n : Nat} {v : V} (hn : 1 ≤ n) (hl : xs.length = n) (h : xs[n - 1]? = some v) : atI xs (-1) = some v := by
  have ne : xs ≠ [] := fun z => by
    rw [z] at hl
    have : (0 : Nat) = n := hl
    omega
  have a : atI xs (-1) = atI (xs.dropLast ++ [xs.getLast ne]) (-1) := by rw [List.dropLast_concat_getLast ne]
  rw [a, atI_last, List.getLast_eq_getElem]
  subst hl
  rw [List.getElem?_eq_getElem (by omega)] at h
  exact h
theorem rows_keep {ms : List Mv} {o ns : List Int} (h : fbN ms o = none) (hN : NumsOk ms ns) : ∀ r ∈ rowsOf ms ns, keepsR r o = true := by
  intro r hr
  obtain ⟨n, hn, rfl⟩ := List.mem_map.mp hr
  obtain ⟨a, b⟩ := hN.2 n hn
  have hl : n.toNat < ms.length := by omega
  rw [List.getD_eq_getElem?_getD, List.getElem?_eq_getElem hl]
  exact fbN_none.mp h _ (List.getElem_mem hl)
theorem ok_be {f fB fD : Addr} {fd fdB fdD : FuncData} (F : Fun K "by_ends" "by_ends" sByEnds f fd) (DB : Df K mg "_first_breaking" sFirstBreaking ["chain", "order"] fB fdB) (GB : FnOk P w K mg base CX0 2 fB fdB ["chain", "order"] (spFb C)) (DDf : Df K mg "drawn_from" sDrawnFrom ["chain", "begins", "numbers"] fD fdD) (GDf : FnOk P w K mg base CX0 3 fD fdD ["chain", "begins", "numbers"] (spDf K C)) :
    FnOk P w K mg base CX0 4 f fd ["chain", "order", "numbers"] (spBe C) := by
  refine F.ok scBe (fun vs H Q E h => ?_) (fun cdv A outer s H vs Q E hr h => ?_)
  · obtain ⟨x, l, m, many, ms, o, ns, rfl, _⟩ := h
    rfl
  · obtain ⟨x, l, m, many, ms, o, ns, rfl, hC, G, hl, ho, hm, hN, hf, q⟩ := h
    have r2 : Room 2 _ := hr.mono (by decide)
    refine ⟨_, (pss_cons (ps_set (i := 3) scBe.nd rfl (.inl rfl) (pe_call GB r2 (by rfl) DB.g DB.F.kp DB.b .nil pass0 (pa_cons (pv 0) (pa_cons (pv 1) pa_nil))))
      (pss_cons (ps_if (pt_cmpR op_notN (pv 3) pe_non (nomark _)) pss_never pss_nil)
      (pss_one (ps_ret (pe_call GDf hr (by rfl) DDf.g DDf.F.kp DDf.b .nil pass0 (pa_cons (pv 0) (pa_cons (pe_lst (pa_cons (pe_ix ix_list (pv 1) pe_int (fun _ _ => rfl)) (pa_cons (pe_ix ix_list (pv 1) (pe_un un_neg pe_int) (fun _ _ => rfl)) pa_nil))) (pa_cons (pv 2) pa_nil)))))))), ?_⟩
    have m1 := G.m1
    have m6 := G.m6
    have lo := ho.len
    refine ⟨.ref x, rfl, .ref l, rfl, x, l, many, ms, o, rfl, hC, G, hl, ho, fun H1 s1 => ?_⟩
    have efb : fbV ms o = .non := by
      unfold fbV
      rw [hf]
    rw [efb]
    refine ⟨.non, rfl, rfl, false, by simp, iteF ?_⟩
    obtain ⟨p0, e0⟩ : ∃ p0, o[0]? = some p0 := ⟨_, List.getElem?_eq_getElem (by omega)⟩
    obtain ⟨p1, e1⟩ : ∃ p1, o[many - 1]? = some p1 := ⟨_, List.getElem?_eq_getElem (by omega)⟩
    have b0 := ho.mem.mp (List.mem_of_getElem? e0)
    have b1 := ho.mem.mp (List.mem_of_getElem? e1)
    have hl1 := s1 _ _ hl
    have eh : (o.map V.int)[many - 1]? = some (.int p1) := by rw [List.getElem?_map, e1]; rfl
    have e00 : (o.map V.int)[0]? = some (.int p0) := by rw [List.getElem?_map, e0]; rfl
    refine ⟨.ref x, rfl, .ref l, rfl, l, _, 0, _, rfl, rfl, SqL.of hl1, atI_nat (j := 0) e00, .ref l, rfl, 1, rfl, l, _, _, _, rfl, rfl, SqL.of hl1, atI_back m1 (by rw [List.length_map]; exact lo) eh, (by show 2 ≤ sizeLine; decide), fun B nB => ?_⟩
    have s2 := s1.trans (same_new (o := .lst [.int p0, .int p1]) nB)
    refine ⟨.ref m, rfl, x, B, m, many, ms, [p0, p1], ns, rfl, hC.same s2, G, SqL.of upd_same, (by show 2 < 64; decide), (by show 1 ≤ 2; decide), fun z hz => ?_, s2 _ _ hm, hN, fun v H2 s3 hv => ?_⟩
    · rcases List.mem_cons.mp hz with e | hz
      · rw [e]; exact b0
      · rw [List.mem_singleton.mp hz]; exact b1
    · exact q v H2 (s2.trans s3) (hv.ends m1 ho (rowsOf_good G hN) (rows_keep hf hN) e0 e1)
/-! refusals -/
/-- a move doesn't keep the order: told is the first -/
def spBeO (C CE : Addr) : Sp := fun vs H _ E => ∃ (x l m : Addr) (many : Nat) (ms : List Mv) (o : List Int) (k : Nat), vs = [.ref x, .ref l, .ref m] ∧ ChainAt C H x many ms ∧ Good many ms ∧ H l = some (.lst (o.map V.int)) ∧ isOrd many o ∧ fbN ms o = some k ∧
  ∀ d H', Same H H' → H' d = some (.xd [("move", .int (k : Int))]) → E (.ref CE) (some d) H'
theorem ok_beO {f fB fI CE : Addr} {fd fdB fdI : FuncData} (F : Fun K "by_ends" "by_ends" sByEnds f fd) (DB : Df K mg "_first_breaking" sFirstBreaking ["chain", "order"] fB fdB) (GB : FnOk P w K mg base CX0 2 fB fdB ["chain", "order"] (spFb C)) (N : OwnI K mg "NotOrdered" CE fI fdI ["self", "move"] "move")
    (GI : FnOk P w K mg base CX0 1 fI fdI ["self", "move"] (spNO K CE)) : FnOk P w K mg base (L2.CX P w) 4 f fd ["chain", "order", "numbers"] (spBeO C CE) := by
  refine F.okX scBe (fun vs H Q E h => ?_) (fun cdv A outer s H vs Q E hr h => ?_)
  · obtain ⟨x, l, m, many, ms, o, k, rfl, _⟩ := h
    rfl
  · obtain ⟨x, l, m, many, ms, o, k, rfl, hC, G, hl, ho, hf, q⟩ := h
    have r2 : Room 2 _ := hr.mono (by decide)
    refine ⟨_, pss_cons (ps_set (i := 3) scBe.nd rfl (.inl rfl) (pe_call GB r2 (by rfl) DB.g DB.F.kp DB.b .nil pass0 (pa_cons (pv 0) (pa_cons (pv 1) pa_nil))))
      (pss_cons (ps_if (pt_cmpR op_notN (pv 3) pe_non (nomark _))
          (pss_one (ps_raise rfl (takes_of rfl rfl rfl rfl) (pmk_oex N.T N.iC N.tI GI (hr.mono (by decide)) N.b .nil pass0 (by rfl) N.g (pa_cons (pv 3) pa_nil)))) pss_nil)
      pss_never), ?_⟩
    have l8 := G.l8
    refine ⟨.ref x, rfl, .ref l, rfl, x, l, many, ms, o, rfl, hC, G, hl, ho, fun H1 s1 => ?_⟩
    have efb : fbV ms o = .int (k : Int) := by
      unfold fbV
      rw [hf]
    rw [efb]
    have k8 : k < ms.length := (List.findIdx?_eq_some_iff_getElem.mp hf).1
    refine ⟨.int (k : Int), rfl, rfl, true, by simp, iteT ?_⟩
    refine ⟨.int (k : Int), rfl, by show 1 ≤ 1000; decide, fun a na => ?_⟩
    refine ⟨a, _, rfl, upd_same, by omega, N.T, N.no, fun d H' kp hx hd nd => ?_⟩
    have nda : d ≠ a := fun z => by rw [z, upd_same] at nd; cases nd
    have nd1 : H1 d = none := by rw [upd_ne nda] at nd; exact nd
    refine ⟨rfl, d, _, hx, hd, nd1, ?_⟩
    refine q d _ (fun b o' e => ?_) upd_same
    have e1 := s1 _ _ e
    have nba : b ≠ a := ne_of_none e1 na
    rw [upd_ne (ne_of_none e1 nd1), del_ne nba]
    exact kp b o' nba (by rw [upd_ne nba]; exact e1)
/-- a number is no move -/
def spBeN (C CN : Addr) : Sp := fun vs H _ E => ∃ (x l m : Addr) (many : Nat) (ms : List Mv) (o ns : List Int), vs = [.ref x, .ref l, .ref m] ∧ ChainAt C H x many ms ∧ Good many ms ∧ H l = some (.lst (o.map V.int)) ∧ isOrd many o ∧ H m = some (.lst (ns.map V.int)) ∧ BadNos ms ns ∧ fbN ms o = none ∧
  ∀ H', Same H H' → E (.ref CN) none H'
theorem ok_beN {f fB fD CN : Addr} {fd fdB fdD : FuncData} (F : Fun K "by_ends" "by_ends" sByEnds f fd) (DB : Df K mg "_first_breaking" sFirstBreaking ["chain", "order"] fB fdB) (GB : FnOk P w K mg base CX0 2 fB fdB ["chain", "order"] (spFb C)) (DDf : Df K mg "drawn_from" sDrawnFrom ["chain", "begins", "numbers"] fD fdD)
    (GDX : FnOk P w K mg base (L2.CX P w) 3 fD fdD ["chain", "begins", "numbers"] (spDfX K C CN)) : FnOk P w K mg base (L2.CX P w) 4 f fd ["chain", "order", "numbers"] (spBeN C CN) := by
  refine F.okX scBe (fun vs H Q E h => ?_) (fun cdv A outer s H vs Q E hr h => ?_)
  · obtain ⟨x, l, m, many, ms, o, ns, rfl, _⟩ := h
    rfl
  · obtain ⟨x, l, m, many, ms, o, ns, rfl, hC, G, hl, ho, hm, bad, hf, q⟩ := h
    have r2 : Room 2 _ := hr.mono (by decide)
    refine ⟨_, pss_cons (ps_set (i := 3) scBe.nd rfl (.inl rfl) (pe_call GB r2 (by rfl) DB.g DB.F.kp DB.b .nil pass0 (pa_cons (pv 0) (pa_cons (pv 1) pa_nil))))
      (pss_cons (ps_if (pt_cmpR op_notN (pv 3) pe_non (nomark _)) pss_never pss_nil)
      (pss_one (ps_ret (pe_call GDX hr (by rfl) DDf.g DDf.F.kp DDf.b .nil (passes_call (takes_of rfl rfl rfl rfl) (fun _ _ _ _ h => h)) (pa_cons (pv 0) (pa_cons (pe_lst (pa_cons (pe_ix ix_list (pv 1) pe_int (fun _ _ => rfl)) (pa_cons (pe_ix ix_list (pv 1) (pe_un un_neg pe_int) (fun _ _ => rfl)) pa_nil))) (pa_cons (pv 2) pa_nil))))))), ?_⟩
    have m1 := G.m1
    have m6 := G.m6
    have lo := ho.len
    refine ⟨.ref x, rfl, .ref l, rfl, x, l, many, ms, o, rfl, hC, G, hl, ho, fun H1 s1 => ?_⟩
    have efb : fbV ms o = .non := by
      unfold fbV
      rw [hf]
    rw [efb]
    refine ⟨.non, rfl, rfl, false, by simp, iteF ?_⟩
    obtain ⟨p0, e0⟩ : ∃ p0, o[0]? = some p0 := ⟨_, List.getElem?_eq_getElem (by omega)⟩
    obtain ⟨p1, e1⟩ : ∃ p1, o[many - 1]? = some p1 := ⟨_, List.getElem?_eq_getElem (by omega)⟩
    have hl1 := s1 _ _ hl
    have eh : (o.map V.int)[many - 1]? = some (.int p1) := by rw [List.getElem?_map, e1]; rfl
    have e00 : (o.map V.int)[0]? = some (.int p0) := by rw [List.getElem?_map, e0]; rfl
    refine ⟨.ref x, rfl, .ref l, rfl, l, _, 0, _, rfl, rfl, SqL.of hl1, atI_nat (j := 0) e00, .ref l, rfl, 1, rfl, l, _, _, _, rfl, rfl, SqL.of hl1, atI_back m1 (by rw [List.length_map]; exact lo) eh, (by show 2 ≤ sizeLine; decide), fun B nB => ?_⟩
    have s2 := s1.trans (same_new (o := .lst [.int p0, .int p1]) nB)
    exact ⟨.ref m, rfl, x, B, m, many, ms, ns, rfl, hC.same s2, s2 _ _ hm, bad, G.l8, fun H2 s3 => q H2 (s2.trans s3)⟩
end
section
variable {P : Program} {w : World} {K : PySem.W.Frag} {mg : Str → Option Value} {base : Heap} {C : Addr}
/-! ### _law_broken -/
theorem scBr : FnScope ["_law_told", "_law_order", "_law_number", "_law_ranks", "_law_place"] ["_law_told", "_law_order"] (defScope sLawBroken) := ⟨rfl, rfl, rfl, by decide +kernel, rfl, by decide +kernel, by decide +kernel⟩
def brI (ms : List Mv) (o : List Int) : Int := match fbN ms o with
  | none => -1
  | some k => (k : Int)
def spBr : Sp := fun vs H Q _ => ∃ (t m l : Addr) (many : Nat) (ws : List V) (ms : List Mv) (o : List Int), vs = [.ref t, .ref l] ∧ ToldAt H t m many ws ms ∧ Good many ms ∧ H l = some (.lst (o.map V.int)) ∧ isOrd many o ∧ ∀ H', Same H H' → Q (.int (brI ms o)) H'
theorem ok_broken {k : Nat} {f : Addr} {fd : FuncData} (F : Fun K "_law_broken" "_law_broken" sLawBroken f fd) (mr : mg "range" = none) (ml : mg "len" = none) (ms' : mg "sorted" = none) : FnOk P w K mg base CX0 (k + 1) f fd ["_law_told", "_law_order"] spBr := by
  refine F.ok scBr (fun vs H Q E h => ?_) (fun cdv A outer s H vs Q E hr h => ?_)
  · obtain ⟨t, m, l, many, ws, ms, o, rfl, _⟩ := h
    rfl
  · obtain ⟨t, m, l, many, ws, ms, o, rfl, hT, G, hl, ho, q⟩ := h
    have hu := hu64 hr
    refine ⟨_, (pss_cons (ps_for PassesOwn.never rfl (pi_range1 (by rfl) mr (pa_cons (pe_callB call_len_seq (by rfl) ml PySem.boot_len (pa_cons (pe_ix ix_tup (pv 0) pe_int (fun _ _ => rfl)) pa_nil)) pa_nil)) (pg_name (i := 2) scBr.nd rfl (.inr rfl)) (pss_cons (ps_setLc (i := 3) (own := [("_law_place", 4)]) (g := gName 4) (tt := tYes) (te := (tBM K "list" (rIndex K) (tVar 1) (tCons (tOp (rIxT K) (tOp (rIxT K) (tOp (rIxL K) (tOp (rIxT K) (tVar 0) (tC (.int 1))) (tVar 2)) (tC (.int 1))) (tVar 4)) tNil))) rfl scBr.nd rfl rfl (sw_true rfl rfl rfl (by decide +kernel)) (pi_list (pv 1)) (blkOk_by (N := ["_law_told", "_law_order", "_law_number", "_law_ranks", "_law_place"]) (sc := defScope sLawBroken) (by decide +kernel)) (fun _ _ _ _ _ => by exact (pg_name (i := 4) scBr.nd rfl (.inl rfl))) (fun _ _ _ _ _ => pts_nil) (fun _ _ _ _ _ => by exact (pe_bm PySem.F.plainAttrs_list PySem.F.slot_list_index PySem.F.type_list_index mt_index (pv 1) (pa_cons (pe_ix ix_tup (pe_ix ix_tup (pe_ix ix_list (pe_ix ix_tup (pv 0) pe_int (fun _ _ => rfl)) (pv 2) (fun _ _ => rfl)) pe_int (fun _ _ => rfl)) (pv 4) (fun _ _ => rfl)) pa_nil))))
      (pss_one (ps_if (pt_cmpR (op_neD hu) (pv 3) (pe_callB cr_sorted (by rfl) ms' (by decide +kernel) (pa_cons (pv 3) pa_nil)) (nomark _)) (pss_one (ps_ret (pv 2))) pss_nil))))
      (pss_one (ps_ret (pe_un un_neg pe_int)))), ?_⟩
    have m6 := G.m6
    have l8 := G.l8
    have lo := ho.len
    have lenW := hT.2.2.length
    refine ⟨.ref t, rfl, t, _, 1, _, rfl, rfl, SqT.of hT.1, atI_nat (j := 1) rfl, m, ws, rfl, .inl (SqL.of hT.2.1), _, rfl, by omega, by omega, ?_⟩
    refine for_range (lo := 0) (n := ((ws.length : Nat) : Int).toNat) (fun i σ H' => ∃ y2 y3, σ = [some (.ref t), some (.ref l), y2, y3, none] ∧ Same H H' ∧ ∀ j mv, j < i → ms[j]? = some mv → keepsR mv.2 o = true) ⟨none, none, rfl, Same.refl _, fun j mv h => absurd h (Nat.not_lt_zero _)⟩ ?_ ?_
    · rintro i σ H1 hi ⟨y2, y3, rfl, s1, hbef⟩
      rw [Int.toNat_natCast] at hi
      obtain ⟨mv, emv⟩ : ∃ mv, ms[i]? = some mv := ⟨_, List.getElem?_eq_getElem (by omega)⟩
      obtain ⟨v, ev, hmv⟩ := hT.2.2.get emv
      have gm := G.mv mv (List.mem_of_getElem? emv)
      have hl1 := s1 _ _ hl
      obtain ⟨ta, tb, rfl, hta, htb⟩ := hmv.same (Same.tups s1)
      refine ⟨.ref l, rfl, l, rfl, ⟨_, SqL.of hl1⟩, fun D nD => ?_⟩
      refine lc_list (K := K) (a := l) (xs := o.map V.int) (fun e H' => Same H1 H' ∧ H' D = some (.lst (((standsO mv.2 o).take e).map V.int))) ⟨same_new nD, by rw [List.take_zero]; exact upd_same⟩ (fun e H' _ h => SqL.of (h.1 _ _ hl1)) ?_ ?_
      · rintro e v H2 hv ⟨s2, hD⟩
        rw [List.getElem?_map] at hv
        obtain ⟨p, hp, rfl⟩ := Option.map_eq_some_iff.mp hv
        have hpo := List.mem_of_getElem? hp
        obtain ⟨p0, p1⟩ := ho.mem.mp hpo
        have hg := goK_ord gm.2.2 ho hpo
        have s12 := s1.trans s2
        refine ⟨rfl, .ref l, rfl, .inl ⟨rfl, _, SqL.of (s2 _ _ hl1)⟩, .ref t, rfl, t, _, 1, _, rfl, rfl, SqT.of (s12 _ _ hT.1), atI_nat (j := 1) rfl, .int (0 + (i : Int)), rfl, m, _, _, _, rfl, rfl, SqL.of (s12 _ _ hT.2.1), at_of (show (0 + (i : Int)) = ((i : Nat) : Int) by omega) ev, ta, _, 1, _, rfl, rfl, SqT.of (s2 _ _ hta), atI_nat (j := 1) rfl, .int p, rfl, tb, _, p, _, rfl, rfl, SqT.of (s2 _ _ htb), at_of (show p = ((p.toNat : Nat) : Int) by omega) (at_goK p0 (by rw [gm.2.2.1]; omega)), ?_⟩
        refine ⟨l, _, .int (goK mv.2 p), o.idxOf (goK mv.2 p), _, rfl, rfl, SqL.of (s2 _ _ hl1), rfl, flat_ints o, ix_at hg, beq_self_eq_true _, fun m z hm e => ix_before hm e, ?_⟩
        refine ⟨_, hD, by rw [List.length_map, List.length_take]; exact small8 (Nat.le_trans (Nat.min_le_right _ _) (by unfold standsO; rw [List.length_map]; omega)), fun b u e => by rw [upd_ne (ne_of_none e nD)]; exact s2 _ _ e, ?_⟩
        rw [upd_same, take_snoc (standsO_at hp), List.map_append]
        rfl
      · rintro H2 ⟨s2, hD⟩
        rw [List.length_map, List.take_of_length_le (by unfold standsO; rw [List.length_map]; exact Nat.le_refl _)] at hD
        refine ⟨.ref D, rfl, .ref D, rfl, D, _, rfl, SqL.of hD, by unfold standsO; rw [List.length_map]; omega, fun zs L hp hs nL => ?_⟩
        have s3 := same_new (o := .lst (zs.map V.int)) nL
        refine ⟨_, _, dp_lst (s3 _ _ hD), dp_lst upd_same, (Sh.lst _).shaped (by decide), (Sh.lst _).shaped (by decide), ?_⟩
        rw [eqv_lst]
        have e : decide (standsO mv.2 o = zs) = keepsR mv.2 o := by
          unfold keepsR
          refine decide_eq_decide.mpr ⟨fun e => ?_, fun h => ?_⟩
          · rw [e]
            exact hs
          · exact sort_same hp.symm h hs
        rw [e]
        cases hk : keepsR mv.2 o with
        | true =>
          refine ⟨false, rfl, iteF ⟨_, _, rfl, (s1.trans s2).trans s3, fun j mv' hj e => ?_⟩⟩
          by_cases c : j < i
          · exact hbef j mv' c e
          · have ej : j = i := by omega
            rw [ej, emv] at e
            cases e
            exact hk
        | false =>
          refine ⟨true, rfl, iteT ⟨.int (0 + (i : Int)), rfl, ?_⟩⟩
          have e2 : brI ms o = 0 + (i : Int) := by
            unfold brI fbN
            rw [findIdx_at (p := fun mv => !keepsR mv.2 o) emv (by rw [hk]; rfl) (fun j y hj e => by rw [hbef j y hj e]; rfl)]
            show (i : Int) = _
            omega
          have := q _ ((s1.trans s2).trans s3)
          rw [e2] at this
          exact this
    · rintro σ H1 ⟨y2, y3, rfl, s1, hbef⟩
      rw [Int.toNat_natCast] at hbef
      have e2 : brI ms o = -1 := by
        unfold brI
        rw [fbN_none.mpr fun mv hm => ?_]
        obtain ⟨j, hj, e⟩ := List.getElem_of_mem hm
        exact hbef j mv (by omega) (by rw [← e]; exact List.getElem?_eq_getElem hj)
      have := q H1 s1
      rw [e2] at this
      exact ⟨1, rfl, this⟩
/-! ### _law_word -/
structure RefW (K : PySem.W.Frag) (mg : Str → Option Value) (CL CO CN c1 c2 c3 c4 c5 : Addr) : Prop where
  gL : mg "LongError" = some (.ref CL)
  exO : PySem.W.exmOne K (.ref CO) (.ref CL) = some true
  exN : PySem.W.exmOne K (.ref CN) (.ref CL) = some true
  gO : mg "NotOrdered" = some (.ref CO)
  gN : mg "NoSuch" = some (.ref CN)
  EO : ExcC K CO
  EN : ExcC K CN
  g1 : mg "BadChain" = some (.ref c1)
  g2 : mg "BadText" = some (.ref c2)
  g3 : mg "NeverOne" = some (.ref c3)
  g4 : mg "NotOne" = some (.ref c4)
  g5 : mg "TooMany" = some (.ref c5)
  noO : PySem.W.kitAny K (.ref CO) [.ref c1, .ref c2, .ref c3, .ref c4, .ref c5] = some false
  noN : PySem.W.kitAny K (.ref CN) [.ref c1, .ref c2, .ref c3, .ref c4, .ref c5] = some false
  valO : PySem.W.kitOne K (.ref CO) (.type "ValueError") = some true
  valN : PySem.W.kitOne K (.ref CN) (.type "ValueError") = some true
  on : PySem.W.kitOne K (.ref CO) (.ref CN) = some false
  nn : PySem.W.kitOne K (.ref CN) (.ref CN) = some true
  no : PySem.W.kitOne K (.ref CN) (.ref CO) = some false
  fld : PySem.W.findIn K (.ref CO) "move" = some none
  mi : mg "isinstance" = none
  mv : mg "ValueError" = none
  mb : mg "bool" = none
theorem excXf {K : PySem.W.Frag} {D : Addr} (E : ExcC K D) : XfC K D := ⟨E.hg, E.hk, E.hs, E.hd⟩
theorem pss_or {X : Cx} {ss : List Stmt} {t1 t2 : TS} {p1 p2 : Prop} (h1 : p1 → PSs X ss t1) (h2 : p2 → PSs X ss t2) : PSs X ss (fun D σ H => (p1 ∧ t1 D σ H) ∨ (p2 ∧ t2 D σ H)) := ⟨fun pins s σ H D I hh => by
  rcases hh with hh | hh
  · exact (h1 hh.1).run pins s σ H D I hh.2
  · exact (h2 hh.1).run pins s σ H D I hh.2⟩
theorem scWd : FnScope ["_law_chain_here", "_law_order", "_law_numbers_here", "_law_broken_here", "e"] ["_law_chain_here", "_law_order", "_law_numbers_here", "_law_broken_here"] (defScope sLawWord) := ⟨rfl, rfl, rfl, by decide +kernel, rfl, by decide +kernel, by decide +kernel⟩
def spWd (C : Addr) : Sp := fun vs H Q _ => ∃ (x l m : Addr) (many : Nat) (ms : List Mv) (o ns : List Int) (br : Int), vs = [.ref x, .ref l, .ref m, .int br] ∧ ChainAt C H x many ms ∧ Good many ms ∧ H l = some (.lst (o.map V.int)) ∧ isOrd many o ∧ H m = some (.lst (ns.map V.int)) ∧
  ((∃ k, fbN ms o = some k ∧ br = (k : Int) ∧ ∀ H', (∀ b u, H b = some u → H' b = some u) → Q (.str "broken") H') ∨ (fbN ms o = none ∧ BadNos ms ns ∧ ∀ H', (∀ b u, H b = some u → H' b = some u) → Q (.str "no") H'))
def tpl5 (c1 c2 c3 c4 c5 : Addr) : TE := tTup (tCons (tC (.ref c1)) (tCons (tC (.ref c2)) (tCons (tC (.ref c3)) (tCons (tC (.ref c4)) (tCons (tC (.ref c5)) tNil)))))
def tSO (K : PySem.W.Frag) (CO CN c1 c2 c3 c4 c5 : Addr) (a : Addr) (cls : Value) (d : Option Addr) : TS :=
  tSeq (tIfS (tOr (tNot (tB (tCB (rIsD K CO a (d.getD 0)) (tCons (tVar 4) (tCons (tC (.ty "ValueError")) tNil))))) (tB (tCB (rExD K CO a (d.getD 0)) (tCons (tVar 4) (tCons (tpl5 c1 c2 c3 c4 c5) tNil))))) (tRet (tC (.str "other"))) tNext)
    (tSeq (tIfS (tB (tCB (rIsD K CO a (d.getD 0)) (tCons (tVar 4) (tCons (tC (.ref CN)) tNil)))) tNever tNext)
      (tRet (tIf (tAnd (tNot (tB (tCB (rIsi K) (tCons (tXf a cls d CO "move" (tVar 4)) (tCons (tC (.ty "bool")) tNil))))) (tTest (tOp rEq (tXf a cls d CO "move" (tVar 4)) (tVar 3)))) (tC (.str "broken")) (tC (.str "other")))))
def tSN (K : PySem.W.Frag) (CO CN c1 c2 c3 c4 c5 : Addr) (a : Addr) : TS :=
  tSeq (tIfS (tOr (tNot (tB (tCB (rIsE K CN a) (tCons (tVar 4) (tCons (tC (.ty "ValueError")) tNil))))) (tB (tCB (rExT K CN a) (tCons (tVar 4) (tCons (tpl5 c1 c2 c3 c4 c5) tNil))))) (tRet (tC (.str "other"))) tNext)
    (tSeq (tIfS (tB (tCB (rIsE K CN a) (tCons (tVar 4) (tCons (tC (.ref CN)) tNil)))) (tRet (tIf (tB (tCB (rIsE K CN a) (tCons (tVar 4) (tCons (tC (.ref CO)) tNil)))) (tC (.str "other")) (tC (.str "no")))) tNext) tNever)
theorem ok_word {f fB CL CO CN c1 c2 c3 c4 c5 : Addr} {fd fdB : FuncData} (F : Fun K "_law_word" "_law_word" sLawWord f fd) (R : RefW K mg CL CO CN c1 c2 c3 c4 c5)
    (kB : PySem.W.keepIn K (.ref fB) = true) (bB : Binds K fdB ["chain", "order", "numbers"] []) (gB : mg "by_ends" = some (.ref fB)) (G1 : FnOk P w K mg base (L2.CX P w) 4 fB fdB ["chain", "order", "numbers"] (spBeO C CO)) (G2 : FnOk P w K mg base (L2.CX P w) 4 fB fdB ["chain", "order", "numbers"] (spBeN C CN)) :
    FnOk P w K mg base CX0 5 f fd ["_law_chain_here", "_law_order", "_law_numbers_here", "_law_broken_here"] (spWd C) := by
  have GB := FnOk.or G1 G2
  refine F.ok scWd (fun vs H Q E h => ?_) (fun cdv A outer s H vs Q E hr h => ?_)
  · obtain ⟨x, l, m, many, ms, o, ns, br, rfl, _⟩ := h
    rfl
  · obtain ⟨x, l, m, many, ms, o, ns, br, rfl, hC, G, hl, ho, hm, hcase⟩ := h
    refine ⟨_, pss_cons (ps_try_as (i := 4) (tb := fun W => tDrop (tCallS (fun vs H Q E => spBeO C CO vs H Q E ∨ spBeN C CN vs H Q E) (WE W) (tCons (tVar 0) (tCons (tVar 1) (tCons (tVar 2) tNil)))))
        (ts := fun a cls d D σ H => ((cls = .ref CO ∧ d = some (d.getD 0)) ∧ tSO K CO CN c1 c2 c3 c4 c5 a cls d D σ H) ∨ ((cls = .ref CN ∧ d = none) ∧ tSN K CO CN c1 c2 c3 c4 c5 a D σ H)) (Wout := fun _ _ _ _ => False) rfl rfl scWd.nd rfl rfl ⟨rfl, by decide, .inl R.gL⟩ takes0
        (fun W pn xe tk _ => pss_one (ps_expr (by exact (pe_callS GB hr (by rfl) gB kB bB (fun σ => passAt tk σ) (by exact (pa_cons (pv 0) (pa_cons (pv 1) (pa_cons (pv 2) pa_nil))))))))
        (fun a oe cls d pn hz hf => pss_or (fun hp => by
          obtain ⟨rfl, hd⟩ := hp
          cases d with
          | none => cases hd
          | some dd =>
            exact (pss_cons (ps_if (PW.pt (pw_or (pt_not (pt_val (pe_callB (call_isD R.EO hz hf) (by rfl) R.mi (by decide +kernel) (pa_cons (pv 4) (pa_cons (pe_bltn (v := .ty "ValueError") (by rfl) R.mv (by decide +kernel) rfl) pa_nil)))))
                (pw_or1 (pt_val (pe_callB (call_exD R.EO hz hf) (by rfl) R.mi (by decide +kernel) (pa_cons (pv 4) (pa_cons (pe_tup (pa_cons (pe_glob (v := .ref c1) (by rfl) R.g1 rfl) (pa_cons (pe_glob (v := .ref c2) (by rfl) R.g2 rfl) (pa_cons (pe_glob (v := .ref c3) (by rfl) R.g3 rfl) (pa_cons (pe_glob (v := .ref c4) (by rfl) R.g4 rfl) (pa_cons (pe_glob (v := .ref c5) (by rfl) R.g5 rfl) pa_nil)))))) pa_nil))))))) (pss_one (ps_ret pe_str)) pss_nil)
              (pss_cons (ps_if (pt_val (pe_callB (call_isD R.EO hz hf) (by rfl) R.mi (by decide +kernel) (pa_cons (pv 4) (pa_cons (pe_glob (v := .ref CN) (by rfl) R.gN rfl) pa_nil)))) pss_never pss_nil)
              (pss_one (ps_ret (pe_ifExp (PW.pt (pw_and (pt_not (pt_val (pe_callB call_isi (by rfl) R.mi (by decide +kernel) (pa_cons (pe_xf (excXf R.EO) R.fld hz hf (pv 4)) (pa_cons (pe_bltn (v := .ty "bool") (by rfl) R.mb (by decide +kernel) rfl) pa_nil)))))
                (pw_and1 (pt_cmpR op_eq (pe_xf (excXf R.EO) R.fld hz hf (pv 4)) (pv 3) (nomark _))))) pe_str pe_str))))))
          (fun hp => by
          obtain ⟨rfl, rfl⟩ := hp
          exact (pss_cons (ps_if (PW.pt (pw_or (pt_not (pt_val (pe_callB (call_isE R.EN hz hf) (by rfl) R.mi (by decide +kernel) (pa_cons (pv 4) (pa_cons (pe_bltn (v := .ty "ValueError") (by rfl) R.mv (by decide +kernel) rfl) pa_nil)))))
                (pw_or1 (pt_val (pe_callB (call_exT R.EN hz hf) (by rfl) R.mi (by decide +kernel) (pa_cons (pv 4) (pa_cons (pe_tup (pa_cons (pe_glob (v := .ref c1) (by rfl) R.g1 rfl) (pa_cons (pe_glob (v := .ref c2) (by rfl) R.g2 rfl) (pa_cons (pe_glob (v := .ref c3) (by rfl) R.g3 rfl) (pa_cons (pe_glob (v := .ref c4) (by rfl) R.g4 rfl) (pa_cons (pe_glob (v := .ref c5) (by rfl) R.g5 rfl) pa_nil)))))) pa_nil))))))) (pss_one (ps_ret pe_str)) pss_nil)
              (pss_cons (ps_if (pt_val (pe_callB (call_isE R.EN hz hf) (by rfl) R.mi (by decide +kernel) (pa_cons (pv 4) (pa_cons (pe_glob (v := .ref CN) (by rfl) R.gN rfl) pa_nil)))) (pss_one (ps_ret (pe_ifExp (pt_val (pe_callB (call_isE R.EN hz hf) (by rfl) R.mi (by decide +kernel) (pa_cons (pv 4) (pa_cons (pe_glob (v := .ref CO) (by rfl) R.gO rfl) pa_nil)))) pe_str pe_str))) pss_nil) pss_never)))))
      (pss_one (ps_ret pe_str)), ?_⟩
    rcases hcase with ⟨k, hf, rfl, q⟩ | ⟨hf, bad, q⟩
    · refine ⟨.ref x, rfl, .ref l, rfl, .ref m, rfl, .inl ⟨x, l, m, many, ms, o, k, rfl, hC, G, hl, ho, hf, fun d H1 s1 hd => ?_⟩⟩
      refine ⟨true, R.exO, fun _ a na => .inl ⟨⟨rfl, rfl⟩, ?_⟩, fun z => nomatch z⟩
      refine ⟨.ref a, rfl, .ty "ValueError", _, true, _, rfl, (fun u r => r), R.valO, hd, true, rfl, ?_⟩
      refine ⟨.ref a, rfl, (by show 5 ≤ sizeLine; decide), fun tp ntp => ?_⟩
      have s2 := same_new (o := .tup [.ref c1, .ref c2, .ref c3, .ref c4, .ref c5]) ntp
      have hd2 := s2 _ _ hd
      refine ⟨tp, _, _, false, _, rfl, upd_same, .cons (.own _) (.cons (.own _) (.cons (.own _) (.cons (.own _) (.cons (.own _) .nil)))), R.noO, hd2, false, rfl, iteF ?_⟩
      refine ⟨.ref a, rfl, .ref CN, _, false, _, rfl, (fun u r => r), R.on, hd2, false, rfl, iteF ?_⟩
      refine ⟨.ref a, rfl, rfl, rfl, d, _, .int (k : Int), rfl, hd2, rfl, .int (k : Int), .ty "bool", .type "int", .type "bool", false, rfl, .ty _, .base (.int _), kit_ty (by decide +kernel), false, rfl, ?_⟩
      refine ⟨.ref a, rfl, rfl, rfl, d, _, .int (k : Int), rfl, hd2, rfl, .int (k : Int), rfl, rfl, true, by simp, ?_⟩
      exact q _ fun b u e => s2 _ _ (s1 _ _ e)
    · refine ⟨.ref x, rfl, .ref l, rfl, .ref m, rfl, .inr ⟨x, l, m, many, ms, o, ns, rfl, hC, G, hl, ho, hm, bad, hf, fun H1 s1 => ?_⟩⟩
      refine ⟨true, R.exN, fun _ a na => .inr ⟨⟨rfl, rfl⟩, ?_⟩, fun z => nomatch z⟩
      refine ⟨.ref a, rfl, .ty "ValueError", _, true, rfl, (fun u r => r), R.valN, true, rfl, ?_⟩
      refine ⟨.ref a, rfl, (by show 5 ≤ sizeLine; decide), fun tp ntp => ?_⟩
      have s2 := same_new (o := .tup [.ref c1, .ref c2, .ref c3, .ref c4, .ref c5]) ntp
      refine ⟨tp, _, _, false, rfl, upd_same, .cons (.own _) (.cons (.own _) (.cons (.own _) (.cons (.own _) (.cons (.own _) .nil)))), R.noN, false, rfl, iteF ?_⟩
      refine ⟨.ref a, rfl, .ref CN, _, true, rfl, (fun u r => r), R.nn, true, rfl, iteT ?_⟩
      refine ⟨.ref a, rfl, .ref CO, _, false, rfl, (fun u r => r), R.no, false, rfl, ?_⟩
      exact q _ fun b u e => s2 _ _ (s1 _ _ e)
end
section
variable {P : Program} {w : World} {K : PySem.W.Frag} {mg : Str → Option Value} {base : Heap} {C : Addr}
theorem first_one {many : Nat} {rows : List (List Int)} {j k : Nat} (h1 : FirstOne many rows j) (h2 : FirstOne many rows k) : j = k := by
  obtain ⟨_, a1, b1⟩ := h1
  obtain ⟨_, a2, b2⟩ := h2
  rcases Nat.lt_trichotomy j k with h | h | h
  · rw [b2 j h] at a1
    cases a1
  · exact h
  · rw [b1 k h] at a2
    cases a2
theorem one_none {many : Nat} {rows : List (List Int)} {j : Nat} (h1 : FirstOne many rows j) (h2 : NoOne many rows) : False := by
  obtain ⟨a, b, _⟩ := h1
  rw [h2 j a] at b
  cases b
theorem drawn_eq {H : Hp} {v v2 : V} {many : Nat} {rows : List (List Int)} {q : VK} (h : DrawnAt H v many rows) (h2 : DrawnAt H v2 many rows) (hq : q (.bl true) H) : rEqD K v v2 H q := by
  rcases h with ⟨k, t, f, rfl, ht⟩ | ⟨n, rfl⟩
  · rcases h2 with ⟨k2, t2, f2, rfl, ht2⟩ | ⟨n2, _⟩
    · have e := first_one f f2
      subst e
      exact eq_same (n := 1) (d := .tuple [.int (goK (endsK many rows k) 0), .int (k : Int)]) (dp_tup (ns := [goK (endsK many rows k) 0, (k : Int)]) ht) (dp_tup (ns := [goK (endsK many rows k) 0, (k : Int)]) ht2) (Sh.tuple (Sh.ints [goK (endsK many rows k) 0, (k : Int)])) (by decide) hq
    · exact (one_none f n2).elim
  · rcases h2 with ⟨k2, t2, f2, _, _⟩ | ⟨n2, rfl⟩
    · exact (one_none f2 n).elim
    · exact eq_same (n := 1) .non .non Sh.none (by decide) hq
theorem DrawnAt.same {H H' : Hp} {v : V} {many : Nat} {rows : List (List Int)} (s : Same H H') (h : DrawnAt H v many rows) : DrawnAt H' v many rows := by
  rcases h with ⟨k, t, f, e, ht⟩ | h
  · exact .inl ⟨k, t, f, e, s _ _ ht⟩
  · exact .inr h
theorem scLaw : FnScope ["_law_script", "_law_told", "_law_chain_here", "_law_d", "_law_numbers_here", "_law_order", "_law_broken_here", "_law_spoilt", "_law_words", "_law_handed", "_law_found", "_law_row"] ["_law_script"] (defScope sLaw) := ⟨rfl, rfl, rfl, by decide +kernel, rfl, by decide +kernel, by decide +kernel⟩
theorem ok_law {f fc fd' fo fh fm fN fFo fBr fW fBe fLd tM : Addr} {fd fdc fdd fdo fdh fdm fdN fdFo fdBr fdW fdBe fdLd : FuncData} (F : Fun K "law" "law" sLaw f fd) (T : LawTxt K mg fc fd' fo fdc fdd fdo) (Dh : Df K mg "_law_chain" sChain ["_law_d", "_law_most"] fh fdh)
    (DM : Df K mg "_law_made" sMade ["_law_told"] fm fdm) (DN : Df K mg "_law_numbers" sNumbers ["_law_d", "_law_moves", "_law_most"] fN fdN) (DFo : Df K mg "first_order" sFirstOrder ["chain"] fFo fdFo) (DBr : Df K mg "_law_broken" sLawBroken ["_law_told", "_law_order"] fBr fdBr)
    (DW : Df K mg "_law_word" sLawWord ["_law_chain_here", "_law_order", "_law_numbers_here", "_law_broken_here"] fW fdW) (DBe : Df K mg "by_ends" sByEnds ["chain", "order", "numbers"] fBe fdBe) (DLd : Df K mg "_law_drawn" sLawDrawn ["_law_told", "_law_numbers_here"] fLd fdLd)
    (GM : FnOk P w K mg base CX0 4 fm fdm ["_law_told"] (spMade C tM)) (GFo : FnOk P w K mg base CX0 4 fFo fdFo ["chain"] (spFo C)) (GW : FnOk P w K mg base CX0 5 fW fdW ["_law_chain_here", "_law_order", "_law_numbers_here", "_law_broken_here"] (spWd C)) (GBe : FnOk P w K mg base CX0 4 fBe fdBe ["chain", "order", "numbers"] (spBe C)) (GLd : FnOk P w K mg base CX0 2 fLd fdLd ["_law_told", "_law_numbers_here"] spLd)
    (mL : mg "list" = none) (mRv : mg "reversed" = none) : FnOk P w K mg base CX0 6 f fd ["_law_script"] (spLaw K tM) := by
  have GC : FnOk P w K mg base CX0 1 fc fdc ["_law_script", "_law_k"] (spCell K) := ok_cell T.FC T.ml
  have GD' : FnOk P w K mg base CX0 2 fd' fdd ["_law_script", "_law_k"] (spDice K) := T.dice
  have GO : FnOk P w K mg base CX0 2 fo fdo ["_law_d", "_law_most"] (spOff K) := T.off
  have GH : FnOk P w K mg base CX0 3 fh fdh ["_law_d", "_law_most"] (spChain K) := ok_chain Dh.F T
  have GN : FnOk P w K mg base CX0 3 fN fdN ["_law_d", "_law_moves", "_law_most"] (spNu K) := ok_numbers DN.F T
  have GBr : FnOk P w K mg base CX0 1 fBr fdBr ["_law_told", "_law_order"] spBr := ok_broken DBr.F T.mr T.ml T.ms
  refine F.ok scLaw (fun vs H Q E h => ?_) (fun cdv A outer s H vs Q E hr h => ?_)
  · obtain ⟨a, ns, rfl, _⟩ := h
    rfl
  · obtain ⟨a, ns, rfl, hS, hl, hTM, q⟩ := h
    have hu := hu64 hr
    have r1 : Room 1 _ := hr.mono (by decide)
    have r2 : Room 2 _ := hr.mono (by decide)
    have r3 : Room 3 _ := hr.mono (by decide)
    have r4 : Room 4 _ := hr.mono (by decide)
    refine ⟨_, (pss_cons (ps_set (i := 1) scLaw.nd rfl (.inl rfl) (pe_call GH r3 (by rfl) Dh.g Dh.F.kp Dh.b .nil pass0 (pa_cons (pe_call GD' r2 (by rfl) T.gD T.FD.kp T.bD .nil pass0 (pa_cons (pv 0) (pa_cons pe_int pa_nil))) (pa_cons (pe_ix ix_list (pe_lst (pa_cons pe_int (pa_cons pe_int pa_nil))) (pe_callTy call_int1 (by rfl) T.mi (by decide +kernel) (pa_cons (pe_cmpR op_eq (pe_op op_mod (pe_callB call_abs (by rfl) T.ma (by decide +kernel) (pa_cons (pe_call GC r1 (by rfl) T.gC T.FC.kp T.bC .nil pass0 (pa_cons (pv 0) (pa_cons pe_int pa_nil))) pa_nil)) pe_int) pe_int (nomark _)) pa_nil)) (fun _ _ => rfl)) pa_nil))))
      (pss_cons (ps_set (i := 2) scLaw.nd rfl (.inr rfl) (pe_call GM r4 (by rfl) DM.g DM.F.kp DM.b .nil pass0 (pa_cons (pv 1) pa_nil)))
      (pss_cons (ps_set (i := 3) scLaw.nd rfl (.inl rfl) (pe_call GD' r2 (by rfl) T.gD T.FD.kp T.bD .nil pass0 (pa_cons (pv 0) (pa_cons pe_int pa_nil))))
      (pss_cons (ps_set (i := 4) scLaw.nd rfl (.inl rfl) (pe_call GN r3 (by rfl) DN.g DN.F.kp DN.b .nil pass0 (pa_cons (pv 3) (pa_cons (pe_ix ix_tup (pv 1) pe_int (fun _ _ => rfl)) (pa_cons pe_int pa_nil)))))
      (pss_cons (ps_set (i := 5) scLaw.nd rfl (.inr rfl) (pe_listRg rfl (by rfl) mL (prg_1 (by rfl) T.mr (pe_ix ix_tup (pv 1) pe_int (fun _ _ => rfl)))))
      (C8.pss_cut (ps_if (PW.pt (pw_and (pt_cmpR op_notN (pe_call GFo r4 (by rfl) DFo.g DFo.F.kp DFo.b .nil pass0 (pa_cons (pv 2) pa_nil)) pe_non (nomark _)) (pw_and1 (pt_cmpR op_gt (pe_call GO r2 (by rfl) T.gO T.FO.kp T.bO .nil pass0 (pa_cons (pv 3) (pa_cons pe_int pa_nil))) pe_int (nomark _))))) (pss_one (ps_set (i := 5) scLaw.nd rfl (.inr rfl) (pe_call GFo r4 (by rfl) DFo.g DFo.F.kp DFo.b .nil pass0 (pa_cons (pv 2) pa_nil)))) pss_nil)
      (C8.pss_cut (ps_if (pt_cmpR op_eq (pe_call GO r2 (by rfl) T.gO T.FO.kp T.bO .nil pass0 (pa_cons (pv 3) (pa_cons pe_int pa_nil))) pe_int (nomark _)) (pss_one (ps_set (i := 5) scLaw.nd rfl (.inr rfl) (pe_lstRev rfl (by rfl) mL (by rfl) mRv (pv 5)))) pss_nil)
      (pss_cons (ps_set (i := 6) scLaw.nd rfl (.inr rfl) (pe_call GBr r1 (by rfl) DBr.g DBr.F.kp DBr.b .nil pass0 (pa_cons (pv 1) (pa_cons (pv 5) pa_nil))))
      (pss_cons (ps_set (i := 7) scLaw.nd rfl (.inl rfl) (pe_op op_cat (pv 4) (pe_lst (pa_cons (pe_op op_add (pe_callB call_len_seq (by rfl) T.ml PySem.boot_len (pa_cons (pe_ix ix_tup (pv 1) pe_int (fun _ _ => rfl)) pa_nil)) (pe_call GO r2 (by rfl) T.gO T.FO.kp T.bO .nil pass0 (pa_cons (pv 3) (pa_cons pe_int pa_nil)))) pa_nil))))
      (pss_cons (ps_if (pt_cmpR op_ge (pv 6) pe_int (nomark _)) (pss_cons (ps_setLc (i := 8) (own := [("_law_row", 11)]) (g := gName 11) (tt := tYes) (te := (tCall (spWd C) [] E0 (tCons (tVar 2) (tCons (tVar 5) (tCons (tVar 11) (tCons (tVar 6) tNil)))))) rfl scLaw.nd rfl rfl (sw_true rfl rfl rfl (by decide +kernel)) (pi_list (pe_lst (pa_cons (pv 4) (pa_cons (pv 7) pa_nil)))) (blkOk_by (N := ["_law_script", "_law_told", "_law_chain_here", "_law_d", "_law_numbers_here", "_law_order", "_law_broken_here", "_law_spoilt", "_law_words", "_law_handed", "_law_found", "_law_row"]) (sc := defScope sLaw) (by decide +kernel)) (fun _ _ _ _ _ => by exact (pg_name (i := 11) scLaw.nd rfl (.inl rfl))) (fun _ _ _ _ _ => pts_nil) (fun _ _ _ _ _ => by exact (pe_call GW hr (by rfl) DW.g DW.F.kp DW.b .nil pass0 (pa_cons (pv 2) (pa_cons (pv 5) (pa_cons (pv 11) (pa_cons (pv 6) pa_nil)))))))
      (pss_one (ps_ret (pe_cmpR (op_eqD hu) (pv 8) (pe_lst (pa_cons pe_str (pa_cons pe_str pa_nil))) (nomark _))))) pss_nil)
      (pss_cons (ps_if (pt_cmpR op_ne (pe_call GW hr (by rfl) DW.g DW.F.kp DW.b .nil pass0 (pa_cons (pv 2) (pa_cons (pv 5) (pa_cons (pv 7) (pa_cons (pv 6) pa_nil))))) pe_str (nomark _)) (pss_one (ps_ret pe_bl)) pss_nil)
      (pss_cons (ps_set (i := 9) scLaw.nd rfl (.inl rfl) (pe_lst (pa_cons (pe_callTy call_list_of (by rfl) mL (by decide +kernel) (pa_cons (pv 5) pa_nil)) (pa_cons (pe_callTy call_list_of (by rfl) mL (by decide +kernel) (pa_cons (pv 4) pa_nil)) pa_nil))))
      (pss_cons (ps_set (i := 10) scLaw.nd rfl (.inl rfl) (pe_call GBe r4 (by rfl) DBe.g DBe.F.kp DBe.b .nil pass0 (pa_cons (pv 2) (pa_cons (pe_ix ix_list (pv 9) pe_int (fun _ _ => rfl)) (pa_cons (pe_ix ix_list (pv 9) pe_int (fun _ _ => rfl)) pa_nil)))))
      (pss_one (ps_ret (pe_and (pe_cmpR (op_eqD hu) (pv 10) (pe_call GLd r2 (by rfl) DLd.g DLd.F.kp DLd.b .nil pass0 (pa_cons (pv 1) (pa_cons (pv 4) pa_nil))) (nomark _)) (pe_one (pe_cmpR (op_eqD hu) (pv 9) (pe_lst (pa_cons (pv 5) (pa_cons (pv 4) pa_nil))) (nomark _))))))))))))))))))), ?_⟩
    have two : (2 : Nat) ≤ sizeLine := by decide
    have onE : (1 : Nat) ≤ sizeLine := by decide
    -- told
    refine ⟨.ref a, rfl, a, ns, 0, rfl, hS, hl, by decide, fun H1 d1 s1 nd1 hD1 => ?_⟩
    refine ⟨two, fun L0 nL0 => ?_⟩
    have hD1' := hD1.new (o := .lst [.int 5, .int 6]) nL0
    have s1' := s1.trans (same_new (o := .lst [.int 5, .int 6]) nL0)
    refine ⟨.ref a, rfl, a, ns, 3, rfl, hD1'.seq, by decide, fun z => ?_⟩
    refine ⟨_, rfl, _, _, rfl, rfl, (by show (0 : Int) < 9; decide), rfl, .inr ⟨_, rfl, ?_⟩⟩
    generalize decide (V.int ((fun i j : Int => i % j) (if z < 0 then -z else z) 9) = V.int 1) = bz
    obtain ⟨most, j, em, ej, h1, h6⟩ : ∃ (most j : Nat), ([V.int 5, V.int 6])[j]? = some (.int (most : Int)) ∧ (if bz = true then (1 : Int) else 0) = (j : Int) ∧ 1 ≤ most ∧ most ≤ 6 := by
      cases bz with
      | true => exact ⟨6, 1, rfl, rfl, by decide, by decide⟩
      | false => exact ⟨5, 0, rfl, rfl, by decide, by decide⟩
    refine ⟨L0, _, _, _, rfl, rfl, SqL.of upd_same, at_of ej em, ?_⟩
    have hTM1 := tab_same s1' hTM
    generalize upd H1 L0 (.lst [.int 5, .int 6]) = H1' at hD1' s1' hTM1 ⊢
    refine ⟨d1, a, ns, most, rfl, hD1', h1, h6, fun t m many ws ms H2 G _ hT hD2 g2 => ?_⟩
    have hM2 := tab_gr hD1' g2 hTM1
    have m1 := G.m1
    have m6 := G.m6
    have l1 := G.l1
    have l8 := G.l8
    -- the chain
    refine ⟨.ref t, rfl, t, m, many, ws, ms, rfl, hT, G, hM2, fun H3 x hC nx g3 hM3 => ?_⟩
    have hT3 := hT.tab hM2 g3
    have hD3 := hD2.tabT hM2 g3
    -- d
    refine ⟨.ref a, rfl, a, ns, 1, rfl, hD3.seq, hl, by decide, fun H4 d s4 nd hD4 => ?_⟩
    have hT4 := hT3.same s4
    have hC4 := hC.same s4
    have lenW : ws.length = ms.length := hT4.2.2.length
    have nmd : m ≠ d := hD4.ne_of hT4.2.1 (moves_no_dl hT4.2.2)
    -- numbers
    refine ⟨.ref d, rfl, .ref t, rfl, t, _, 1, _, rfl, rfl, SqT.of hT4.1, atI_nat (j := 1) rfl, d, a, m, 40, ns, ws, rfl, hD4, hT4.2.1, nmd, by omega, by omega, by decide, fun r zs H5 hD5 g5 nr nrd hr5 hz1 hz2 => ?_⟩
    have hT5 := hT4.gr hD4 g5
    have hC5 := hC4.gr hD4 g5
    have hN : NumsOk ms zs := ⟨by omega, fun n hn => by rw [← lenW]; exact hz2 n hn⟩
    -- order
    refine ⟨.ref t, rfl, t, _, 0, _, rfl, rfl, SqT.of hT5.1, atI_nat (j := 0) rfl, _, rfl, RgOk.of_le (by omega) (by omega) (by omega) (by omega), fun l0 nl0 => ?_⟩
    rw [rg_ends]
    have s6 := same_new (o := .lst (((List.range many).map fun (i : Nat) => (i : Int)).map V.int)) nl0
    have hl0 : (upd H5 l0 (.lst (((List.range many).map fun (i : Nat) => (i : Int)).map V.int))) l0 = some (.lst ((ids many).map V.int)) := upd_same
    have hT6 := hT5.same s6
    have hC6 := hC5.same s6
    have hD6 := hD5.same s6
    have hr6 := s6 _ _ hr5
    generalize upd H5 l0 (.lst (((List.range many).map fun (i : Nat) => (i : Int)).map V.int)) = H6 at hl0 hT6 hC6 hD6 hr6 ⊢
    -- all that stays
    let St : Hp → Prop := fun H' => ToldAt H' t m many ws ms ∧ ChainAt C H' x many ms ∧ Dc K a ns H' d ∧ H' r = some (.lst (zs.map V.int))
    have St.same : ∀ {H' H''}, Same H' H'' → St H' → St H'' := fun s h => ⟨h.1.same s, h.2.1.same s, h.2.2.1.same s, s _ _ h.2.2.2⟩
    have St.off : ∀ {H' H''}, Dc K a ns H'' d → (∀ b, b ≠ d → H'' b = H' b) → St H' → St H'' := fun hd o h => ⟨h.1.gr h.2.2.1 ((Gr.refl d _).off o), h.2.1.gr h.2.2.1 ((Gr.refl d _).off o), hd, by rw [o r nrd]; exact h.2.2.2⟩
    have keepI : ∀ {H' H'' : Hp} {b : Addr} {xs : List Int}, Dc K a ns H' d → (∀ b, b ≠ d → H'' b = H' b) → H' b = some (.lst (xs.map V.int)) → H'' b = some (.lst (xs.map V.int)) := fun {H' H'' b xs} hd o e => by
      rw [o b (hd.ne_of e fun s0 l k big z => by injection z with z; exact map_int_dl z)]
      exact e
    let Mid : L2.St → Hp → Prop := fun σ H' => ∃ (l : Addr) (o : List Int), σ = [some (.ref a), some (.ref t), some (.ref x), some (.ref d), some (.ref r), some (.ref l), none, none, none, none, none, none] ∧ St H' ∧ H' l = some (.lst (o.map V.int)) ∧ isOrd many o
    refine ⟨Mid, ?_, ?_⟩
    · refine ⟨.ref x, rfl, x, many, ms, rfl, hC6, G, fun v H7 s7 hv => ?_⟩
      have st7 := St.same s7 ⟨hT6, hC6, hD6, hr6⟩
      unfold ListOr at hv
      cases hf : foL many ms with
      | none =>
        rw [hf] at hv
        subst hv
        refine ⟨rfl, false, by simp, iteF (iteF ?_)⟩
        exact ⟨l0, ids many, rfl, st7, s7 _ _ hl0, List.Perm.refl _⟩
      | some o =>
        rw [hf] at hv
        obtain ⟨v', rfl, hv'⟩ := hv
        refine ⟨rfl, true, by simp, iteT ?_⟩
        refine ⟨.ref d, rfl, d, a, ns, _, rfl, st7.2.2.1, by decide, by decide, fun z H8 hz hD8 o8 => ?_⟩
        have st8 := St.off hD8 o8 st7
        refine ⟨_, _, rfl, rfl, _, rfl, ite2 (fun c => ?_) (fun c => ?_)⟩
        · refine ⟨.ref x, rfl, x, many, ms, rfl, st8.2.1, G, fun v2 H9 s9 hv2 => ?_⟩
          unfold ListOr at hv2
          rw [hf] at hv2
          obtain ⟨v3, rfl, hv3⟩ := hv2
          exact ⟨v3, o, rfl, St.same s9 st8, hv3, ordsL_ord m6 (List.mem_of_find?_eq_some hf)⟩
        · exact ⟨l0, ids many, rfl, st8, keepI st7.2.2.1 o8 (s7 _ _ hl0), List.Perm.refl _⟩
    rintro σ H7 ⟨l1', o1, rfl, st7, hl7, ho1⟩
    refine ⟨Mid, ?_, ?_⟩
    · refine ⟨.ref d, rfl, d, a, ns, _, rfl, st7.2.2.1, by decide, by decide, fun z H8 hz hD8 o8 => ?_⟩
      have st8 := St.off hD8 o8 st7
      have hl8 := keepI st7.2.2.1 o8 hl7
      refine ⟨rfl, _, rfl, ite2 (fun c => ?_) (fun c => ?_)⟩
      · refine ⟨.ref l1', rfl, l1', _, rfl, SqL.of hl8, fun p np => ?_⟩
        rw [← List.map_reverse]
        exact ⟨p, o1.reverse, rfl, St.same (same_new np) st8, upd_same, (List.reverse_perm o1).trans ho1⟩
      · exact ⟨l1', o1, rfl, st8, hl8, ho1⟩
    rintro σ H8 ⟨l, o, rfl, st8, hl8, ho⟩
    obtain ⟨hT8, hC8, hD8, hr8⟩ := st8
    -- broken
    refine ⟨.ref t, rfl, .ref l, rfl, t, m, l, many, ws, ms, o, rfl, hT8, G, hl8, ho, fun H9 s9 => ?_⟩
    have hT9 := hT8.same s9
    have hC9 := hC8.same s9
    have hD9 := hD8.same s9
    have hr9 := s9 _ _ hr8
    have hl9 := s9 _ _ hl8
    -- spoilt
    refine ⟨.ref r, rfl, .ref t, rfl, t, _, 1, _, rfl, rfl, SqT.of hT9.1, atI_nat (j := 1) rfl, m, ws, rfl, .inl (SqL.of hT9.2.1), ?_⟩
    refine ⟨.ref d, rfl, d, a, ns, _, rfl, hD9, by decide, by decide, fun z H10 hz hD10 o10 => ?_⟩
    obtain ⟨hT10, hC10, hD10, hr10⟩ := St.off hD10 o10 ⟨hT9, hC9, hD9, hr9⟩
    have hl10 := keepI hD9 o10 hl9
    refine ⟨_, _, rfl, rfl, onE, fun L1 nL1 => ?_⟩
    refine ⟨r, L1, _, _, rfl, rfl, by rw [upd_ne (ne_of_none hr10 nL1)]; exact hr10, upd_same, by rw [List.length_map]; exact Nat.le_trans (Nat.add_le_add_right hz1 1) (by decide), fun p np => ?_⟩
    have s11 := (same_new nL1).trans (same_new (o := .lst (zs.map V.int ++ [V.int ((ws.length : Int) + z)])) np)
    have hp11 : (upd (upd H10 L1 (.lst [V.int ((ws.length : Int) + z)])) p (.lst (zs.map V.int ++ [V.int ((ws.length : Int) + z)]))) p = some (.lst ((zs ++ [(ms.length : Int) + z]).map V.int)) := by
      rw [upd_same, List.map_append, lenW]
      rfl
    have hT11 := hT10.same s11
    have hC11 := hC10.same s11
    have hr11 := s11 _ _ hr10
    have hl11 := s11 _ _ hl10
    generalize (upd (upd H10 L1 (.lst [V.int ((ws.length : Int) + z)])) p (.lst (zs.map V.int ++ [V.int ((ws.length : Int) + z)]))) = H11 at hp11 hT11 hC11 hr11 hl11 ⊢
    have hBad : BadNos ms (zs ++ [(ms.length : Int) + z]) := by
      refine ⟨?_, fun n hn => ?_, (ms.length : Int) + z, List.mem_append_right _ List.mem_cons_self, fun c => by omega⟩
      · rw [List.length_append]
        show zs.length + 1 ≤ 1000
        omega
      · have : n.natAbs < 2 ^ 64 := by
          rcases List.mem_append.mp hn with hn | hn
          · have := hN.2 n hn
            omega
          · rw [List.mem_singleton.mp hn]
            omega
        by_cases c : n.natAbs = 0
        · rw [c]
          decide
        · exact Nat.lt_trans ((Nat.log2_lt c).mpr this) (by decide)
    cases hf : fbN ms o with
    | some k =>
      have eb : brI ms o = (k : Int) := by
        unfold brI
        rw [hf]
      rw [eb]
      refine ⟨.int (k : Int), rfl, _, _, rfl, rfl, _, rfl, ite2 (fun _ => ?_) (fun c => absurd (by simp) c)⟩
      refine ⟨.ref r, rfl, .ref p, rfl, two, fun Lp nLp => ?_⟩
      have s12 := same_new (o := .lst [V.ref r, V.ref p]) nLp
      have hLp12 : (upd H11 Lp (.lst [V.ref r, V.ref p])) Lp = some (.lst [V.ref r, V.ref p]) := upd_same
      have hC12 := hC11.same s12
      have hr12 := s12 _ _ hr11
      have hl12 := s12 _ _ hl11
      have hp12 := s12 _ _ hp11
      generalize (upd H11 Lp (.lst [V.ref r, V.ref p])) = H12 at hLp12 hC12 hr12 hl12 hp12 ⊢
      refine ⟨Lp, rfl, ⟨_, SqL.of hLp12⟩, fun D nD => ?_⟩
      refine lc_list (K := K) (a := Lp) (xs := [V.ref r, V.ref p]) (fun e H' => Same H12 H' ∧ H' D = some (.lst (List.replicate e (V.str "broken")))) ⟨same_new nD, upd_same⟩ (fun e H' _ h => SqL.of (h.1 _ _ hLp12)) ?_ ?_
      · rintro e v H13 hv ⟨s13, hD13⟩
        obtain ⟨q2, ys, rfl, hq2, he⟩ : ∃ (q2 : Addr) (ys : List Int), v = V.ref q2 ∧ H12 q2 = some (.lst (ys.map V.int)) ∧ e < 2 := by
          match e, hv with
          | 0, hv =>
            cases hv
            exact ⟨r, zs, rfl, hr12, by decide⟩
          | 1, hv =>
            cases hv
            exact ⟨p, _, rfl, hp12, by decide⟩
        refine ⟨rfl, .ref x, rfl, .ref l, rfl, .ref q2, rfl, .int (k : Int), rfl, x, l, q2, many, ms, o, ys, _, rfl, hC12.same s13, G, s13 _ _ hl12, ho, s13 _ _ hq2, .inl ⟨k, hf, rfl, fun H14 s14 => ?_⟩⟩
        refine ⟨_, s14 _ _ hD13, by rw [List.length_replicate]; exact small8 (by omega), fun b u eb => ?_, ?_⟩
        · rw [upd_ne (ne_of_none eb nD)]
          exact s14 _ _ (s13 _ _ eb)
        · rw [upd_same, List.replicate_succ']
      · rintro H13 ⟨s13, hD13⟩
        refine ⟨.ref D, rfl, two, fun L2 nL2 => ?_⟩
        have s14 := same_new (o := .lst [V.str "broken", V.str "broken"]) nL2
        exact eq_same (n := 1) (d := .list [.str "broken", .str "broken"]) (.lst (SqL.of (s14 _ _ hD13)) (.cons (.str _) (.cons (.str _) .nil))) (.lst (SqL.of upd_same) (.cons (.str _) (.cons (.str _) .nil))) ⟨by decide +kernel, by decide +kernel⟩ (by decide) (q _)
    | none =>
      have eb : brI ms o = -1 := by
        unfold brI
        rw [hf]
      rw [eb]
      refine ⟨.int (-1), rfl, _, _, rfl, rfl, _, rfl, ite2 (fun c => absurd c (by decide)) (fun _ => ?_)⟩
      refine ⟨.ref x, rfl, .ref l, rfl, .ref p, rfl, .int (-1), rfl, x, l, p, many, ms, o, _, _, rfl, hC11, G, hl11, ho, hp11, .inr ⟨hf, hBad, fun H12 s12 => ?_⟩⟩
      refine ⟨rfl, false, by simp, iteF ?_⟩
      have hT12 := hT11.same s12
      have hC12 := hC11.same s12
      have hr12 := s12 _ _ hr11
      have hl12 := s12 _ _ hl11
      -- handed
      refine ⟨.ref l, rfl, l, _, rfl, .inl (SqL.of hl12), fun p1 np1 => ?_⟩
      have s13 := same_new (o := .lst (o.map V.int)) np1
      have hp1 : (upd H12 p1 (.lst (o.map V.int))) p1 = some (.lst (o.map V.int)) := upd_same
      refine ⟨.ref r, rfl, r, _, rfl, .inl (SqL.of (s13 _ _ hr12)), fun p2 np2 => ?_⟩
      have s14 := same_new (o := .lst (zs.map V.int)) np2
      have hp2 : (upd (upd H12 p1 (.lst (o.map V.int))) p2 (.lst (zs.map V.int))) p2 = some (.lst (zs.map V.int)) := upd_same
      refine ⟨two, fun L3 nL3 => ?_⟩
      have s15 := same_new (o := .lst [V.ref p1, V.ref p2]) nL3
      have hL3 : (upd (upd (upd H12 p1 (.lst (o.map V.int))) p2 (.lst (zs.map V.int))) L3 (.lst [V.ref p1, V.ref p2])) L3 = some (.lst [V.ref p1, V.ref p2]) := upd_same
      have s16 := (s13.trans s14).trans s15
      have hp1' := (s14.trans s15) _ _ hp1
      have hp2' := s15 _ _ hp2
      have hT16 := hT12.same s16
      have hC16 := hC12.same s16
      have hr16 := s16 _ _ hr12
      have hl16 := s16 _ _ hl12
      generalize (upd (upd (upd H12 p1 (.lst (o.map V.int))) p2 (.lst (zs.map V.int))) L3 (.lst [V.ref p1, V.ref p2])) = H16 at hL3 hp1' hp2' hT16 hC16 hr16 hl16 ⊢
      refine ⟨.ref x, rfl, .ref L3, rfl, L3, _, 0, _, rfl, rfl, SqL.of hL3, atI_nat (j := 0) rfl, .ref L3, rfl, L3, _, 1, _, rfl, rfl, SqL.of hL3, atI_nat (j := 1) rfl, ?_⟩
      refine ⟨x, p1, p2, many, ms, o, zs, rfl, hC16, G, hp1', ho, hp2', hN, hf, fun v H17 s17 hv => ?_⟩
      refine ⟨v, rfl, .ref t, rfl, .ref r, rfl, t, m, r, many, ws, ms, zs, rfl, hT16.same s17, G, s17 _ _ hr16, hN, fun v2 H18 s18 hv2 => ?_⟩
      have s178 := s17.trans s18
      refine drawn_eq (DrawnAt.same s18 hv) hv2 ⟨true, rfl, iteT ?_⟩
      refine ⟨.ref L3, rfl, .ref l, rfl, .ref r, rfl, two, fun L4 nL4 => ?_⟩
      have s19 := same_new (o := .lst [V.ref l, V.ref r]) nL4
      have s79 := s178.trans s19
      exact eq_same (n := 2) (d := lsD [o, zs]) (ListsAt.dp ⟨_, s79 _ _ hL3, .cons ⟨p1, rfl, s79 _ _ hp1'⟩ (.cons ⟨p2, rfl, s79 _ _ hp2'⟩ .nil)⟩) (ListsAt.dp ⟨_, upd_same, .cons ⟨l, rfl, s79 _ _ hl16⟩ (.cons ⟨r, rfl, s79 _ _ hr16⟩ .nil)⟩) (Sh.lists _) (by decide) (q _)
end
/-! ### the end: the table of the generator's def -/
def TabOf (nm : Str) (mg : Str → Option Value) (h : Heap) : Prop := ∃ (a' : Addr) (o' : Obj) (fd' : FuncData) (c' P' : Addr) (oc : Obj) (vc : Array Value), mg nm = some (.ref a') ∧ h.get? a' = some o' ∧ o'.data = .func fd' ∧ fd'.code = .ref c' ∧
  h.get? c' = some oc ∧ oc.data = .fields vc ∧ vc[11]? = some (.ref P') ∧ h.get? P' = some { cls := .none, data := .fields #[] }
theorem walk_tab {l : PySem.W.OpenLaw} {n k : Nat} {q : Program} {loose : List Str} {XP : (Str → Option Value) → Heap → Prop} {YP : World → Heap → Prop} {d : DefRec} {K : Params → PySem.W.Frag} {CX : World → CXT} {x : Str} (nm : Str)
    (hn : l.most = some n) (hn2 : n ≤ sizeLine) (hdf : d.params.defaults = []) (hr : Room k callerA) (hrec : ((recsOf q).any fun e => e.name == nm) = true) (hY : ∀ (w : World) (h : Heap), YP w h → (K w.params).In h)
    (F : ∀ (w : World) (mg : Str → Option Value) (fa : Addr) (h : Heap), (K w.params).In h → h.Ns mainGlobals mg → mg d.name = some (.ref fa) → TabOf nm mg h → LamX.LawAtS l w (K w.params) (CX w) k n x mg fa h)
    (hCX : ∀ (w : World) (H : Hp) (s : Shared) (e : Value) (s' : Shared), CX w [] H s (fun _ _ _ => False) e s' → False) :
    PySem.W.WalkO q loose XP YP l.row.toRowW d [] (fun f vs => PySem.call f vs) := by
  refine Att.attach_callB hn hdf fun w s₀ s₁ mg mb fa o pm cd doc a vs ns G Y ho hd hcd hmg hobj hints hlen hbits hg => ?_
  obtain ⟨dL, m1, m2⟩ := List.any_eq_true.mp hrec
  obtain ⟨a', o', fd', c', P', g1, g2, g3, g4, _, ⟨oc, vc, e1, e2, e3, e4⟩, e5⟩ := G.T.tab dL m1
  rw [beq_iff_eq.mp m2] at g1
  have TO : TabOf nm mg s₁.heap := ⟨a', o', fd', c', P', oc, vc, g1, g2, g3, g4, e1, e3, e4, e5⟩
  obtain ⟨fd, cs, sp, hT, nT, Cd, hb, hsp, hF⟩ := F w mg fa _ (hY w _ Y) G.T.g hmg TO
  exact LamX.law_callTs (hY w _ Y) G.T.g G.T.b G.T.builtins G.T.nolimit hg hT nT Cd G.T.bmain hobj hints (Nat.le_trans hlen hn2) hr hF hb (fun H hH hS => hsp H a ns hlen hbits hH hS) fun H e s' => hCX w H s₁ e s'
theorem walk_tab2 {l : PySem.W.OpenLaw} {n k : Nat} {q : Program} {loose : List Str} {XP : (Str → Option Value) → Heap → Prop} {YP : World → Heap → Prop} {d : DefRec} {K : Params → PySem.W.Frag} {CX : World → CXT} {x : Str} (nm nm2 : Str)
    (hn : l.most = some n) (hn2 : n ≤ sizeLine) (hdf : d.params.defaults = []) (hr : Room k callerA) (hrec : ((recsOf q).any fun e => e.name == nm) = true) (hrec2 : ((recsOf q).any fun e => e.name == nm2) = true) (hY : ∀ (w : World) (h : Heap), YP w h → (K w.params).In h)
    (F : ∀ (w : World) (mg : Str → Option Value) (fa : Addr) (h : Heap), (K w.params).In h → h.Ns mainGlobals mg → mg d.name = some (.ref fa) → TabOf nm mg h → TabOf nm2 mg h → LamX.LawAtS l w (K w.params) (CX w) k n x mg fa h)
    (hCX : ∀ (w : World) (H : Hp) (s : Shared) (e : Value) (s' : Shared), CX w [] H s (fun _ _ _ => False) e s' → False) :
    PySem.W.WalkO q loose XP YP l.row.toRowW d [] (fun f vs => PySem.call f vs) := by
  refine Att.attach_callB hn hdf fun w s₀ s₁ mg mb fa o pm cd doc a vs ns G Y ho hd hcd hmg hobj hints hlen hbits hg => ?_
  have tabs : ∀ {z : Str}, ((recsOf q).any fun e => e.name == z) = true → TabOf z mg s₁.heap := fun {z} hz => by
    obtain ⟨dL, m1, m2⟩ := List.any_eq_true.mp hz
    obtain ⟨a', o', fd', c', P', g1, g2, g3, g4, _, ⟨oc, vc, e1, e2, e3, e4⟩, e5⟩ := G.T.tab dL m1
    rw [beq_iff_eq.mp m2] at g1
    exact ⟨a', o', fd', c', P', oc, vc, g1, g2, g3, g4, e1, e3, e4, e5⟩
  obtain ⟨fd, cs, sp, hT, nT, Cd, hb, hsp, hF⟩ := F w mg fa _ (hY w _ Y) G.T.g hmg (tabs hrec) (tabs hrec2)
  exact LamX.law_callTs (hY w _ Y) G.T.g G.T.b G.T.builtins G.T.nolimit hg hT nT Cd G.T.bmain hobj hints (Nat.le_trans hlen hn2) hr hF hb (fun H hH hS => hsp H a ns hlen hbits hH hS) fun H e s' => hCX w H s₁ e s'
/-! ### what the top has written -/
set_option maxHeartbeats 0 in
theorem all_mk {l : PySem.W.OpenLaw} {w : World} {K : PySem.W.Frag} {h : Heap} {mg : Str → Option Value} {fa : Addr} (X : K.In h) (G : h.Ns mainGlobals mg) (hfa : mg "law" = some (.ref fa)) (TO_is_move : TabOf "_is_move" mg h)
    {f_steps_of : Addr} {od_steps_of an_steps_of : Option Addr} {sl_steps_of : Array (Option Value)} {oc_steps_of kV_steps_of dc_steps_of pm_steps_of ct_steps_of cd_steps_of : Value}
    {f_drawn_from : Addr} {od_drawn_from an_drawn_from : Option Addr} {sl_drawn_from : Array (Option Value)} {oc_drawn_from kV_drawn_from dc_drawn_from pm_drawn_from ct_drawn_from cd_drawn_from : Value}
    {f_are_one : Addr} {od_are_one an_are_one : Option Addr} {sl_are_one : Array (Option Value)} {oc_are_one kV_are_one dc_are_one pm_are_one ct_are_one cd_are_one : Value}
    {f_keeps_order : Addr} {od_keeps_order an_keeps_order : Option Addr} {sl_keeps_order : Array (Option Value)} {oc_keeps_order kV_keeps_order dc_keeps_order pm_keeps_order ct_keeps_order cd_keeps_order : Value}
    {f_first_order : Addr} {od_first_order an_first_order : Option Addr} {sl_first_order : Array (Option Value)} {oc_first_order kV_first_order dc_first_order pm_first_order ct_first_order cd_first_order : Value}
    {f_by_ends : Addr} {od_by_ends an_by_ends : Option Addr} {sl_by_ends : Array (Option Value)} {oc_by_ends kV_by_ends dc_by_ends pm_by_ends ct_by_ends cd_by_ends : Value}
    {f_first_breaking : Addr} {od_first_breaking an_first_breaking : Option Addr} {sl_first_breaking : Array (Option Value)} {oc_first_breaking kV_first_breaking dc_first_breaking pm_first_breaking ct_first_breaking cd_first_breaking : Value}
    {f_keeps : Addr} {od_keeps an_keeps : Option Addr} {sl_keeps : Array (Option Value)} {oc_keeps kV_keeps dc_keeps pm_keeps ct_keeps cd_keeps : Value}
    {f_is_move : Addr} {od_is_move an_is_move : Option Addr} {sl_is_move : Array (Option Value)} {oc_is_move kV_is_move dc_is_move pm_is_move ct_is_move : Value}
    {cM_is_move tM_is_move : Addr} {eM_is_move : Value} {ddM_is_move : Option Addr} {vsM_is_move : Array Value} {slM_is_move : Array (Option Value)}
    {f_law_cell : Addr} {od_law_cell an_law_cell : Option Addr} {sl_law_cell : Array (Option Value)} {oc_law_cell kV_law_cell dc_law_cell pm_law_cell ct_law_cell cd_law_cell : Value}
    {f_law_dice : Addr} {od_law_dice an_law_dice : Option Addr} {sl_law_dice : Array (Option Value)} {oc_law_dice kV_law_dice dc_law_dice pm_law_dice ct_law_dice cd_law_dice : Value}
    {f_law_off : Addr} {od_law_off an_law_off : Option Addr} {sl_law_off : Array (Option Value)} {oc_law_off kV_law_off dc_law_off pm_law_off ct_law_off cd_law_off : Value}
    {f_law_chain : Addr} {od_law_chain an_law_chain : Option Addr} {sl_law_chain : Array (Option Value)} {oc_law_chain kV_law_chain dc_law_chain pm_law_chain ct_law_chain cd_law_chain : Value}
    {f_law_made : Addr} {od_law_made an_law_made : Option Addr} {sl_law_made : Array (Option Value)} {oc_law_made kV_law_made dc_law_made pm_law_made ct_law_made cd_law_made : Value}
    {f_law_numbers : Addr} {od_law_numbers an_law_numbers : Option Addr} {sl_law_numbers : Array (Option Value)} {oc_law_numbers kV_law_numbers dc_law_numbers pm_law_numbers ct_law_numbers cd_law_numbers : Value}
    {f_law_ends : Addr} {od_law_ends an_law_ends : Option Addr} {sl_law_ends : Array (Option Value)} {oc_law_ends kV_law_ends dc_law_ends pm_law_ends ct_law_ends cd_law_ends : Value}
    {f_law_drawn : Addr} {od_law_drawn an_law_drawn : Option Addr} {sl_law_drawn : Array (Option Value)} {oc_law_drawn kV_law_drawn dc_law_drawn pm_law_drawn ct_law_drawn cd_law_drawn : Value}
    {f_law_broken : Addr} {od_law_broken an_law_broken : Option Addr} {sl_law_broken : Array (Option Value)} {oc_law_broken kV_law_broken dc_law_broken pm_law_broken ct_law_broken cd_law_broken : Value}
    {f_law_word : Addr} {od_law_word an_law_word : Option Addr} {sl_law_word : Array (Option Value)} {oc_law_word kV_law_word dc_law_word pm_law_word ct_law_word cd_law_word : Value}
    {f_law : Addr} {od_law an_law : Option Addr} {sl_law : Array (Option Value)} {oc_law kV_law dc_law pm_law ct_law cd_law : Value}
    {C : Addr}
    {f_minit : Addr} {od_minit an_minit : Option Addr} {sl_minit : Array (Option Value)} {oc_minit kV_minit dc_minit pm_minit cd_minit ct_minit : Value}
    {f_mplaces : Addr} {od_mplaces an_mplaces : Option Addr} {sl_mplaces : Array (Option Value)} {oc_mplaces kV_mplaces dc_mplaces pm_mplaces cd_mplaces ct_mplaces : Value}
    {f_mtold : Addr} {od_mtold an_mtold : Option Addr} {sl_mtold : Array (Option Value)} {oc_mtold kV_mtold dc_mtold pm_mtold cd_mtold ct_mtold : Value}
    {tMOST_PLACES : Tok}
    {tMOST_MOVES : Tok}
    {tMOST_WEIGHT : Tok}
    {ALongError : Addr}
    {ABadChain : Addr}
    {ABadText : Addr}
    {ANoSuch : Addr}
    {ANotOne : Addr}
    {ANeverOne : Addr}
    {ANotOrdered : Addr}
    {ATooMany : Addr}
    {f_iNotOrdered cc_iNotOrdered cda_iNotOrdered : Addr} {od_iNotOrdered an_iNotOrdered cdd_iNotOrdered cld_iNotOrdered : Option Addr} {sl_iNotOrdered ccs_iNotOrdered csl_iNotOrdered : Array (Option Value)} {oc_iNotOrdered kV_iNotOrdered dc_iNotOrdered pm_iNotOrdered ct_iNotOrdered ccl_iNotOrdered cl_iNotOrdered : Value} {vs_iNotOrdered : Array Value} {fi_iNotOrdered : Str} {tf_iNotOrdered : Tok}
    (a_steps_of : PySem.W.nsIn K mainGlobals "steps_of" = some (some (.ref f_steps_of)))
    (l_steps_of : K.lookup f_steps_of = some ⟨oc_steps_of, od_steps_of, .func (PySem.W.fnOf "steps_of" "steps_of" (defArgs sStepsOf) (defBody sStepsOf) (defScope sStepsOf) .none kV_steps_of dc_steps_of pm_steps_of an_steps_of cd_steps_of ct_steps_of), sl_steps_of⟩)
    (c_steps_of : PySem.W.codeIn K cd_steps_of "steps_of" = true)
    (k_steps_of : PySem.W.keepIn K (.ref f_steps_of) = true)
    (a_drawn_from : PySem.W.nsIn K mainGlobals "drawn_from" = some (some (.ref f_drawn_from)))
    (l_drawn_from : K.lookup f_drawn_from = some ⟨oc_drawn_from, od_drawn_from, .func (PySem.W.fnOf "drawn_from" "drawn_from" (defArgs sDrawnFrom) (defBody sDrawnFrom) (defScope sDrawnFrom) .none kV_drawn_from dc_drawn_from pm_drawn_from an_drawn_from cd_drawn_from ct_drawn_from), sl_drawn_from⟩)
    (c_drawn_from : PySem.W.codeIn K cd_drawn_from "drawn_from" = true)
    (k_drawn_from : PySem.W.keepIn K (.ref f_drawn_from) = true)
    (a_are_one : PySem.W.nsIn K mainGlobals "_are_one" = some (some (.ref f_are_one)))
    (l_are_one : K.lookup f_are_one = some ⟨oc_are_one, od_are_one, .func (PySem.W.fnOf "_are_one" "_are_one" (defArgs sAreOne) (defBody sAreOne) (defScope sAreOne) .none kV_are_one dc_are_one pm_are_one an_are_one cd_are_one ct_are_one), sl_are_one⟩)
    (c_are_one : PySem.W.codeIn K cd_are_one "_are_one" = true)
    (k_are_one : PySem.W.keepIn K (.ref f_are_one) = true)
    (a_keeps_order : PySem.W.nsIn K mainGlobals "keeps_order" = some (some (.ref f_keeps_order)))
    (l_keeps_order : K.lookup f_keeps_order = some ⟨oc_keeps_order, od_keeps_order, .func (PySem.W.fnOf "keeps_order" "keeps_order" (defArgs sKeepsOrder) (defBody sKeepsOrder) (defScope sKeepsOrder) .none kV_keeps_order dc_keeps_order pm_keeps_order an_keeps_order cd_keeps_order ct_keeps_order), sl_keeps_order⟩)
    (c_keeps_order : PySem.W.codeIn K cd_keeps_order "keeps_order" = true)
    (k_keeps_order : PySem.W.keepIn K (.ref f_keeps_order) = true)
    (a_first_order : PySem.W.nsIn K mainGlobals "first_order" = some (some (.ref f_first_order)))
    (l_first_order : K.lookup f_first_order = some ⟨oc_first_order, od_first_order, .func (PySem.W.fnOf "first_order" "first_order" (defArgs sFirstOrder) (defBody sFirstOrder) (defScope sFirstOrder) .none kV_first_order dc_first_order pm_first_order an_first_order cd_first_order ct_first_order), sl_first_order⟩)
    (c_first_order : PySem.W.codeIn K cd_first_order "first_order" = true)
    (k_first_order : PySem.W.keepIn K (.ref f_first_order) = true)
    (a_by_ends : PySem.W.nsIn K mainGlobals "by_ends" = some (some (.ref f_by_ends)))
    (l_by_ends : K.lookup f_by_ends = some ⟨oc_by_ends, od_by_ends, .func (PySem.W.fnOf "by_ends" "by_ends" (defArgs sByEnds) (defBody sByEnds) (defScope sByEnds) .none kV_by_ends dc_by_ends pm_by_ends an_by_ends cd_by_ends ct_by_ends), sl_by_ends⟩)
    (c_by_ends : PySem.W.codeIn K cd_by_ends "by_ends" = true)
    (k_by_ends : PySem.W.keepIn K (.ref f_by_ends) = true)
    (a_first_breaking : PySem.W.nsIn K mainGlobals "_first_breaking" = some (some (.ref f_first_breaking)))
    (l_first_breaking : K.lookup f_first_breaking = some ⟨oc_first_breaking, od_first_breaking, .func (PySem.W.fnOf "_first_breaking" "_first_breaking" (defArgs sFirstBreaking) (defBody sFirstBreaking) (defScope sFirstBreaking) .none kV_first_breaking dc_first_breaking pm_first_breaking an_first_breaking cd_first_breaking ct_first_breaking), sl_first_breaking⟩)
    (c_first_breaking : PySem.W.codeIn K cd_first_breaking "_first_breaking" = true)
    (k_first_breaking : PySem.W.keepIn K (.ref f_first_breaking) = true)
    (a_keeps : PySem.W.nsIn K mainGlobals "_keeps" = some (some (.ref f_keeps)))
    (l_keeps : K.lookup f_keeps = some ⟨oc_keeps, od_keeps, .func (PySem.W.fnOf "_keeps" "_keeps" (defArgs sKeeps) (defBody sKeeps) (defScope sKeeps) .none kV_keeps dc_keeps pm_keeps an_keeps cd_keeps ct_keeps), sl_keeps⟩)
    (c_keeps : PySem.W.codeIn K cd_keeps "_keeps" = true)
    (k_keeps : PySem.W.keepIn K (.ref f_keeps) = true)
    (a_is_move : PySem.W.nsIn K mainGlobals "_is_move" = some (some (.ref f_is_move)))
    (l_is_move : K.lookup f_is_move = some ⟨oc_is_move, od_is_move, .func (PySem.W.fnOf "_is_move" "_is_move" (defArgs sIsMove) (defBody sIsMove) (defScope sIsMove) .none kV_is_move dc_is_move pm_is_move an_is_move (.ref cM_is_move) ct_is_move), sl_is_move⟩)
    (c_is_move : PySem.W.codeIn K (.ref cM_is_move) "_is_move" = true)
    (k_is_move : PySem.W.keepIn K (.ref f_is_move) = true)
    (a_law_cell : PySem.W.nsIn K mainGlobals "_law_cell" = some (some (.ref f_law_cell)))
    (l_law_cell : K.lookup f_law_cell = some ⟨oc_law_cell, od_law_cell, .func (PySem.W.fnOf "_law_cell" "_law_cell" (defArgs sCell) (defBody sCell) (defScope sCell) .none kV_law_cell dc_law_cell pm_law_cell an_law_cell cd_law_cell ct_law_cell), sl_law_cell⟩)
    (c_law_cell : PySem.W.codeIn K cd_law_cell "_law_cell" = true)
    (k_law_cell : PySem.W.keepIn K (.ref f_law_cell) = true)
    (a_law_dice : PySem.W.nsIn K mainGlobals "_law_dice" = some (some (.ref f_law_dice)))
    (l_law_dice : K.lookup f_law_dice = some ⟨oc_law_dice, od_law_dice, .func (PySem.W.fnOf "_law_dice" "_law_dice" (defArgs sDice) (defBody sDice) (defScope sDice) .none kV_law_dice dc_law_dice pm_law_dice an_law_dice cd_law_dice ct_law_dice), sl_law_dice⟩)
    (c_law_dice : PySem.W.codeIn K cd_law_dice "_law_dice" = true)
    (k_law_dice : PySem.W.keepIn K (.ref f_law_dice) = true)
    (a_law_off : PySem.W.nsIn K mainGlobals "_law_off" = some (some (.ref f_law_off)))
    (l_law_off : K.lookup f_law_off = some ⟨oc_law_off, od_law_off, .func (PySem.W.fnOf "_law_off" "_law_off" (defArgs sOff) (defBody sOff) (defScope sOff) .none kV_law_off dc_law_off pm_law_off an_law_off cd_law_off ct_law_off), sl_law_off⟩)
    (c_law_off : PySem.W.codeIn K cd_law_off "_law_off" = true)
    (k_law_off : PySem.W.keepIn K (.ref f_law_off) = true)
    (a_law_chain : PySem.W.nsIn K mainGlobals "_law_chain" = some (some (.ref f_law_chain)))
    (l_law_chain : K.lookup f_law_chain = some ⟨oc_law_chain, od_law_chain, .func (PySem.W.fnOf "_law_chain" "_law_chain" (defArgs sChain) (defBody sChain) (defScope sChain) .none kV_law_chain dc_law_chain pm_law_chain an_law_chain cd_law_chain ct_law_chain), sl_law_chain⟩)
    (c_law_chain : PySem.W.codeIn K cd_law_chain "_law_chain" = true)
    (k_law_chain : PySem.W.keepIn K (.ref f_law_chain) = true)
    (a_law_made : PySem.W.nsIn K mainGlobals "_law_made" = some (some (.ref f_law_made)))
    (l_law_made : K.lookup f_law_made = some ⟨oc_law_made, od_law_made, .func (PySem.W.fnOf "_law_made" "_law_made" (defArgs sMade) (defBody sMade) (defScope sMade) .none kV_law_made dc_law_made pm_law_made an_law_made cd_law_made ct_law_made), sl_law_made⟩)
    (c_law_made : PySem.W.codeIn K cd_law_made "_law_made" = true)
    (k_law_made : PySem.W.keepIn K (.ref f_law_made) = true)
    (a_law_numbers : PySem.W.nsIn K mainGlobals "_law_numbers" = some (some (.ref f_law_numbers)))
    (l_law_numbers : K.lookup f_law_numbers = some ⟨oc_law_numbers, od_law_numbers, .func (PySem.W.fnOf "_law_numbers" "_law_numbers" (defArgs sNumbers) (defBody sNumbers) (defScope sNumbers) .none kV_law_numbers dc_law_numbers pm_law_numbers an_law_numbers cd_law_numbers ct_law_numbers), sl_law_numbers⟩)
    (c_law_numbers : PySem.W.codeIn K cd_law_numbers "_law_numbers" = true)
    (k_law_numbers : PySem.W.keepIn K (.ref f_law_numbers) = true)
    (a_law_ends : PySem.W.nsIn K mainGlobals "_law_ends" = some (some (.ref f_law_ends)))
    (l_law_ends : K.lookup f_law_ends = some ⟨oc_law_ends, od_law_ends, .func (PySem.W.fnOf "_law_ends" "_law_ends" (defArgs sLawEnds) (defBody sLawEnds) (defScope sLawEnds) .none kV_law_ends dc_law_ends pm_law_ends an_law_ends cd_law_ends ct_law_ends), sl_law_ends⟩)
    (c_law_ends : PySem.W.codeIn K cd_law_ends "_law_ends" = true)
    (k_law_ends : PySem.W.keepIn K (.ref f_law_ends) = true)
    (a_law_drawn : PySem.W.nsIn K mainGlobals "_law_drawn" = some (some (.ref f_law_drawn)))
    (l_law_drawn : K.lookup f_law_drawn = some ⟨oc_law_drawn, od_law_drawn, .func (PySem.W.fnOf "_law_drawn" "_law_drawn" (defArgs sLawDrawn) (defBody sLawDrawn) (defScope sLawDrawn) .none kV_law_drawn dc_law_drawn pm_law_drawn an_law_drawn cd_law_drawn ct_law_drawn), sl_law_drawn⟩)
    (c_law_drawn : PySem.W.codeIn K cd_law_drawn "_law_drawn" = true)
    (k_law_drawn : PySem.W.keepIn K (.ref f_law_drawn) = true)
    (a_law_broken : PySem.W.nsIn K mainGlobals "_law_broken" = some (some (.ref f_law_broken)))
    (l_law_broken : K.lookup f_law_broken = some ⟨oc_law_broken, od_law_broken, .func (PySem.W.fnOf "_law_broken" "_law_broken" (defArgs sLawBroken) (defBody sLawBroken) (defScope sLawBroken) .none kV_law_broken dc_law_broken pm_law_broken an_law_broken cd_law_broken ct_law_broken), sl_law_broken⟩)
    (c_law_broken : PySem.W.codeIn K cd_law_broken "_law_broken" = true)
    (k_law_broken : PySem.W.keepIn K (.ref f_law_broken) = true)
    (a_law_word : PySem.W.nsIn K mainGlobals "_law_word" = some (some (.ref f_law_word)))
    (l_law_word : K.lookup f_law_word = some ⟨oc_law_word, od_law_word, .func (PySem.W.fnOf "_law_word" "_law_word" (defArgs sLawWord) (defBody sLawWord) (defScope sLawWord) .none kV_law_word dc_law_word pm_law_word an_law_word cd_law_word ct_law_word), sl_law_word⟩)
    (c_law_word : PySem.W.codeIn K cd_law_word "_law_word" = true)
    (k_law_word : PySem.W.keepIn K (.ref f_law_word) = true)
    (a_law : PySem.W.nsIn K mainGlobals "law" = some (some (.ref f_law)))
    (l_law : K.lookup f_law = some ⟨oc_law, od_law, .func (PySem.W.fnOf "law" "law" (defArgs sLaw) (defBody sLaw) (defScope sLaw) .none kV_law dc_law pm_law an_law cd_law ct_law), sl_law⟩)
    (c_law : PySem.W.codeIn K cd_law "law" = true)
    (k_law : PySem.W.keepIn K (.ref f_law) = true)
    (aC : PySem.W.nsIn K mainGlobals "Chain" = some (some (.ref C)))
    (a_minit : PySem.W.findIn K (.ref C) "__init__" = some (some (.ref f_minit)))
    (i_minit : PySem.W.isFn K (.ref f_minit) = true)
    (l_minit : K.lookup f_minit = some ⟨oc_minit, od_minit, .func (PySem.W.fnOf "__init__" "Chain.__init__" (defArgs (inClass cChain 0)) (defBody (inClass cChain 0)) (defScope (inClass cChain 0)) .none kV_minit dc_minit pm_minit an_minit cd_minit ct_minit), sl_minit⟩)
    (c_minit : PySem.W.codeIn K cd_minit "Chain.__init__" = true)
    (k_minit : PySem.W.keepIn K (.ref f_minit) = true)
    (a_mplaces : PySem.W.findIn K (.ref C) "places" = some (some (.ref f_mplaces)))
    (i_mplaces : PySem.W.isFn K (.ref f_mplaces) = true)
    (l_mplaces : K.lookup f_mplaces = some ⟨oc_mplaces, od_mplaces, .func (PySem.W.fnOf "places" "Chain.places" (defArgs (inClass cChain 1)) (defBody (inClass cChain 1)) (defScope (inClass cChain 1)) .none kV_mplaces dc_mplaces pm_mplaces an_mplaces cd_mplaces ct_mplaces), sl_mplaces⟩)
    (c_mplaces : PySem.W.codeIn K cd_mplaces "Chain.places" = true)
    (k_mplaces : PySem.W.keepIn K (.ref f_mplaces) = true)
    (a_mtold : PySem.W.findIn K (.ref C) "told" = some (some (.ref f_mtold)))
    (i_mtold : PySem.W.isFn K (.ref f_mtold) = true)
    (l_mtold : K.lookup f_mtold = some ⟨oc_mtold, od_mtold, .func (PySem.W.fnOf "told" "Chain.told" (defArgs (inClass cChain 2)) (defBody (inClass cChain 2)) (defScope (inClass cChain 2)) .none kV_mtold dc_mtold pm_mtold an_mtold cd_mtold ct_mtold), sl_mtold⟩)
    (c_mtold : PySem.W.codeIn K cd_mtold "Chain.told" = true)
    (k_mtold : PySem.W.keepIn K (.ref f_mtold) = true)
    (pg : PySem.W.plainGet K C Str.empty = true)
    (hd : PySem.W.hasDictIn K C = true)
    (po : PySem.W.plainOver K C = true)
    (sa : PySem.W.findIn K (.ref C) "__setattr__" = some (some (.builtin "object.__setattr__")))
    (mk : PySem.W.makesIn K C = true)
    (kc : PySem.W.keepIn K (.ref C) = true)
    (nM : PySem.W.findIn K (.ref C) "_many" = some none)
    (nV : PySem.W.findIn K (.ref C) "_moves" = some none)
    (gMOST_PLACES : PySem.W.nsIn K mainGlobals "MOST_PLACES" = some (some (.int 6 tMOST_PLACES)))
    (gMOST_MOVES : PySem.W.nsIn K mainGlobals "MOST_MOVES" = some (some (.int 8 tMOST_MOVES)))
    (gMOST_WEIGHT : PySem.W.nsIn K mainGlobals "MOST_WEIGHT" = some (some (.int 99 tMOST_WEIGHT)))
    (zlen : PySem.W.nsIn K mainGlobals "len" = some none)
    (zabs : PySem.W.nsIn K mainGlobals "abs" = some none)
    (zmax : PySem.W.nsIn K mainGlobals "max" = some none)
    (zmin : PySem.W.nsIn K mainGlobals "min" = some none)
    (zint : PySem.W.nsIn K mainGlobals "int" = some none)
    (zrange : PySem.W.nsIn K mainGlobals "range" = some none)
    (zsorted : PySem.W.nsIn K mainGlobals "sorted" = some none)
    (ztuple : PySem.W.nsIn K mainGlobals "tuple" = some none)
    (zisinstance : PySem.W.nsIn K mainGlobals "isinstance" = some none)
    (zall : PySem.W.nsIn K mainGlobals "all" = some none)
    (zenumerate : PySem.W.nsIn K mainGlobals "enumerate" = some none)
    (zlist : PySem.W.nsIn K mainGlobals "list" = some none)
    (zset : PySem.W.nsIn K mainGlobals "set" = some none)
    (zreversed : PySem.W.nsIn K mainGlobals "reversed" = some none)
    (zbool : PySem.W.nsIn K mainGlobals "bool" = some none)
    (zValueError : PySem.W.nsIn K mainGlobals "ValueError" = some none)
    (eLongError : PySem.W.nsIn K mainGlobals "LongError" = some (some (.ref ALongError)))
    (eBadChain : PySem.W.nsIn K mainGlobals "BadChain" = some (some (.ref ABadChain)))
    (eBadText : PySem.W.nsIn K mainGlobals "BadText" = some (some (.ref ABadText)))
    (eNoSuch : PySem.W.nsIn K mainGlobals "NoSuch" = some (some (.ref ANoSuch)))
    (eNotOne : PySem.W.nsIn K mainGlobals "NotOne" = some (some (.ref ANotOne)))
    (eNeverOne : PySem.W.nsIn K mainGlobals "NeverOne" = some (some (.ref ANeverOne)))
    (eNotOrdered : PySem.W.nsIn K mainGlobals "NotOrdered" = some (some (.ref ANotOrdered)))
    (eTooMany : PySem.W.nsIn K mainGlobals "TooMany" = some (some (.ref ATooMany)))
    (xkNoSuch : PySem.W.keepIn K (.ref ANoSuch) = true)
    (xxNoSuch : PySem.W.excIn K ANoSuch [.type "ValueError", .type "Exception", .type "BaseException", .type "object"] "ValueError.__new__" = true)
    (xbNoSuch : PySem.W.subIn K (.ref ANoSuch) (.type "BaseException") = some true)
    (xtNoSuch : PySem.W.typeIn K (.ref ANoSuch) = some (.type "type"))
    (oeiNotOrdered : oexB K ANotOrdered = true)
    (osiNotOrdered : PySem.W.findIn K (.ref ANotOrdered) "__setattr__" = some (some (.builtin "object.__setattr__")))
    (obiNotOrdered : PySem.W.subIn K (.ref ANotOrdered) (.type "BaseException") = some true)
    (otiNotOrdered : PySem.W.typeIn K (.ref ANotOrdered) = some (.type "type"))
    (okiNotOrdered : PySem.W.keepIn K (.ref ANotOrdered) = true)
    (oiiNotOrdered : PySem.W.findIn K (.ref ANotOrdered) "__init__" = some (some (.ref f_iNotOrdered)))
    (ofiNotOrdered : PySem.W.typeIn K (.ref f_iNotOrdered) = some (.type "function"))
    (oniNotOrdered : PySem.W.findIn K (.ref ANotOrdered) "move" = some none)
    (l_iNotOrdered : K.lookup f_iNotOrdered = some ⟨oc_iNotOrdered, od_iNotOrdered, .func (PySem.W.fnX "__init__" "NotOrdered.__init__" (defArgs (inClass cNotOrdered 0)) (defBody (inClass cNotOrdered 0)) (defScope (inClass cNotOrdered 0)) [("__class__", cc_iNotOrdered)] .none kV_iNotOrdered dc_iNotOrdered pm_iNotOrdered an_iNotOrdered (.ref cda_iNotOrdered) ct_iNotOrdered), sl_iNotOrdered⟩)
    (c_iNotOrdered : PySem.W.codeIn K (.ref cda_iNotOrdered) "NotOrdered.__init__" = true)
    (oc1iNotOrdered : K.lookup cda_iNotOrdered = some ⟨ccl_iNotOrdered, cdd_iNotOrdered, .fields vs_iNotOrdered, ccs_iNotOrdered⟩)
    (oc2iNotOrdered : vs_iNotOrdered[2]? = some (.str fi_iNotOrdered tf_iNotOrdered))
    (oc3iNotOrdered : ((l.prog.main.file : Str) == fi_iNotOrdered) = true)
    (oliNotOrdered : K.lookup cc_iNotOrdered = some ⟨cl_iNotOrdered, cld_iNotOrdered, .cell (some (.ref ANotOrdered)), csl_iNotOrdered⟩)
    (odiNotOrdered : (PySem.W.clsIn K ANotOrdered).isSome = true)
    (omiNotOrdered : PySem.W.mroIn K ANotOrdered (.ref ANotOrdered) = some true)
    (oaiNotOrdered : PySem.W.ks_superIn K ANotOrdered ANotOrdered "__init__" = some (some (.builtin "ValueError.__init__")))
    (oviNotOrdered : PySem.W.subIn K (.ref ANotOrdered) (.type "ValueError") = some true)
    (zsuper : PySem.W.nsIn K mainGlobals "super" = some none)
    (ztop : (l.prog.main.scope.names.lookup ("super" : Str)).isSome = false)
    (zstat : PySem.W.nsIn K cStatics "thirdparty.any" = some none)
    (gperm : PySem.W.nsIn K mainGlobals "permutations" = some (some (.type "itertools.permutations")))
    (wexO : PySem.W.exmOne K (.ref ANotOrdered) (.ref ALongError) = some true)
    (wgO : PySem.W.findIn K (.ref ANotOrdered) "__getattribute__" = some (some (.builtin "BaseException.__getattribute__")))
    (whO : PySem.W.findIn K (.ref ANotOrdered) "__getattr__" = some none)
    (wdO : PySem.W.hasDictIn K ANotOrdered = true)
    (waO : PySem.W.findIn K (.ref ANotOrdered) "__class__" = some (some (.builtin "object.__class__")))
    (wmO : PySem.W.mroIn K ANotOrdered (.type "object") = some true)
    (wnoO : PySem.W.kitAny K (.ref ANotOrdered) [.ref ABadChain, .ref ABadText, .ref ANeverOne, .ref ANotOne, .ref ATooMany] = some false)
    (wvO : PySem.W.kitOne K (.ref ANotOrdered) (.type "ValueError") = some true)
    (wexN : PySem.W.exmOne K (.ref ANoSuch) (.ref ALongError) = some true)
    (wgN : PySem.W.findIn K (.ref ANoSuch) "__getattribute__" = some (some (.builtin "BaseException.__getattribute__")))
    (whN : PySem.W.findIn K (.ref ANoSuch) "__getattr__" = some none)
    (wdN : PySem.W.hasDictIn K ANoSuch = true)
    (waN : PySem.W.findIn K (.ref ANoSuch) "__class__" = some (some (.builtin "object.__class__")))
    (wmN : PySem.W.mroIn K ANoSuch (.type "object") = some true)
    (wnoN : PySem.W.kitAny K (.ref ANoSuch) [.ref ABadChain, .ref ABadText, .ref ANeverOne, .ref ANotOne, .ref ATooMany] = some false)
    (wvN : PySem.W.kitOne K (.ref ANoSuch) (.type "ValueError") = some true)
    (wn : PySem.W.specialIn K (.builtin "object.__class__") "__get__" = some (some (.builtin "getset_descriptor.__get__")))
    (ws : PySem.W.takesIn K (.builtin "object.__class__") = some true)
    (won : PySem.W.kitOne K (.ref ANotOrdered) (.ref ANoSuch) = some false)
    (wnn : PySem.W.kitOne K (.ref ANoSuch) (.ref ANoSuch) = some true)
    (wno : PySem.W.kitOne K (.ref ANoSuch) (.ref ANotOrdered) = some false)
    (lM_is_move : K.lookup cM_is_move = some ⟨eM_is_move, ddM_is_move, .fields vsM_is_move, slM_is_move⟩)
    (vM_is_move : vsM_is_move[11]? = some (.ref tM_is_move))
    (hM_is_move : PySem.W.codeHdIn K cM_is_move tM_is_move = true)
    (nT_is_move : K.lookup tM_is_move = none) :
    LamX.LawAtS l w K CX0 6 63 "_law_script" mg fa h := by
  have e := hfa.symm.trans (PySem.W.mg_of X G a_law)
  cases e
  have F_steps_of := fun_mk (st := sStepsOf) l_steps_of c_steps_of k_steps_of
  have b_steps_of := F_steps_of.binds (ps := ["chain", "numbers"]) fun _ _ _ _ _ _ us hl => match us, hl with | [_, _], _ => rfl
  have g_steps_of := PySem.W.mg_of X G a_steps_of
  have D_steps_of : Df K mg "steps_of" sStepsOf ["chain", "numbers"] f_steps_of _ := ⟨F_steps_of, b_steps_of, g_steps_of⟩
  have F_drawn_from := fun_mk (st := sDrawnFrom) l_drawn_from c_drawn_from k_drawn_from
  have b_drawn_from := F_drawn_from.binds (ps := ["chain", "begins", "numbers"]) fun _ _ _ _ _ _ us hl => match us, hl with | [_, _, _], _ => rfl
  have g_drawn_from := PySem.W.mg_of X G a_drawn_from
  have D_drawn_from : Df K mg "drawn_from" sDrawnFrom ["chain", "begins", "numbers"] f_drawn_from _ := ⟨F_drawn_from, b_drawn_from, g_drawn_from⟩
  have F_are_one := fun_mk (st := sAreOne) l_are_one c_are_one k_are_one
  have b_are_one := F_are_one.binds (ps := ["ends"]) fun _ _ _ _ _ _ us hl => match us, hl with | [_], _ => rfl
  have g_are_one := PySem.W.mg_of X G a_are_one
  have D_are_one : Df K mg "_are_one" sAreOne ["ends"] f_are_one _ := ⟨F_are_one, b_are_one, g_are_one⟩
  have F_keeps_order := fun_mk (st := sKeepsOrder) l_keeps_order c_keeps_order k_keeps_order
  have b_keeps_order := F_keeps_order.binds (ps := ["chain", "order"]) fun _ _ _ _ _ _ us hl => match us, hl with | [_, _], _ => rfl
  have g_keeps_order := PySem.W.mg_of X G a_keeps_order
  have D_keeps_order : Df K mg "keeps_order" sKeepsOrder ["chain", "order"] f_keeps_order _ := ⟨F_keeps_order, b_keeps_order, g_keeps_order⟩
  have F_first_order := fun_mk (st := sFirstOrder) l_first_order c_first_order k_first_order
  have b_first_order := F_first_order.binds (ps := ["chain"]) fun _ _ _ _ _ _ us hl => match us, hl with | [_], _ => rfl
  have g_first_order := PySem.W.mg_of X G a_first_order
  have D_first_order : Df K mg "first_order" sFirstOrder ["chain"] f_first_order _ := ⟨F_first_order, b_first_order, g_first_order⟩
  have F_by_ends := fun_mk (st := sByEnds) l_by_ends c_by_ends k_by_ends
  have b_by_ends := F_by_ends.binds (ps := ["chain", "order", "numbers"]) fun _ _ _ _ _ _ us hl => match us, hl with | [_, _, _], _ => rfl
  have g_by_ends := PySem.W.mg_of X G a_by_ends
  have D_by_ends : Df K mg "by_ends" sByEnds ["chain", "order", "numbers"] f_by_ends _ := ⟨F_by_ends, b_by_ends, g_by_ends⟩
  have F_first_breaking := fun_mk (st := sFirstBreaking) l_first_breaking c_first_breaking k_first_breaking
  have b_first_breaking := F_first_breaking.binds (ps := ["chain", "order"]) fun _ _ _ _ _ _ us hl => match us, hl with | [_, _], _ => rfl
  have g_first_breaking := PySem.W.mg_of X G a_first_breaking
  have D_first_breaking : Df K mg "_first_breaking" sFirstBreaking ["chain", "order"] f_first_breaking _ := ⟨F_first_breaking, b_first_breaking, g_first_breaking⟩
  have F_keeps := fun_mk (st := sKeeps) l_keeps c_keeps k_keeps
  have b_keeps := F_keeps.binds (ps := ["whither", "order"]) fun _ _ _ _ _ _ us hl => match us, hl with | [_, _], _ => rfl
  have g_keeps := PySem.W.mg_of X G a_keeps
  have D_keeps : Df K mg "_keeps" sKeeps ["whither", "order"] f_keeps _ := ⟨F_keeps, b_keeps, g_keeps⟩
  have FM_is_move : FunT K "_is_move" "_is_move" sIsMove f_is_move _ cM_is_move := ⟨⟨_, _, _, _, _, _, _, _, rfl, l_is_move, c_is_move⟩, k_is_move⟩
  have F_is_move := fun_mk (st := sIsMove) l_is_move c_is_move k_is_move
  have b_is_move := F_is_move.binds (ps := ["many", "move"]) fun _ _ _ _ _ _ us hl => match us, hl with | [_, _], _ => rfl
  have g_is_move := PySem.W.mg_of X G a_is_move
  have D_is_move : Df K mg "_is_move" sIsMove ["many", "move"] f_is_move _ := ⟨F_is_move, b_is_move, g_is_move⟩
  have F_law_cell := fun_mk (st := sCell) l_law_cell c_law_cell k_law_cell
  have b_law_cell := F_law_cell.binds (ps := ["_law_script", "_law_k"]) fun _ _ _ _ _ _ us hl => match us, hl with | [_, _], _ => rfl
  have g_law_cell := PySem.W.mg_of X G a_law_cell
  have D_law_cell : Df K mg "_law_cell" sCell ["_law_script", "_law_k"] f_law_cell _ := ⟨F_law_cell, b_law_cell, g_law_cell⟩
  have F_law_dice := fun_mk (st := sDice) l_law_dice c_law_dice k_law_dice
  have b_law_dice := F_law_dice.binds (ps := ["_law_script", "_law_k"]) fun _ _ _ _ _ _ us hl => match us, hl with | [_, _], _ => rfl
  have g_law_dice := PySem.W.mg_of X G a_law_dice
  have D_law_dice : Df K mg "_law_dice" sDice ["_law_script", "_law_k"] f_law_dice _ := ⟨F_law_dice, b_law_dice, g_law_dice⟩
  have F_law_off := fun_mk (st := sOff) l_law_off c_law_off k_law_off
  have b_law_off := F_law_off.binds (ps := ["_law_d", "_law_most"]) fun _ _ _ _ _ _ us hl => match us, hl with | [_, _], _ => rfl
  have g_law_off := PySem.W.mg_of X G a_law_off
  have D_law_off : Df K mg "_law_off" sOff ["_law_d", "_law_most"] f_law_off _ := ⟨F_law_off, b_law_off, g_law_off⟩
  have F_law_chain := fun_mk (st := sChain) l_law_chain c_law_chain k_law_chain
  have b_law_chain := F_law_chain.binds (ps := ["_law_d", "_law_most"]) fun _ _ _ _ _ _ us hl => match us, hl with | [_, _], _ => rfl
  have g_law_chain := PySem.W.mg_of X G a_law_chain
  have D_law_chain : Df K mg "_law_chain" sChain ["_law_d", "_law_most"] f_law_chain _ := ⟨F_law_chain, b_law_chain, g_law_chain⟩
  have F_law_made := fun_mk (st := sMade) l_law_made c_law_made k_law_made
  have b_law_made := F_law_made.binds (ps := ["_law_told"]) fun _ _ _ _ _ _ us hl => match us, hl with | [_], _ => rfl
  have g_law_made := PySem.W.mg_of X G a_law_made
  have D_law_made : Df K mg "_law_made" sMade ["_law_told"] f_law_made _ := ⟨F_law_made, b_law_made, g_law_made⟩
  have F_law_numbers := fun_mk (st := sNumbers) l_law_numbers c_law_numbers k_law_numbers
  have b_law_numbers := F_law_numbers.binds (ps := ["_law_d", "_law_moves", "_law_most"]) fun _ _ _ _ _ _ us hl => match us, hl with | [_, _, _], _ => rfl
  have g_law_numbers := PySem.W.mg_of X G a_law_numbers
  have D_law_numbers : Df K mg "_law_numbers" sNumbers ["_law_d", "_law_moves", "_law_most"] f_law_numbers _ := ⟨F_law_numbers, b_law_numbers, g_law_numbers⟩
  have F_law_ends := fun_mk (st := sLawEnds) l_law_ends c_law_ends k_law_ends
  have b_law_ends := F_law_ends.binds (ps := ["_law_told", "_law_numbers_here"]) fun _ _ _ _ _ _ us hl => match us, hl with | [_, _], _ => rfl
  have g_law_ends := PySem.W.mg_of X G a_law_ends
  have D_law_ends : Df K mg "_law_ends" sLawEnds ["_law_told", "_law_numbers_here"] f_law_ends _ := ⟨F_law_ends, b_law_ends, g_law_ends⟩
  have F_law_drawn := fun_mk (st := sLawDrawn) l_law_drawn c_law_drawn k_law_drawn
  have b_law_drawn := F_law_drawn.binds (ps := ["_law_told", "_law_numbers_here"]) fun _ _ _ _ _ _ us hl => match us, hl with | [_, _], _ => rfl
  have g_law_drawn := PySem.W.mg_of X G a_law_drawn
  have D_law_drawn : Df K mg "_law_drawn" sLawDrawn ["_law_told", "_law_numbers_here"] f_law_drawn _ := ⟨F_law_drawn, b_law_drawn, g_law_drawn⟩
  have F_law_broken := fun_mk (st := sLawBroken) l_law_broken c_law_broken k_law_broken
  have b_law_broken := F_law_broken.binds (ps := ["_law_told", "_law_order"]) fun _ _ _ _ _ _ us hl => match us, hl with | [_, _], _ => rfl
  have g_law_broken := PySem.W.mg_of X G a_law_broken
  have D_law_broken : Df K mg "_law_broken" sLawBroken ["_law_told", "_law_order"] f_law_broken _ := ⟨F_law_broken, b_law_broken, g_law_broken⟩
  have F_law_word := fun_mk (st := sLawWord) l_law_word c_law_word k_law_word
  have b_law_word := F_law_word.binds (ps := ["_law_chain_here", "_law_order", "_law_numbers_here", "_law_broken_here"]) fun _ _ _ _ _ _ us hl => match us, hl with | [_, _, _, _], _ => rfl
  have g_law_word := PySem.W.mg_of X G a_law_word
  have D_law_word : Df K mg "_law_word" sLawWord ["_law_chain_here", "_law_order", "_law_numbers_here", "_law_broken_here"] f_law_word _ := ⟨F_law_word, b_law_word, g_law_word⟩
  have F_law := fun_mk (st := sLaw) l_law c_law k_law
  have g_law := PySem.W.mg_of X G a_law
  have F_minit := fun_mk (st := inClass cChain 0) l_minit c_minit k_minit
  have b_minit := F_minit.binds (ps := ["self", "many", "moves"]) fun _ _ _ _ _ _ us hl => match us, hl with | [_, _, _], _ => rfl
  have F_mplaces := fun_mk (st := inClass cChain 1) l_mplaces c_mplaces k_mplaces
  have b_mplaces := F_mplaces.binds (ps := ["self"]) fun _ _ _ _ _ _ us hl => match us, hl with | [_], _ => rfl
  have F_mtold := fun_mk (st := inClass cChain 2) l_mtold c_mtold k_mtold
  have b_mtold := F_mtold.binds (ps := ["self"]) fun _ _ _ _ _ _ us hl => match us, hl with | [_], _ => rfl
  have gC := PySem.W.mg_of X G aC
  have GMOST_PLACES := PySem.W.mg_of X G gMOST_PLACES
  have GMOST_MOVES := PySem.W.mg_of X G gMOST_MOVES
  have GMOST_WEIGHT := PySem.W.mg_of X G gMOST_WEIGHT
  have Zlen := PySem.W.mg_none_of X G zlen
  have Zabs := PySem.W.mg_none_of X G zabs
  have Zmax := PySem.W.mg_none_of X G zmax
  have Zmin := PySem.W.mg_none_of X G zmin
  have Zint := PySem.W.mg_none_of X G zint
  have Zrange := PySem.W.mg_none_of X G zrange
  have Zsorted := PySem.W.mg_none_of X G zsorted
  have Ztuple := PySem.W.mg_none_of X G ztuple
  have Zisinstance := PySem.W.mg_none_of X G zisinstance
  have Zall := PySem.W.mg_none_of X G zall
  have Zenumerate := PySem.W.mg_none_of X G zenumerate
  have Zlist := PySem.W.mg_none_of X G zlist
  have Zset := PySem.W.mg_none_of X G zset
  have Zreversed := PySem.W.mg_none_of X G zreversed
  have Zbool := PySem.W.mg_none_of X G zbool
  have ZValueError := PySem.W.mg_none_of X G zValueError
  have tabE_is_move : h.get? tM_is_move = some { cls := .none, data := .fields #[] } := by
    obtain ⟨a', o', fd', c', P', oc, vc, g1, g2, g3, g4, e1, e3, e4, e5⟩ := TO_is_move
    rw [g_is_move] at g1
    cases g1
    have q1 := X _ _ l_is_move
    rw [q1] at g2
    cases g2
    cases g3
    cases g4
    have q2 := X _ _ lM_is_move
    rw [q2] at e1
    cases e1
    cases e3
    rw [vM_is_move] at e4
    cases e4
    exact e5
  have LT : LawTxt K mg f_law_cell f_law_dice f_law_off _ _ _ := ⟨F_law_cell, b_law_cell, g_law_cell, F_law_dice, b_law_dice, g_law_dice, F_law_off, b_law_off, g_law_off, Zlen, Zabs, Zmax, Zmin, Zint, Zrange, Zsorted, Ztuple⟩
  have CL' : Cls K C := ⟨pg, hd, po, sa⟩
  have CH : ChTxt K mg f_is_move cM_is_move tM_is_move _ C f_minit _ := ⟨FM_is_move, b_is_move, g_is_move, F_minit, b_minit, ⟨mk, a_minit, i_minit, kc⟩, CL', nM, nV, gC, ⟨_, GMOST_PLACES⟩, ⟨_, GMOST_MOVES⟩, ⟨_, GMOST_WEIGHT⟩, Zlen, Zisinstance, Ztuple, Zrange, Zall, Zenumerate, Zlist⟩
  have CM : ChM K C f_mplaces f_mtold _ _ := ⟨F_mplaces, b_mplaces, ⟨a_mplaces, i_mplaces, k_mplaces⟩, F_mtold, b_mtold, ⟨a_mtold, i_mtold, k_mtold⟩, CL', nM, nV⟩
  have N_NoSuch : OwnE K mg "NoSuch" ANoSuch := ⟨PySem.W.mg_of X G eNoSuch, xkNoSuch, xxNoSuch, xbNoSuch, xtNoSuch⟩
  have X_NotOrdered : OexC K ANotOrdered := oexB_ok oeiNotOrdered osiNotOrdered obiNotOrdered otiNotOrdered okiNotOrdered
  have T_NotOrdered : SupE l.prog K ANotOrdered cc_iNotOrdered cda_iNotOrdered := ⟨X_NotOrdered, ⟨_, _, _, _, _, _, oc1iNotOrdered, oc2iNotOrdered, oc3iNotOrdered⟩, ⟨_, _, _, oliNotOrdered⟩, Option.isSome_iff_exists.mp odiNotOrdered, omiNotOrdered, zsuper, ztop, zstat, oaiNotOrdered, oviNotOrdered⟩
  have N_NotOrdered : OwnI K mg "NotOrdered" ANotOrdered f_iNotOrdered (PySem.W.fnX "__init__" "NotOrdered.__init__" (defArgs (inClass cNotOrdered 0)) (defBody (inClass cNotOrdered 0)) (defScope (inClass cNotOrdered 0)) [("__class__", cc_iNotOrdered)] .none kV_iNotOrdered dc_iNotOrdered pm_iNotOrdered an_iNotOrdered (.ref cda_iNotOrdered) ct_iNotOrdered) ["self", "move"] "move" := ⟨PySem.W.mg_of X G eNotOrdered, X_NotOrdered, oiiNotOrdered, ofiNotOrdered, oniNotOrdered, Binds.all (fun us hl => match us, hl with | [_, _], _ => rfl)⟩
  refine ⟨PySem.W.fnOf "law" "law" (defArgs sLaw) (defBody sLaw) (defScope sLaw) .none kV_law dc_law pm_law an_law cd_law ct_law, [(cM_is_move, tM_is_move)], spLaw K tM_is_move, fun p hp => ?_, fun p hp => ?_, fun p hp => ?_, fun s v => .of_eq rfl, fun H a ns hl hbits hT hS => ?_, fun base hK hG hTB => ?_⟩
  · have e : p = (cM_is_move, tM_is_move) := by simpa using hp
    rw [e]
    exact tabE_is_move
  · have e : p = (cM_is_move, tM_is_move) := by simpa using hp
    rw [e]
    exact nT_is_move
  · have e : p = (cM_is_move, tM_is_move) := by simpa using hp
    rw [e]
    exact PySem.W.codeHd_of_K X hM_is_move
  · exact ⟨a, ns, rfl, hS, hl, ⟨#[], hT (cM_is_move, tM_is_move) (by simp), by simp [TriplesOk]⟩, fun _ => rfl⟩
  · have TBx := hTB (cM_is_move, tM_is_move) (by simp)
    have TB : GxR.TabB base mg cM_is_move tM_is_move := ⟨TBx.code, TBx.bm, TBx.gP⟩
    have GFb : FnOk l.prog w K mg base CX0 2 f_first_breaking _ ["chain", "order"] (spFb C) := ok_fb F_first_breaking D_keeps CM Zsorted Zlist Zrange Zenumerate
    have GKo : FnOk l.prog w K mg base CX0 3 f_keeps_order _ ["chain", "order"] (spKo C) := ok_ko F_keeps_order D_first_breaking GFb
    have GFo : FnOk l.prog w K mg base CX0 4 f_first_order _ ["chain"] (spFo C) := ok_fo F_first_order D_keeps_order GKo CM Zlist Zrange (PySem.W.mg_of X G gperm)
    have GDf : FnOk l.prog w K mg base CX0 3 f_drawn_from _ ["chain", "begins", "numbers"] (spDf K C) := ok_drawnFrom F_drawn_from F_steps_of b_steps_of g_steps_of F_are_one b_are_one g_are_one CM Zrange Zlen Zlist Zset
    have GDX : FnOk l.prog w K mg base (L2.CX l.prog w) 3 f_drawn_from _ ["chain", "begins", "numbers"] (spDfX K C ANoSuch) := ok_drawnFromX F_drawn_from F_steps_of b_steps_of g_steps_of CM N_NoSuch Zrange Zlen Zlist
    have GI : FnOk l.prog w K mg base CX0 1 f_iNotOrdered _ ["self", "move"] (spNO K ANotOrdered) := ok_no T_NotOrdered l_iNotOrdered c_iNotOrdered
    have GBe : FnOk l.prog w K mg base CX0 4 f_by_ends _ ["chain", "order", "numbers"] (spBe C) := ok_be F_by_ends D_first_breaking GFb D_drawn_from GDf
    have GBO : FnOk l.prog w K mg base (L2.CX l.prog w) 4 f_by_ends _ ["chain", "order", "numbers"] (spBeO C ANotOrdered) := ok_beO F_by_ends D_first_breaking GFb N_NotOrdered GI
    have GBN : FnOk l.prog w K mg base (L2.CX l.prog w) 4 f_by_ends _ ["chain", "order", "numbers"] (spBeN C ANoSuch) := ok_beN F_by_ends D_first_breaking GFb D_drawn_from GDX
    have R : RefW K mg ALongError ANotOrdered ANoSuch ABadChain ABadText ANeverOne ANotOne ATooMany := ⟨PySem.W.mg_of X G eLongError, wexO, wexN, PySem.W.mg_of X G eNotOrdered, PySem.W.mg_of X G eNoSuch, ⟨wgO, whO, obiNotOrdered, wdO, waO, wn, ws, wmO⟩, ⟨wgN, whN, xbNoSuch, wdN, waN, wn, ws, wmN⟩,
      PySem.W.mg_of X G eBadChain, PySem.W.mg_of X G eBadText, PySem.W.mg_of X G eNeverOne, PySem.W.mg_of X G eNotOne, PySem.W.mg_of X G eTooMany, wnoO, wnoN, wvO, wvN, won, wnn, wno, oniNotOrdered, Zisinstance, ZValueError, Zbool⟩
    have GW : FnOk l.prog w K mg base CX0 5 f_law_word _ ["_law_chain_here", "_law_order", "_law_numbers_here", "_law_broken_here"] (spWd C) := ok_word F_law_word R F_by_ends.kp b_by_ends g_by_ends GBO GBN
    have GLd : FnOk l.prog w K mg base CX0 2 f_law_drawn _ ["_law_told", "_law_numbers_here"] spLd := ok_ldrawn F_law_drawn F_law_ends b_law_ends g_law_ends Zrange Zlist Zlen Zset Zreversed
    have GM : FnOk l.prog w K mg base CX0 4 f_law_made _ ["_law_told"] (spMade C tM_is_move) := ok_made F_law_made CH TB
    exact ok_law F_law LT D_law_chain D_law_made D_law_numbers D_first_order D_law_broken D_law_word D_by_ends D_law_drawn GM GFo GW GBe GLd Zlist Zreversed
end Lg
open PySem PySem.W PyProof.Rows
set_option maxRecDepth 100000 in
set_option maxHeartbeats 0 in
theorem PySem.Challenge.cw_longago_k10_whole_by_the_ends_holds : PySem.Challenge.rw_longago_k10_whole_by_the_ends.Holds := by
  w_on; o_law; k_head; (case hw => w_witness2)
  k_fill
  refine Lg.walk_tab (l := PySem.Challenge.rw_longago_k10_whole_by_the_ends) (n := 63) (k := 6) (x := "_law_script") (CX := fun _ => L2.CX0) "_is_move" rfl (by decide) rfl ⟨rfl, by decide, by decide⟩ (by decide +kernel) (fun w h Y => PySem.W.kIn_of Y) ?F (fun _ _ _ _ _ z => z)
  case F =>
    intro w mg fa h KX G hmg TO0
    refine' Lg.all_mk KX G hmg TO0 ?a_steps_of ?l_steps_of ?c_steps_of ?k_steps_of ?a_drawn_from ?l_drawn_from ?c_drawn_from ?k_drawn_from ?a_are_one ?l_are_one ?c_are_one ?k_are_one ?a_keeps_order ?l_keeps_order ?c_keeps_order ?k_keeps_order ?a_first_order ?l_first_order ?c_first_order ?k_first_order ?a_by_ends ?l_by_ends ?c_by_ends ?k_by_ends ?a_first_breaking ?l_first_breaking ?c_first_breaking ?k_first_breaking ?a_keeps ?l_keeps ?c_keeps ?k_keeps ?a_is_move ?l_is_move ?c_is_move ?k_is_move ?a_law_cell ?l_law_cell ?c_law_cell ?k_law_cell ?a_law_dice ?l_law_dice ?c_law_dice ?k_law_dice ?a_law_off ?l_law_off ?c_law_off ?k_law_off ?a_law_chain ?l_law_chain ?c_law_chain ?k_law_chain ?a_law_made ?l_law_made ?c_law_made ?k_law_made ?a_law_numbers ?l_law_numbers ?c_law_numbers ?k_law_numbers ?a_law_ends ?l_law_ends ?c_law_ends ?k_law_ends ?a_law_drawn ?l_law_drawn ?c_law_drawn ?k_law_drawn ?a_law_broken ?l_law_broken ?c_law_broken ?k_law_broken ?a_law_word ?l_law_word ?c_law_word ?k_law_word ?a_law ?l_law ?c_law ?k_law ?aC ?a_minit ?i_minit ?l_minit ?c_minit ?k_minit ?a_mplaces ?i_mplaces ?l_mplaces ?c_mplaces ?k_mplaces ?a_mtold ?i_mtold ?l_mtold ?c_mtold ?k_mtold ?pg ?hd ?po ?sa ?mk ?kc ?nM ?nV ?gMOST_PLACES ?gMOST_MOVES ?gMOST_WEIGHT ?zlen ?zabs ?zmax ?zmin ?zint ?zrange ?zsorted ?ztuple ?zisinstance ?zall ?zenumerate ?zlist ?zset ?zreversed ?zbool ?zValueError ?eLongError ?eBadChain ?eBadText ?eNoSuch ?eNotOne ?eNeverOne ?eNotOrdered ?eTooMany ?xkNoSuch ?xxNoSuch ?xbNoSuch ?xtNoSuch ?oeiNotOrdered ?osiNotOrdered ?obiNotOrdered ?otiNotOrdered ?okiNotOrdered ?oiiNotOrdered ?ofiNotOrdered ?oniNotOrdered ?l_iNotOrdered ?c_iNotOrdered ?oc1iNotOrdered ?oc2iNotOrdered ?oc3iNotOrdered ?oliNotOrdered ?odiNotOrdered ?omiNotOrdered ?oaiNotOrdered ?oviNotOrdered ?zsuper ?ztop ?zstat ?gperm ?wexO ?wgO ?whO ?wdO ?waO ?wmO ?wnoO ?wvO ?wexN ?wgN ?whN ?wdN ?waN ?wmN ?wnoN ?wvN ?wn ?ws ?won ?wnn ?wno ?lM_is_move ?vM_is_move ?hM_is_move ?nT_is_move
    (case a_steps_of => k_is)
    (case l_steps_of => k_is)
    (case c_steps_of => k_is)
    (case k_steps_of => k_is)
    (case a_drawn_from => k_is)
    (case l_drawn_from => k_is)
    (case c_drawn_from => k_is)
    (case k_drawn_from => k_is)
    (case a_are_one => k_is)
    (case l_are_one => k_is)
    (case c_are_one => k_is)
    (case k_are_one => k_is)
    (case a_keeps_order => k_is)
    (case l_keeps_order => k_is)
    (case c_keeps_order => k_is)
    (case k_keeps_order => k_is)
    (case a_first_order => k_is)
    (case l_first_order => k_is)
    (case c_first_order => k_is)
    (case k_first_order => k_is)
    (case a_by_ends => k_is)
    (case l_by_ends => k_is)
    (case c_by_ends => k_is)
    (case k_by_ends => k_is)
    (case a_first_breaking => k_is)
    (case l_first_breaking => k_is)
    (case c_first_breaking => k_is)
    (case k_first_breaking => k_is)
    (case a_keeps => k_is)
    (case l_keeps => k_is)
    (case c_keeps => k_is)
    (case k_keeps => k_is)
    (case a_is_move => k_is)
    (case l_is_move => k_is)
    (case c_is_move => k_is)
    (case k_is_move => k_is)
    (case a_law_cell => k_is)
    (case l_law_cell => k_is)
    (case c_law_cell => k_is)
    (case k_law_cell => k_is)
    (case a_law_dice => k_is)
    (case l_law_dice => k_is)
    (case c_law_dice => k_is)
    (case k_law_dice => k_is)
    (case a_law_off => k_is)
    (case l_law_off => k_is)
    (case c_law_off => k_is)
    (case k_law_off => k_is)
    (case a_law_chain => k_is)
    (case l_law_chain => k_is)
    (case c_law_chain => k_is)
    (case k_law_chain => k_is)
    (case a_law_made => k_is)
    (case l_law_made => k_is)
    (case c_law_made => k_is)
    (case k_law_made => k_is)
    (case a_law_numbers => k_is)
    (case l_law_numbers => k_is)
    (case c_law_numbers => k_is)
    (case k_law_numbers => k_is)
    (case a_law_ends => k_is)
    (case l_law_ends => k_is)
    (case c_law_ends => k_is)
    (case k_law_ends => k_is)
    (case a_law_drawn => k_is)
    (case l_law_drawn => k_is)
    (case c_law_drawn => k_is)
    (case k_law_drawn => k_is)
    (case a_law_broken => k_is)
    (case l_law_broken => k_is)
    (case c_law_broken => k_is)
    (case k_law_broken => k_is)
    (case a_law_word => k_is)
    (case l_law_word => k_is)
    (case c_law_word => k_is)
    (case k_law_word => k_is)
    (case a_law => k_is)
    (case l_law => k_is)
    (case c_law => k_is)
    (case k_law => k_is)
    (case aC => k_is)
    (case a_minit => k_is)
    (case i_minit => k_is)
    (case l_minit => k_is)
    (case c_minit => k_is)
    (case k_minit => k_is)
    (case a_mplaces => k_is)
    (case i_mplaces => k_is)
    (case l_mplaces => k_is)
    (case c_mplaces => k_is)
    (case k_mplaces => k_is)
    (case a_mtold => k_is)
    (case i_mtold => k_is)
    (case l_mtold => k_is)
    (case c_mtold => k_is)
    (case k_mtold => k_is)
    (case pg => k_is)
    (case hd => k_is)
    (case po => k_is)
    (case sa => k_is)
    (case mk => k_is)
    (case kc => k_is)
    (case nM => k_is)
    (case nV => k_is)
    (case gMOST_PLACES => k_is)
    (case gMOST_MOVES => k_is)
    (case gMOST_WEIGHT => k_is)
    (case zlen => k_is)
    (case zabs => k_is)
    (case zmax => k_is)
    (case zmin => k_is)
    (case zint => k_is)
    (case zrange => k_is)
    (case zsorted => k_is)
    (case ztuple => k_is)
    (case zisinstance => k_is)
    (case zall => k_is)
    (case zenumerate => k_is)
    (case zlist => k_is)
    (case zset => k_is)
    (case zreversed => k_is)
    (case zbool => k_is)
    (case zValueError => k_is)
    (case eLongError => first | k_is | rfl | decide +kernel)
    (case eBadChain => first | k_is | rfl | decide +kernel)
    (case eBadText => first | k_is | rfl | decide +kernel)
    (case eNoSuch => first | k_is | rfl | decide +kernel)
    (case eNotOne => first | k_is | rfl | decide +kernel)
    (case eNeverOne => first | k_is | rfl | decide +kernel)
    (case eNotOrdered => first | k_is | rfl | decide +kernel)
    (case eTooMany => first | k_is | rfl | decide +kernel)
    (case xkNoSuch => first | k_is | rfl | decide +kernel)
    (case xxNoSuch => k_exc)
    (case xbNoSuch => first | k_is | rfl | decide +kernel)
    (case xtNoSuch => first | k_is | rfl | decide +kernel)
    (case oeiNotOrdered => first | k_is | rfl | decide +kernel)
    (case osiNotOrdered => first | k_is | rfl | decide +kernel)
    (case obiNotOrdered => first | k_is | rfl | decide +kernel)
    (case otiNotOrdered => first | k_is | rfl | decide +kernel)
    (case okiNotOrdered => first | k_is | rfl | decide +kernel)
    (case oiiNotOrdered => k_is)
    (case ofiNotOrdered => first | k_is | rfl | decide +kernel)
    (case oniNotOrdered => first | k_is | rfl | decide +kernel)
    (case l_iNotOrdered => k_is)
    (case c_iNotOrdered => k_is)
    (case oc1iNotOrdered => k_is)
    (case oc2iNotOrdered => first | rfl | k_is)
    (case oc3iNotOrdered => first | rfl | decide +kernel)
    (case oliNotOrdered => k_is)
    (case odiNotOrdered => first | k_is | rfl | decide +kernel)
    (case omiNotOrdered => first | k_is | rfl | decide +kernel)
    (case oaiNotOrdered => first | k_is | rfl | decide +kernel)
    (case oviNotOrdered => first | k_is | rfl | decide +kernel)
    (case zsuper => k_is)
    (case ztop => first | rfl | decide +kernel)
    (case zstat => first | k_is | rfl | decide +kernel)
    (case gperm => k_is)
    (case wexO => first | k_is | rfl | decide +kernel)
    (case wgO => first | k_is | rfl | decide +kernel)
    (case whO => first | k_is | rfl | decide +kernel)
    (case wdO => first | k_is | rfl | decide +kernel)
    (case waO => first | k_is | rfl | decide +kernel)
    (case wmO => first | k_is | rfl | decide +kernel)
    (case wnoO => first | k_is | rfl | decide +kernel)
    (case wvO => first | k_is | rfl | decide +kernel)
    (case wexN => first | k_is | rfl | decide +kernel)
    (case wgN => first | k_is | rfl | decide +kernel)
    (case whN => first | k_is | rfl | decide +kernel)
    (case wdN => first | k_is | rfl | decide +kernel)
    (case waN => first | k_is | rfl | decide +kernel)
    (case wmN => first | k_is | rfl | decide +kernel)
    (case wnoN => first | k_is | rfl | decide +kernel)
    (case wvN => first | k_is | rfl | decide +kernel)
    (case wn => first | k_is | rfl | decide +kernel)
    (case ws => first | k_is | rfl | decide +kernel)
    (case won => first | k_is | rfl | decide +kernel)
    (case wnn => first | k_is | rfl | decide +kernel)
    (case wno => first | k_is | rfl | decide +kernel)
    (case lM_is_move => k_is)
    (case vM_is_move => first | rfl | k_is)
    (case hM_is_move => first | k_is | rfl | decide +kernel)
    (case nT_is_move => first | k_is | rfl | decide +kernel)

