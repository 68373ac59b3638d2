import PyProof.Rows.All
import Wide.All
import OpenK.AllK
import Wide.FinOn
import PyProof.EqAt
import PyProof.EqKinds
import PyProof.TupleCall
import HandS.ForMost
import HandS.Conv
import HandS.Codes
import HandS.AnyAll
import HandS.Sort
import HandS.Zip
import HandS.Walk
import KE.KEqSeq
import HandS.TupMul
import HandS.TupAny
import HandS.SetFor
import HandS.Strs
import HandS.SetBool
import HandS.WordsExc
import HandS.ExcOwn
import HandS.RaiseMore
import HandS.FStr
import HandS.ExcIs
import HandS.IsInst
import HandS.Deep
import KE.KEqDeep
import HandS.RepeatKit
import KE.KSuperObj
import HandS.FStrTup
import HandS.EndTab
import PySem.Challenge.RW_longago_k09_orders_kept
set_option Elab.async false
set_option linter.all false
set_option maxRecDepth 100000
set_option maxHeartbeats 4000000
namespace Lg
open PySem PySem.Spec PyProof.Rows L2
def topS (i : Nat) : Stmt := PySem.Challenge.pw_longago_k09_orders_kept.main.body.getD i (.Pass ⟨0, 0, 0, 0⟩)
abbrev cLongError : Stmt := topS 2
abbrev cBadChain : Stmt := topS 3
abbrev cBadText : Stmt := topS 4
abbrev cNoSuch : Stmt := topS 5
abbrev cNotOne : Stmt := topS 6
abbrev cNeverOne : Stmt := topS 7
abbrev cNotOrdered : Stmt := topS 8
abbrev cTooMany : Stmt := topS 9
abbrev sKeepsOrder : Stmt := topS 11
abbrev sFirstOrder : Stmt := topS 12
abbrev sFirstBreaking : Stmt := topS 13
abbrev sKeeps : Stmt := topS 14
abbrev cChain : Stmt := topS 19
abbrev sIsMove : Stmt := topS 20
abbrev sCell : Stmt := topS 22
abbrev sDice : Stmt := topS 23
abbrev sOff : Stmt := topS 24
abbrev sChain : Stmt := topS 25
abbrev sMade : Stmt := topS 26
abbrev sNumbers : Stmt := topS 27
abbrev sLawOrders : Stmt := topS 28
abbrev sLawKeeps : Stmt := topS 29
abbrev sLawRefused : Stmt := topS 30
abbrev sLaw : Stmt := topS 31
/-! ### what is the same in all these texts: heaps -/
/-- all that is tracked, but at d, is as it was -/
def Gr (d : Addr) (H H' : Hp) : Prop := ∀ b o, b ≠ d → H b = some o → H' b = some o
theorem Gr.refl (d : Addr) (H : Hp) : Gr d H H := fun _ _ _ e => e
theorem Gr.trans {d : Addr} {H H1 H2 : Hp} (a : Gr d H H1) (b : Gr d H1 H2) : Gr d H H2 := fun c o n e => b c o n (a c o n e)
theorem Gr.new {d : Addr} {H H1 : Hp} {p : Addr} {o : HO} (a : Gr d H H1) (h : H1 p = none) : Gr d H (upd H1 p o) := fun b u n e => by
  have q := a b u n e
  rw [upd_ne (ne_of_none q h)]
  exact q
theorem Gr.off {d : Addr} {H H1 H2 : Hp} (a : Gr d H H1) (h : ∀ b, b ≠ d → H2 b = H1 b) : Gr d H H2 := fun b u n e => by
  rw [h b n]
  exact a b u n e
theorem same_new {H : Hp} {p : Addr} {o : HO} (h : H p = none) : Same H (upd H p o) := fun b x e => by
  rw [upd_ne (ne_of_none e h)]
  exact e
theorem Gr.of_same {d : Addr} {H H' : Hp} (s : Same H H') : Gr d H H' := fun b o _ e => s b o e
/-- the dice at d -/
def dl (s0 : Int) (l : Addr) (k big : Int) : List V := [.int s0, .ref l, .int k, .int big]
theorem map_int_dl {ns : List Int} {s0 k big : Int} {l : Addr} : ns.map V.int ≠ dl s0 l k big := by
  intro e
  have h : (ns.map V.int)[1]? = some (V.ref l) := by rw [e]; rfl
  rw [List.getElem?_map] at h
  cases q : ns[1]? with
  | none => rw [q] at h; cases h
  | some z => rw [q] at h; cases h
/-- a list that is known ahead of p's making, and p's writing -/
theorem seq_put {K : PySem.W.Frag} {H0 H : Hp} {l p : Addr} {xs : List V} {o : HO} (h0 : SqL K H0 l xs) (n0 : H0 p = none) (h : SqL K H l xs) : SqL K (upd H p o) l xs := by
  have ne : Rd H0 l (.lst xs) → l ≠ p := fun r => by
    rcases r with r | ⟨o', r⟩
    · exact ne_of_none r n0
    · exact ne_of_none r n0
  rcases h0 with r0 | k
  · have n := ne r0
    rcases h with (h | ⟨o', h⟩) | h
    · exact .inl (.inl (by rw [upd_ne n]; exact h))
    · exact .inl (.inr ⟨o', by rw [upd_ne n]; exact h⟩)
    · exact .inr h
  · exact .inr k
/-- the script stands when the dice turns -/
theorem seq_turn {K : PySem.W.Frag} {H H' : Hp} {d l l' : Addr} {ns : List Int} {s0 k big : Int} (hd : H d = some (.lst (dl s0 l' k big))) (h : SqL K H l (ns.map V.int)) (q : ∀ b, b ≠ d → H' b = H b) : SqL K H' l (ns.map V.int) := by
  rcases h with (h | ⟨o, h⟩) | h
  · refine .inl (.inl ?_)
    rw [q]
    · exact h
    · intro z
      rw [z, hd] at h
      injection h with h
      injection h with h
      exact map_int_dl h.symm
  · refine .inl (.inr ⟨o, ?_⟩)
    rw [q]
    · exact h
    · intro z
      rw [z, hd] at h
      cases h
  · exact .inr h
def Dc (K : PySem.W.Frag) (l : Addr) (ns : List Int) (H : Hp) (d : Addr) : Prop := ∃ (s0 k big : Int), H d = some (.lst (dl s0 l k big)) ∧ SqL K H l (ns.map V.int) ∧ ns.length ≤ 63 ∧ 0 ≤ s0 ∧ s0 < 2147483647 ∧ 0 ≤ k ∧ 0 ≤ big
theorem Dc.same {K : PySem.W.Frag} {H H' : Hp} {l d : Addr} {ns : List Int} (s : Same H H') (h : Dc K l ns H d) : Dc K l ns H' d := by
  obtain ⟨s0, k, big, h1, h2, h3⟩ := h
  exact ⟨s0, k, big, s _ _ h1, s.seq h2, h3⟩
theorem Dc.seq {K : PySem.W.Frag} {H : Hp} {l d : Addr} {ns : List Int} (h : Dc K l ns H d) : SqL K H l (ns.map V.int) := by
  obtain ⟨s0, k, big, h1, h2, h3⟩ := h
  exact h2
theorem Dc.new {K : PySem.W.Frag} {H : Hp} {l d p : Addr} {ns : List Int} {o : HO} (h : Dc K l ns H d) (n : H p = none) : Dc K l ns (upd H p o) d := h.same (same_new n)
theorem Dc.some {K : PySem.W.Frag} {H : Hp} {l d : Addr} {ns : List Int} (h : Dc K l ns H d) : ∃ s0 k big, H d = Option.some (HO.lst (dl s0 l k big)) := by
  obtain ⟨s0, k, big, h1, _⟩ := h
  exact ⟨s0, k, big, h1⟩
theorem Dc.ne {K : PySem.W.Frag} {H : Hp} {l d p : Addr} {ns : List Int} (h : Dc K l ns H d) (n : H p = none) : p ≠ d := by
  obtain ⟨s0, k, big, e⟩ := h.some
  exact (ne_of_none e n).symm
/-- the dice is a list that begins with an int and a ref: no other list that we know -/
theorem Dc.ne_of {K : PySem.W.Frag} {H : Hp} {l d p : Addr} {ns : List Int} {u : HO} (h : Dc K l ns H d) (n : H p = Option.some u) (q : ∀ s0 l k big, u ≠ .lst (dl s0 l k big)) : p ≠ d := by
  obtain ⟨s0, k, big, e⟩ := h.some
  intro z
  rw [z, e] at n
  exact q _ _ _ _ (Option.some.inj n).symm
/-- another list is written, one that is newer than the script -/
theorem Dc.turn {K : PySem.W.Frag} {H0 H : Hp} {l d d0 p : Addr} {ns : List Int} {o : HO} (h : Dc K l ns H d) (h0 : Dc K l ns H0 d0) (n0 : H0 p = none) (n : p ≠ d) : Dc K l ns (upd H p o) d := by
  obtain ⟨s0, k, big, h1, h2, h3⟩ := h
  refine ⟨s0, k, big, ?_, seq_put h0.seq n0 h2, h3⟩
  rw [upd_ne n.symm]
  exact h1
/-! ### a chain's data -/
abbrev Mv := Int × List Int
def GoodRow (many : Nat) (row : List Int) : Prop := row.length = many ∧ ∀ x ∈ row, 0 ≤ x ∧ x < (many : Int)
def GoodMv (many : Nat) (m : Mv) : Prop := 1 ≤ m.1 ∧ m.1 ≤ 99 ∧ GoodRow many m.2
structure Good (many : Nat) (ms : List Mv) : Prop where
  m1 : 1 ≤ many
  m6 : many ≤ 6
  l1 : 1 ≤ ms.length
  l8 : ms.length ≤ 8
  mv : ∀ m ∈ ms, GoodMv many m
def MoveAt (H : Hp) (v : V) (m : Mv) : Prop := ∃ a q, v = .ref a ∧ H a = some (.tup [.int m.1, .ref q]) ∧ H q = some (.tup (m.2.map V.int))
abbrev MovesAt (H : Hp) : List V → List Mv → Prop := Paired (MoveAt H)
theorem MoveAt.same {H H' : Hp} {v : V} {m : Mv} (s : ∀ b xs, H b = some (.tup xs) → H' b = some (.tup xs)) (h : MoveAt H v m) : MoveAt H' v m := by
  obtain ⟨a, q, e, h1, h2⟩ := h
  exact ⟨a, q, e, s _ _ h1, s _ _ h2⟩
theorem MovesAt.same {H H' : Hp} (s : ∀ b xs, H b = some (.tup xs) → H' b = some (.tup xs)) : ∀ {vs : List V} {ms : List Mv}, MovesAt H vs ms → MovesAt H' vs ms
  | _, _, .nil => .nil
  | _, _, .cons h t => .cons (h.same s) (MovesAt.same s t)
theorem MovesAt.snoc {H : Hp} {v : V} {m : Mv} (h : MoveAt H v m) : ∀ {vs : List V} {ms : List Mv}, MovesAt H vs ms → MovesAt H (vs ++ [v]) (ms ++ [m])
  | _, _, .nil => .cons h .nil
  | _, _, .cons q t => .cons q (MovesAt.snoc h t)
theorem MovesAt.get {H : Hp} : ∀ {vs : List V} {ms : List Mv} {i : Nat} {m : Mv}, MovesAt H vs ms → ms[i]? = some m → ∃ v, vs[i]? = some v ∧ MoveAt H v m
  | _, _, _, _, .nil, e => by simp at e
  | _, _, 0, _, .cons h _, e => by
    simp at e
    subst e
    exact ⟨_, rfl, h⟩
  | _, _, i + 1, m, .cons _ t, e => by
    obtain ⟨v, h1, h2⟩ := MovesAt.get (i := i) (m := m) t (by simpa using e)
    exact ⟨v, by simpa using h1, h2⟩
theorem MovesAt.get' {H : Hp} : ∀ {vs : List V} {ms : List Mv} {i : Nat} {v : V}, MovesAt H vs ms → vs[i]? = some v → ∃ m, ms[i]? = some m ∧ MoveAt H v m
  | _, _, _, _, .nil, e => by simp at e
  | _, _, 0, _, .cons h _, e => by
    simp at e
    subst e
    exact ⟨_, rfl, h⟩
  | _, _, i + 1, v, .cons _ t, e => by
    obtain ⟨m, h1, h2⟩ := MovesAt.get' (i := i) (v := v) t (by simpa using e)
    exact ⟨m, by simpa using h1, h2⟩
/-- a told chain: (many, moves) at t, the moves' list at m -/
def ToldAt (H : Hp) (t m : Addr) (many : Nat) (vs : List V) (ms : List Mv) : Prop := H t = some (.tup [.int (many : Int), .ref m]) ∧ H m = some (.lst vs) ∧ MovesAt H vs ms
theorem Gr.tups {d l : Addr} {ns : List Int} {H H' : Hp} {K : PySem.W.Frag} (hd : Dc K l ns H d) (g : Gr d H H') : ∀ b xs, H b = some (.tup xs) → H' b = some (.tup xs) := fun b xs e =>
  g b _ (hd.ne_of e fun _ _ _ _ q => nomatch q) e
theorem Same.tups {H H' : Hp} (g : Same H H') : ∀ b xs, H b = some (.tup xs) → H' b = some (.tup xs) := fun b xs e => g b _ e
theorem ifD {c A B : Prop} [Decidable c] (hc : c) (h : A) : if decide c = true then A else B := by
  rw [decide_eq_true hc]
  exact iteT h
theorem small8 {n : Nat} (h : n ≤ 8) : n < sizeLine := Nat.lt_of_le_of_lt h (by decide)
section
variable {P : Program} {w : World} {K : PySem.W.Frag} {mg : Str → Option Value} {base : Heap}
/-! ### _law_cell -/
theorem scCell : FnScope ["_law_script", "_law_k"] ["_law_script", "_law_k"] (defScope sCell) := ⟨rfl, rfl, rfl, by decide +kernel, rfl, by decide +kernel, by decide +kernel⟩
def spCell (K : PySem.W.Frag) : Sp := fun vs H Q _ => ∃ (l : Addr) (ns : List Int) (j : Int), vs = [.ref l, .int j] ∧ SqL K H l (ns.map V.int) ∧ 0 ≤ j ∧ ∀ x : Int, Q (.int x) H
theorem ok_cell {f : Addr} {fd : FuncData} {k : Nat} (F : Fun K "_law_cell" "_law_cell" sCell f fd) (ml : mg "len" = none) : FnOk P w K mg base CX0 (k + 1) f fd ["_law_script", "_law_k"] (spCell K) := by
  refine F.ok scCell (fun vs H Q E h => ?_) (fun cdv A outer s H vs Q E hr h => ?_)
  · obtain ⟨l, ns, j, rfl, _⟩ := h
    rfl
  · obtain ⟨l, ns, j, rfl, hS, hj, q⟩ := h
    refine ⟨_, pss_cons (ps_if (pt_cmpR op_lt (pv 1) (pe_callB call_len_seq (by rfl) ml PySem.boot_len (pa_cons (pv 0) pa_nil)) (nomark _))
        (pss_one (ps_ret (pe_ix ix_list (pv 0) (pv 1) (fun _ _ => rfl)))) pss_nil)
      (pss_one (ps_ret pe_int)), ?_⟩
    refine ⟨.int j, rfl, .ref l, rfl, l, ns.map V.int, rfl, .inl hS, j, _, rfl, rfl, _, rfl, ite2 (fun e => ?_) (fun e => ?_)⟩
    · have e1 : j < ((ns.map V.int).length : Int) := of_decide_eq_true e
      rw [List.length_map] at e1
      have hn : j.toNat < ns.length := by omega
      have ej : j = ((j.toNat : Nat) : Int) := by omega
      have g : (ns.map V.int)[j.toNat]? = some (.int ns[j.toNat]) := by
        rw [List.getElem?_map, List.getElem?_eq_getElem hn]
        rfl
      exact ⟨.ref l, rfl, .int j, rfl, l, _, j, _, rfl, rfl, hS, at_of ej g, q _⟩
    · exact q 0
/-! ### _law_dice -/
theorem scDice : FnScope ["_law_script", "_law_k", "_law_cell_here"] ["_law_script", "_law_k"] (defScope sDice) := ⟨rfl, rfl, rfl, by decide +kernel, rfl, by decide +kernel, by decide +kernel⟩
def spDice (K : PySem.W.Frag) : Sp := fun vs H Q _ => ∃ (l : Addr) (ns : List Int) (j : Int), vs = [.ref l, .int j] ∧ SqL K H l (ns.map V.int) ∧ ns.length ≤ 63 ∧ 0 ≤ j ∧ ∀ H' d, Same H H' → H d = none → Dc K l ns H' d → Q (.ref d) H'
theorem abs_nn (x : Int) : 0 ≤ (if x < 0 then -x else x) := by
  split <;> omega
theorem ok_dice {f fC : Addr} {fd fdC : FuncData} (F : Fun K "_law_dice" "_law_dice" sDice f fd) (FC : Fun K "_law_cell" "_law_cell" sCell fC fdC) (bC : Binds K fdC ["_law_script", "_law_k"] []) (gC : mg "_law_cell" = some (.ref fC))
    (ml : mg "len" = none) (ma : mg "abs" = none) (mi : mg "int" = none) : FnOk P w K mg base CX0 2 f fd ["_law_script", "_law_k"] (spDice K) := by
  have GC : FnOk P w K mg base CX0 1 fC fdC ["_law_script", "_law_k"] (spCell K) := ok_cell FC ml
  refine F.ok scDice (fun vs H Q E h => ?_) (fun cdv A outer s H vs Q E hr h => ?_)
  · obtain ⟨l, ns, j, rfl, _⟩ := h
    rfl
  · obtain ⟨l, ns, j, rfl, hS, hl, hj, q⟩ := h
    refine ⟨_, pss_cons (ps_set (i := 2) scDice.nd rfl (.inl rfl) (pe_callB call_abs (by rfl) ma (by decide +kernel) (pa_cons (pe_call GC hr (by rfl) gC FC.kp bC .nil pass0 (pa_cons (pv 0) (pa_cons (pv 1) pa_nil))) pa_nil)))
      (pss_one (ps_ret (pe_lst (pa_cons (pe_op op_mod (pv 2) pe_int) (pa_cons (pv 0) (pa_cons (pe_op op_add (pv 1) pe_int)
        (pa_cons (pe_op op_mul (pe_callTy call_int1 (by rfl) mi (by decide +kernel) (pa_cons (pe_cmpR op_ge (pv 2) (pe_op op_pow pe_int pe_int) (nomark _)) pa_nil)) (pv 2)) pa_nil))))))), ?_⟩
    refine ⟨.ref l, rfl, .int j, rfl, l, ns, j, rfl, hS, hj, fun x => ?_⟩
    refine ⟨x, rfl, ?_⟩
    have ha := abs_nn x
    generalize (if x < 0 then -x else x) = c at ha ⊢
    have m0 : 0 ≤ c % 2147483647 := Int.emod_nonneg _ (by decide)
    have m1 : c % 2147483647 < 2147483647 := Int.emod_lt_of_pos _ (by decide)
    refine ⟨.int c, rfl, c, 2147483647, rfl, rfl, (by show (0 : Int) < 2147483647; decide), .ref l, rfl, .int j, rfl, j, 1, rfl, rfl, ?_⟩
    refine ⟨.int c, rfl, 10, 18, rfl, rfl, ⟨by decide, by decide, by decide⟩, c, _, rfl, rfl, .inr ⟨_, rfl, ?_⟩⟩
    refine ⟨.int c, rfl, _, c, rfl, rfl, .inl ?_, ?_⟩
    · split <;> decide
    · refine ⟨by show 4 ≤ sizeLine; decide, fun d nd => ?_⟩
      refine q _ d (same_new nd) nd ⟨_, _, _, upd_same, (same_new nd).seq hS, hl, m0, m1, by omega, ?_⟩
      split
      · omega
      · omega
/-! ### _law_off -/
theorem scOff : FnScope ["_law_d", "_law_most", "_law_found", "_law_more"] ["_law_d", "_law_most"] (defScope sOff) := ⟨rfl, rfl, rfl, by decide +kernel, rfl, by decide +kernel, by decide +kernel⟩
def spOff (K : PySem.W.Frag) : Sp := fun vs H Q _ => ∃ (d l : Addr) (ns : List Int) (most : Int), vs = [.ref d, .int most] ∧ Dc K l ns H d ∧ 1 ≤ most ∧ most ≤ 1000000 ∧ ∀ (r : Nat) H', (r : Int) < most → Dc K l ns H' d → (∀ b, b ≠ d → H' b = H b) → Q (.int (r : Int)) H'
theorem max1 (x : Int) (h : 0 ≤ x) : 1 ≤ (if x > 1 then x else 1) := by
  split <;> omega
theorem ok_off {f fC : Addr} {fd fdC : FuncData} (F : Fun K "_law_off" "_law_off" sOff f fd) (FC : Fun K "_law_cell" "_law_cell" sCell fC fdC) (bC : Binds K fdC ["_law_script", "_law_k"] []) (gC : mg "_law_cell" = some (.ref fC))
    (ml : mg "len" = none) (ma : mg "abs" = none) (mm : mg "max" = none) : FnOk P w K mg base CX0 2 f fd ["_law_d", "_law_most"] (spOff K) := by
  have GC : FnOk P w K mg base CX0 1 fC fdC ["_law_script", "_law_k"] (spCell K) := ok_cell FC ml
  refine F.ok scOff (fun vs H Q E h => ?_) (fun cdv A outer s H vs Q E hr h => ?_)
  · obtain ⟨d, l, ns, most, rfl, _⟩ := h
    rfl
  · obtain ⟨d, l, ns, most, rfl, ⟨s0, k, big, hD, hS, hl, z0, z1, hk, hb⟩, hm1, hm2, q⟩ := h
    refine ⟨_, pss_cons (ps_if (pt_cmpR op_gt (pe_ix ix_list (pv 0) pe_int (fun _ _ => rfl)) pe_int (nomark _))
        (pss_cons (ps_set (i := 2) scOff.nd rfl (.inl rfl) (pe_op op_mod (pe_ix ix_list (pv 0) pe_int (fun _ _ => rfl)) (pv 1)))
          (pss_cons (ps_asg (pe_op op_fdiv (pe_ix ix_list (pv 0) pe_int (fun _ _ => rfl)) (pv 1)) (pg_sub (pv 0) pe_int set_list))
            (pss_one (ps_ret (pv 2))))) pss_nil)
      (pss_cons (ps_set (i := 3) scOff.nd rfl (.inl rfl) (pe_callB call_abs (by rfl) ma (by decide +kernel) (pa_cons (pe_call GC hr (by rfl) gC FC.kp bC .nil pass0
          (pa_cons (pe_ix ix_list (pv 0) pe_int (fun _ _ => rfl)) (pa_cons (pe_op op_mod (pe_ix ix_list (pv 0) pe_int (fun _ _ => rfl))
            (pe_callB (call_max2 rfl) (by rfl) mm (by decide +kernel) (pa_cons pe_int (pa_cons (pe_callB call_len_seq (by rfl) ml PySem.boot_len (pa_cons (pe_ix ix_list (pv 0) pe_int (fun _ _ => rfl)) pa_nil)) pa_nil)))) pa_nil))) pa_nil)))
      (pss_cons (ps_asg (pe_op op_add (pe_ix ix_list (pv 0) pe_int (fun _ _ => rfl)) pe_int) (pg_sub (pv 0) pe_int set_list))
      (pss_cons (ps_asg (pe_op op_mod (pe_op op_add (pe_op op_add (pe_op op_mul (pe_ix ix_list (pv 0) pe_int (fun _ _ => rfl)) pe_int) pe_int) (pv 3)) pe_int) (pg_sub (pv 0) pe_int set_list))
      (pss_one (ps_ret (pe_op op_mod (pe_op op_fdiv (pe_ix ix_list (pv 0) pe_int (fun _ _ => rfl)) pe_int) (pv 1)))))))
      , ?_⟩
    have hD0 : SqL K H d (dl s0 l k big) := SqL.of hD
    refine ⟨.ref d, rfl, d, _, 3, _, rfl, rfl, hD0, atI_nat (j := 3) rfl, big, 0, rfl, rfl, _, rfl, ite2 (fun e => ?_) (fun e => ?_)⟩
    · have e1 : 0 < big := of_decide_eq_true e
      refine ⟨.ref d, rfl, d, _, 3, _, rfl, rfl, hD0, atI_nat (j := 3) rfl, .int most, rfl, big, most, rfl, rfl, (by show 0 < most; omega), ?_⟩
      refine ⟨.ref d, rfl, d, _, 3, _, rfl, rfl, hD0, atI_nat (j := 3) rfl, .int most, rfl, big, most, rfl, rfl, ⟨by show 0 < most; omega, by show most < 1073741824; omega⟩, ?_⟩
      refine ⟨.ref d, rfl, d, _, 3, 3, rfl, rfl, hD, rfl, ?_⟩
      have r0 : 0 ≤ big % most := Int.emod_nonneg _ (by omega)
      have r1 : big % most < most := Int.emod_lt_of_pos _ (by omega)
      have er : big % most = (((big % most).toNat : Nat) : Int) := by omega
      refine ⟨.int (big % most), rfl, ?_⟩
      rw [er]
      refine q _ _ (by omega) ⟨s0, k, big / most, upd_same, seq_turn hD hS (fun b hb => upd_ne hb), hl, z0, z1, hk, Int.ediv_nonneg hb (by omega)⟩ (fun b hb => upd_ne hb)
    · refine ⟨.ref d, rfl, d, _, 1, _, rfl, rfl, hD0, atI_nat (j := 1) rfl, .ref d, rfl, d, _, 2, _, rfl, rfl, hD0, atI_nat (j := 2) rfl, ?_⟩
      refine ⟨.ref d, rfl, d, _, 1, _, rfl, rfl, hD0, atI_nat (j := 1) rfl, l, _, rfl, .inl hS, 1, _, rfl, ?_⟩
      have hx := max1 (((ns.map V.int).length : Nat) : Int) (by omega)
      generalize (if (((ns.map V.int).length : Nat) : Int) > 1 then (((ns.map V.int).length : Nat) : Int) else 1) = mx at hx ⊢
      refine ⟨k, mx, rfl, rfl, (by show 0 < mx; omega), l, ns, k % mx, rfl, hS, Int.emod_nonneg _ (by omega), fun x => ⟨x, rfl, ?_⟩⟩
      have ha := abs_nn x
      generalize (if x < 0 then -x else x) = c at ha ⊢
      -- d[2] = d[2] + 1
      refine ⟨.ref d, rfl, d, _, 2, _, rfl, rfl, hD0, atI_nat (j := 2) rfl, k, 1, rfl, rfl, .ref d, rfl, d, _, 2, 2, rfl, rfl, hD, rfl, ?_⟩
      have g1 : (upd H d (.lst (dl s0 l (k + 1) big))) d = some (.lst (dl s0 l (k + 1) big)) := upd_same
      have g2 : SqL K (upd H d (.lst (dl s0 l (k + 1) big))) d (dl s0 l (k + 1) big) := SqL.of g1
      refine ⟨.ref d, rfl, d, _, 0, _, rfl, rfl, g2, atI_nat (j := 0) rfl, s0, 48271, rfl, rfl, .inl ⟨by omega, by omega⟩, s0 * 48271, 11, rfl, rfl, .int c, rfl, s0 * 48271 + 11, c, rfl, rfl, s0 * 48271 + 11 + c, 2147483647, rfl, rfl, (by show (0 : Int) < 2147483647; decide), ?_⟩
      have m0 : 0 ≤ (s0 * 48271 + 11 + c) % 2147483647 := Int.emod_nonneg _ (by decide)
      have m1 : (s0 * 48271 + 11 + c) % 2147483647 < 2147483647 := Int.emod_lt_of_pos _ (by decide)
      refine ⟨.ref d, rfl, d, _, 0, 0, rfl, rfl, g1, rfl, ?_⟩
      rw [upd_upd]
      have g3 : (upd H d (.lst (dl ((s0 * 48271 + 11 + c) % 2147483647) l (k + 1) big))) d = some (.lst (dl ((s0 * 48271 + 11 + c) % 2147483647) l (k + 1) big)) := upd_same
      have g4 : SqL K (upd H d (.lst (dl ((s0 * 48271 + 11 + c) % 2147483647) l (k + 1) big))) d (dl ((s0 * 48271 + 11 + c) % 2147483647) l (k + 1) big) := SqL.of g3
      refine ⟨.ref d, rfl, d, _, 0, _, rfl, rfl, g4, atI_nat (j := 0) rfl, ((s0 * 48271 + 11 + c) % 2147483647), 64, rfl, rfl, ⟨by decide, by decide⟩, .int most, rfl, ((s0 * 48271 + 11 + c) % 2147483647) / 64, most, rfl, rfl, (by show 0 < most; omega), ?_⟩
      have r0 : 0 ≤ ((s0 * 48271 + 11 + c) % 2147483647) / 64 % most := Int.emod_nonneg _ (by omega)
      have r1 : ((s0 * 48271 + 11 + c) % 2147483647) / 64 % most < most := Int.emod_lt_of_pos _ (by omega)
      have er : ((s0 * 48271 + 11 + c) % 2147483647) / 64 % most = (((((s0 * 48271 + 11 + c) % 2147483647) / 64 % most).toNat : Nat) : Int) := by omega
      show Q (.int (((s0 * 48271 + 11 + c) % 2147483647) / 64 % most)) _
      rw [er]
      exact q _ _ (by omega) ⟨((s0 * 48271 + 11 + c) % 2147483647), k + 1, big, g3, seq_turn hD hS (fun b hb => upd_ne hb), hl, m0, m1, by omega, hb⟩ (fun b hb => upd_ne hb)
end
section
variable {P : Program} {w : World} {K : PySem.W.Frag} {mg : Str → Option Value} {base : Heap}
/-! ### _law_chain -/
def nChain : List Str := ["_law_d", "_law_most", "_law_many", "_law_way", "_law_moves", "_law_k", "_law_row", "_law_weight", "_law_place"]
theorem scChain : FnScope ["_law_d", "_law_most", "_law_many", "_law_way", "_law_moves", "_law_k", "_law_row", "_law_weight", "_law_place"] ["_law_d", "_law_most"] (defScope sChain) := ⟨rfl, rfl, rfl, by decide +kernel, rfl, by decide +kernel, by decide +kernel⟩
def spChain (K : PySem.W.Frag) : Sp := fun vs H Q _ => ∃ (d l : Addr) (ns : List Int) (most : Nat), vs = [.ref d, .int (most : Int)] ∧ Dc K l ns H d ∧ 1 ≤ most ∧ most ≤ 6 ∧
  ∀ (t m : Addr) (many : Nat) (ws : List V) (ms : List Mv) H', Good many ms → many ≤ most → ToldAt H' t m many ws ms → Dc K l ns H' d → Gr d H H' → Q (.ref t) H'
/-- what the law's texts call -/
structure LawTxt (K : PySem.W.Frag) (mg : Str → Option Value) (fC fD fO : Addr) (fdC fdD fdO : FuncData) : Prop where
  FC : Fun K "_law_cell" "_law_cell" sCell fC fdC
  bC : Binds K fdC ["_law_script", "_law_k"] []
  gC : mg "_law_cell" = some (.ref fC)
  FD : Fun K "_law_dice" "_law_dice" sDice fD fdD
  bD : Binds K fdD ["_law_script", "_law_k"] []
  gD : mg "_law_dice" = some (.ref fD)
  FO : Fun K "_law_off" "_law_off" sOff fO fdO
  bO : Binds K fdO ["_law_d", "_law_most"] []
  gO : mg "_law_off" = some (.ref fO)
  ml : mg "len" = none
  ma : mg "abs" = none
  mm : mg "max" = none
  mn : mg "min" = none
  mi : mg "int" = none
  mr : mg "range" = none
  ms : mg "sorted" = none
  mt : mg "tuple" = none
section
variable {fC fD fO : Addr} {fdC fdD fdO : FuncData}
theorem LawTxt.off (T : LawTxt K mg fC fD fO fdC fdD fdO) : FnOk P w K mg base CX0 2 fO fdO ["_law_d", "_law_most"] (spOff K) := ok_off T.FO T.FC T.bC T.gC T.ml T.ma T.mm
theorem LawTxt.dice (T : LawTxt K mg fC fD fO fdC fdD fdO) : FnOk P w K mg base CX0 2 fD fdD ["_law_script", "_law_k"] (spDice K) := ok_dice T.FD T.FC T.bC T.gC T.ml T.ma T.mi
theorem perm_row {many : Nat} {xs ys : List Int} (p : ys.Perm xs) (h : GoodRow many xs) : GoodRow many ys := ⟨p.length_eq.trans h.1, fun x hx => h.2 x (p.mem_iff.mp hx)⟩
theorem clamp (m x : Int) (h : 0 ≤ m) : 0 ≤ (if (if x < m then x else m) > 0 then (if x < m then x else m) else 0) ∧ (if (if x < m then x else m) > 0 then (if x < m then x else m) else 0) < m + 1 := by
  split <;> split at * <;> omega
theorem ok_chain {f : Addr} {fd : FuncData} (F : Fun K "_law_chain" "_law_chain" sChain f fd) (T : LawTxt K mg fC fD fO fdC fdD fdO) : FnOk P w K mg base CX0 3 f fd ["_law_d", "_law_most"] (spChain K) := by
  have GO : FnOk P w K mg base CX0 2 fO fdO ["_law_d", "_law_most"] (spOff K) := T.off
  refine F.ok scChain (fun vs H Q E h => ?_) (fun cdv A outer s H vs Q E hr h => ?_)
  · obtain ⟨d, l, ns, most, rfl, _⟩ := h
    rfl
  · obtain ⟨d, l, ns, most, rfl, hD, hm1, hm6, q⟩ := h
    refine ⟨_, pss_cons (ps_set (i := 2) scChain.nd rfl (.inr rfl) (pe_op op_add pe_int (pe_call GO hr (by rfl) T.gO T.FO.kp T.bO .nil pass0 (pa_cons (pv 0) (pa_cons (pv 1) pa_nil)))))
      (pss_cons (ps_set (i := 3) scChain.nd rfl (.inl rfl) (pe_call GO hr (by rfl) T.gO T.FO.kp T.bO .nil pass0 (pa_cons (pv 0) (pa_cons pe_int pa_nil))))
      (pss_cons (ps_set (i := 4) scChain.nd rfl (.inl rfl) (pe_lst pa_nil))
      (pss_cons (ps_for PassesOwn.never rfl (pi_range1 (by rfl) T.mr (pa_cons (pe_op op_add pe_int (pe_call GO hr (by rfl) T.gO T.FO.kp T.bO .nil pass0 (pa_cons (pv 0)
            (pa_cons (pe_ix ix_list (pe_lst (pa_cons pe_int (pa_cons pe_int (pa_cons pe_int pa_nil)))) (pe_call GO hr (by rfl) T.gO T.FO.kp T.bO .nil pass0 (pa_cons (pv 0) (pa_cons pe_int pa_nil))) (fun _ _ => rfl)) pa_nil)))) pa_nil))
          (pg_name (i := 5) scChain.nd rfl (.inl rfl))
          (pss_cons (ps_setLc (i := 6) (own := [("_law_place", 8)]) (g := gName 8) (tt := tYes) rfl scChain.nd rfl rfl (sw_true rfl rfl rfl (by decide +kernel)) (pi_range1 (by rfl) T.mr (pa_cons (pv 2) pa_nil)) (blkOk_by (N := nChain) (sc := defScope sChain) (by decide +kernel))
              (fun _ _ _ _ _ => pg_name (i := 8) scChain.nd rfl (.inl rfl)) (fun _ _ _ _ _ => pts_nil)
              (fun _ _ _ _ _ => pe_call GO hr (by rfl) T.gO T.FO.kp T.bO .nil pass0 (pa_cons (pv 0) (pa_cons (pv 2) pa_nil))))
          (C8.pss_cut (ps_if (pt_cmpR op_eq (pv 3) pe_int (nomark _)) (pss_one (ps_set (i := 6) scChain.nd rfl (.inl rfl) (pe_callB cr_sorted (by rfl) T.ms (by decide +kernel) (pa_cons (pv 6) pa_nil)))) pss_nil)
          (C8.pss_cut (ps_if (pt_cmpR op_eq (pv 3) pe_int (nomark _)) (pss_one
              (ps_setLc (i := 6) (own := [("_law_place", 8)]) (g := gName 8) (tt := tYes) rfl scChain.nd rfl rfl (sw_true rfl rfl rfl (by decide +kernel)) (pi_range1 (by rfl) T.mr (pa_cons (pv 2) pa_nil)) (blkOk_by (N := nChain) (sc := defScope sChain) (by decide +kernel))
              (fun _ _ _ _ _ => pg_name (i := 8) scChain.nd rfl (.inl rfl)) (fun _ _ _ _ _ => pts_nil)
              (fun _ _ _ _ _ => pe_callB (call_max2 rfl) (by rfl) T.mm (by decide +kernel) (pa_cons pe_int (pa_cons (pe_callB (call_min2 rfl) (by rfl) T.mn (by decide +kernel) (pa_cons (pe_op op_sub (pv 2) pe_int) (pa_cons
                (pe_op op_sub (pe_op op_add (pv 8) (pe_call GO hr (by rfl) T.gO T.FO.kp T.bO .nil pass0 (pa_cons (pv 0) (pa_cons pe_int pa_nil)))) pe_int) pa_nil))) pa_nil))))) pss_nil)
          (pss_cons (ps_set (i := 7) scChain.nd rfl (.inl rfl) (pe_ix ix_list (pe_lst (pa_cons pe_int (pa_cons (pe_op op_add pe_int (pe_call GO hr (by rfl) T.gO T.FO.kp T.bO .nil pass0 (pa_cons (pv 0) (pa_cons pe_int pa_nil))))
              (pa_cons (pe_op op_add pe_int (pe_call GO hr (by rfl) T.gO T.FO.kp T.bO .nil pass0 (pa_cons (pv 0) (pa_cons pe_int pa_nil)))) pa_nil)))) (pe_call GO hr (by rfl) T.gO T.FO.kp T.bO .nil pass0 (pa_cons (pv 0) (pa_cons pe_int pa_nil))) (fun _ _ => rfl)))
          (pss_one (ps_expr (pe_bm PySem.F.plainAttrs_list PySem.F.slot_list_append PySem.F.type_list_append mt_append (pv 4) (pa_cons (pe_tup (pa_cons (pv 7) (pa_cons (pe_callTy call_tuple_of (by rfl) T.mt (by decide +kernel) (pa_cons (pv 6) pa_nil)) pa_nil))) pa_nil)))))))))
      (pss_one (ps_ret (pe_tup (pa_cons (pv 2) (pa_cons (pv 4) pa_nil)))))))), ?_⟩
    -- many, way, moves
    refine ⟨.ref d, rfl, .int most, rfl, d, l, ns, _, rfl, hD, by omega, by omega, fun r H1 hr1 hD1 o1 => ?_⟩
    refine ⟨1, r, rfl, rfl, .ref d, rfl, d, l, ns, _, rfl, hD1, by omega, by omega, fun way H2 hr2 hD2 o2 => ?_⟩
    obtain ⟨many, em⟩ : ∃ many : Nat, many = 1 + r := ⟨_, rfl⟩
    have em2 : (1 : Int) + (r : Int) = (many : Int) := by omega
    have g2 : Gr d H H2 := ((Gr.refl d H).off o1).off o2
    refine ⟨Nat.zero_le _, fun m nm => ?_⟩
    have hD3 : Dc K l ns (upd H2 m (.lst [])) d := hD2.new nm
    have g3 : Gr d H (upd H2 m (.lst [])) := g2.new nm
    have hm3 : (upd H2 m (.lst [])) m = some (.lst []) := upd_same
    -- the loop's range
    refine ⟨.ref d, rfl, (by show 3 ≤ sizeLine; decide), fun L nL => ?_⟩
    have hD4 := hD3.new (o := .lst [.int 4, .int 4, .int 8]) nL
    have g4 : Gr d H (upd (upd H2 m (.lst [])) L (.lst [.int 4, .int 4, .int 8])) := g3.new nL
    have nLm : L ≠ m := fun z => by rw [z, upd_same] at nL; cases nL
    have hm4 : (upd (upd H2 m (.lst [])) L (.lst [.int 4, .int 4, .int 8])) m = some (.lst []) := by rw [upd_ne (Ne.symm nLm)]; exact hm3
    have hL4 : (upd (upd H2 m (.lst [])) L (.lst [.int 4, .int 4, .int 8])) L = some (.lst [.int 4, .int 4, .int 8]) := upd_same
    generalize (upd (upd H2 m (.lst [])) L (.lst [.int 4, .int 4, .int 8])) = H4 at hD4 g4 hm4 hL4 ⊢
    refine ⟨.ref d, rfl, d, l, ns, _, rfl, hD4, by omega, by omega, fun r3 H5 hr3 hD5 o5 => ?_⟩
    have nmd : m ≠ d := hD2.ne nm
    have nLd : L ≠ d := hD3.ne nL
    have hL5 : H5 L = some (.lst [.int 4, .int 4, .int 8]) := by rw [o5 _ nLd]; exact hL4
    have hm5 : H5 m = some (.lst []) := by rw [o5 _ nmd]; exact hm4
    have g5 : Gr d H H5 := g4.off o5
    obtain ⟨c, hc4, hc8, hc⟩ : ∃ c : Int, 4 ≤ c ∧ c ≤ 8 ∧ ([.int 4, .int 4, .int 8] : List V)[r3]? = some (.int c) := by
      have h3 : r3 < 3 := by omega
      match r3, h3 with
      | 0, _ => exact ⟨4, by decide, by decide, rfl⟩
      | 1, _ => exact ⟨4, by decide, by decide, rfl⟩
      | 2, _ => exact ⟨8, by decide, by decide, rfl⟩
    refine ⟨L, _, _, _, rfl, rfl, SqL.of hL5, atI_nat hc, d, l, ns, _, rfl, hD5, by omega, by omega, fun cnt H6 hr6 hD6 o6 => ?_⟩
    have hm6' : H6 m = some (.lst []) := by rw [o6 _ nmd]; exact hm5
    have g6 : Gr d H H6 := g5.off o6
    refine ⟨1, cnt, rfl, rfl, _, rfl, by omega, by omega, ?_⟩
    have en : ((1 : Int) + (cnt : Int)).toNat = 1 + cnt := by omega
    refine for_range (lo := 0) (n := ((1 : Int) + (cnt : Int)).toNat)
      (fun i σ H' => ∃ y5 y6 y7 ms ws, σ = [some (.ref d), some (.int (most : Int)), some (.int ((1 : Int) + (r : Int))), some (.int (way : Int)), some (.ref m), y5, y6, y7, none] ∧
        Dc K l ns H' d ∧ Gr d H H' ∧ H' m = some (.lst ws) ∧ MovesAt H' ws ms ∧ ms.length = i ∧ ∀ mv ∈ ms, GoodMv many mv)
      ⟨none, none, none, [], [], rfl, hD6, g6, hm6', .nil, rfl, fun _ z => nomatch z⟩ ?_ ?_
    · rintro i σ H7 hi ⟨y5, y6, y7, ms, ws, rfl, hD7, g7, hm7, hM7, hl7, hg7⟩
      rw [en] at hi
      -- row = [off(d, many) for place in range(many)]
      refine ⟨_, rfl, _, rfl, by omega, by omega, fun D nD => ?_⟩
      have nDd : D ≠ d := hD7.ne nD
      have er : ((1 : Int) + (r : Int)).toNat = many := by omega
      refine lc_range (lo := 0) (n := ((1 : Int) + (r : Int)).toNat)
        (fun j H' => ∃ row : List Int, H' D = some (.lst (row.map V.int)) ∧ row.length = j ∧ (∀ x ∈ row, 0 ≤ x ∧ x < (many : Int)) ∧ Dc K l ns H' d ∧ Gr d H7 H')
        ⟨[], upd_same, rfl, (fun _ z => nomatch z), hD7.new nD, (Gr.refl d H7).new nD⟩ ?_ ?_
      · rintro j H8 hj ⟨row, hrow, hrl, hrx, hD8, g8⟩
        refine ⟨rfl, .ref d, rfl, _, rfl, d, l, ns, _, rfl, hD8, by omega, by omega, fun x H9 hx hD9 o9 => ?_⟩
        have hrow9 : H9 D = some (.lst (row.map V.int)) := by rw [o9 _ nDd]; exact hrow
        refine ⟨_, hrow9, ?_, row ++ [(x : Int)], ?_, ?_, ?_, hD9.turn hD7 nD nDd, ?_⟩
        · rw [List.length_map, hrl]
          exact small8 (by omega)
        · rw [upd_same, List.map_append]
          rfl
        · rw [List.length_append, hrl]
          rfl
        · intro z hz
          rcases List.mem_append.mp hz with hz | hz
          · exact hrx z hz
          · have e : z = (x : Int) := by simpa using hz
            omega
        · intro b o nb e
          have e8 := g8.off o9 b o nb e
          rw [upd_ne (ne_of_none e nD)]
          exact e8
      · rintro H8 ⟨row, hrow, hrl, hrx, hD8, g8⟩
        have hR : GoodRow many row := ⟨hrl.trans er, hrx⟩
        let Mid : L2.St → Hp → Prop := fun σ H9 => ∃ D9 row, σ = [some (.ref d), some (.int (most : Int)), some (.int ((1 : Int) + (r : Int))), some (.int (way : Int)), some (.ref m), some (.int (0 + (i : Int))), some (.ref D9), y7, none] ∧
          H9 D9 = some (.lst (row.map V.int)) ∧ GoodRow many row ∧ Dc K l ns H9 d ∧ Gr d H7 H9
        have mid0 : Mid [some (.ref d), some (.int (most : Int)), some (.int ((1 : Int) + (r : Int))), some (.int (way : Int)), some (.ref m), some (.int (0 + (i : Int))), some (.ref D), y7, none] H8 := ⟨D, row, rfl, hrow, hR, hD8, g8⟩
        refine ⟨Mid, ⟨_, rfl, rfl, _, rfl, ite2 (fun e => ?_) (fun e => mid0)⟩, ?_⟩
        · -- row = sorted(row)
          refine ⟨_, rfl, D, row, rfl, SqL.of hrow, by omega, fun ns' p hp _ np => ?_⟩
          exact ⟨p, ns', rfl, upd_same, perm_row hp hR, hD8.new np, g8.new np⟩
        · rintro σ9 H9 ⟨D9, row9, rfl, hrow9, hR9, hD9, g9⟩
          refine ⟨Mid, ⟨_, rfl, rfl, _, rfl, ite2 (fun e => ?_) (fun e => ⟨D9, row9, rfl, hrow9, hR9, hD9, g9⟩)⟩, ?_⟩
          · -- row = [max(0, min(many - 1, ..)) ..]
            refine ⟨_, rfl, _, rfl, by omega, by omega, fun D' nD' => ?_⟩
            have nDd' : D' ≠ d := hD9.ne nD'
            refine lc_range (lo := 0) (n := ((1 : Int) + (r : Int)).toNat)
              (fun j H' => ∃ row : List Int, H' D' = some (.lst (row.map V.int)) ∧ row.length = j ∧ (∀ x ∈ row, 0 ≤ x ∧ x < (many : Int)) ∧ Dc K l ns H' d ∧ Gr d H9 H')
              ⟨[], upd_same, rfl, (fun _ z => nomatch z), hD9.new nD', (Gr.refl d H9).new nD'⟩ ?_ ?_
            · rintro j H10 hj ⟨row', hrow', hrl', hrx', hD10, g10⟩
              refine ⟨rfl, _, rfl, _, _, rfl, rfl, _, rfl, .ref d, rfl, d, l, ns, _, rfl, hD10, by omega, by omega, fun x H11 hx hD11 o11 => ?_⟩
              refine ⟨_, _, rfl, rfl, _, _, rfl, rfl, _, _, rfl, _, _, rfl, ?_⟩
              have cl := clamp ((1 : Int) + (r : Int) - 1) (0 + (j : Int) + (x : Int) - 1) (by omega)
              generalize (if (if 0 + (j : Int) + (x : Int) - 1 < (1 : Int) + (r : Int) - 1 then 0 + (j : Int) + (x : Int) - 1 else (1 : Int) + (r : Int) - 1) > 0 then
                (if 0 + (j : Int) + (x : Int) - 1 < (1 : Int) + (r : Int) - 1 then 0 + (j : Int) + (x : Int) - 1 else (1 : Int) + (r : Int) - 1) else 0) = z at cl ⊢
              have hrow9 : H11 D' = some (.lst (row'.map V.int)) := by rw [o11 _ nDd']; exact hrow'
              refine ⟨_, hrow9, ?_, row' ++ [z], ?_, ?_, ?_, hD11.turn hD9 nD' nDd', ?_⟩
              · rw [List.length_map, hrl']
                exact small8 (by omega)
              · rw [upd_same, List.map_append]
                rfl
              · rw [List.length_append, hrl']
                rfl
              · intro y hy
                rcases List.mem_append.mp hy with hy | hy
                · exact hrx' y hy
                · have e : y = z := by simpa using hy
                  omega
              · intro b o nb e
                have e8 := g10.off o11 b o nb e
                rw [upd_ne (ne_of_none e nD')]
                exact e8
            · rintro H10 ⟨row', hrow', hrl', hrx', hD10, g10⟩
              exact ⟨D', row', rfl, hrow', ⟨hrl'.trans er, hrx'⟩, hD10, g9.trans g10⟩
          · rintro σ10 H10 ⟨D10, row, rfl, hrow, hR, hD10, g10⟩
            -- weight = [1, 1 + off(d, 4), 1 + off(d, 99)][off(d, 3)]
            have g10' : Gr d H H10 := g7.trans g10
            refine ⟨.ref d, rfl, d, l, ns, _, rfl, hD10, by omega, by omega, fun x1 H11 hx1 hD11 o11 => ?_⟩
            refine ⟨1, x1, rfl, rfl, .ref d, rfl, d, l, ns, _, rfl, hD11, by omega, by omega, fun x2 H12 hx2 hD12 o12 => ?_⟩
            refine ⟨1, x2, rfl, rfl, (by show 3 ≤ sizeLine; decide), fun W nW => ?_⟩
            have hD13 := hD12.new (o := .lst [.int 1, .int (1 + (x1 : Int)), .int (1 + (x2 : Int))]) nW
            have nWd : W ≠ d := hD12.ne nW
            have g13 : Gr d H10 (upd H12 W (.lst [.int 1, .int (1 + (x1 : Int)), .int (1 + (x2 : Int))])) := (((Gr.refl d H10).off o11).off o12).new nW
            have hW13 : (upd H12 W (.lst [.int 1, .int (1 + (x1 : Int)), .int (1 + (x2 : Int))])) W = some (.lst [.int 1, .int (1 + (x1 : Int)), .int (1 + (x2 : Int))]) := upd_same
            refine ⟨.ref d, rfl, d, l, ns, _, rfl, hD13, by omega, by omega, fun x3 H14 hx3 hD14 o14 => ?_⟩
            have hW14 : H14 W = some (.lst [.int 1, .int (1 + (x1 : Int)), .int (1 + (x2 : Int))]) := by rw [o14 _ nWd]; exact hW13
            have g14 : Gr d H10 H14 := g13.off o14
            obtain ⟨wt, hw1, hw9, hw⟩ : ∃ c : Int, 1 ≤ c ∧ c ≤ 99 ∧ ([.int 1, .int (1 + (x1 : Int)), .int (1 + (x2 : Int))] : List V)[x3]? = some (.int c) := by
              have h3 : x3 < 3 := by omega
              match x3, h3 with
              | 0, _ => exact ⟨1, by decide, by decide, rfl⟩
              | 1, _ => exact ⟨1 + (x1 : Int), by omega, by omega, rfl⟩
              | 2, _ => exact ⟨1 + (x2 : Int), by omega, by omega, rfl⟩
            refine ⟨W, _, _, _, rfl, rfl, SqL.of hW14, atI_nat hw, ?_⟩
            -- moves.append((weight, tuple(row)))
            have nm' : ∀ {H'}, Dc K l ns H' d → H' m = H' m := fun _ => rfl
            have hm14 : H14 m = some (.lst ws) := (g10.trans g14) m _ nmd hm7
            have nD10 : D10 ≠ d := hD10.ne_of hrow fun s0 l k big z => by
              injection z with z
              exact map_int_dl z
            have hrow14 : H14 D10 = some (.lst (row.map V.int)) := g14 D10 _ nD10 hrow
            refine ⟨.ref m, rfl, .inl ⟨rfl, _, SqL.of hm14⟩, .int wt, rfl, .ref D10, rfl, D10, _, rfl, .inl ⟨SqL.of hrow14, fun tq ntq => ?_⟩⟩
            refine ⟨by show 2 ≤ sizeLine; decide, fun tp ntp => ?_⟩
            have g16 : Same H14 (upd (upd H14 tq (.tup (row.map V.int))) tp (.tup [.int wt, .ref tq])) := (same_new ntq).trans (same_new ntp)
            have htp : (upd (upd H14 tq (.tup (row.map V.int))) tp (.tup [.int wt, .ref tq])) tp = some (.tup [.int wt, .ref tq]) := upd_same
            have htq : (upd (upd H14 tq (.tup (row.map V.int))) tp (.tup [.int wt, .ref tq])) tq = some (.tup (row.map V.int)) := by
              rw [upd_ne (ne_of_none upd_same ntp)]
              exact upd_same
            have hD16 := hD14.same g16
            generalize (upd (upd H14 tq (.tup (row.map V.int))) tp (.tup [.int wt, .ref tq])) = H16 at g16 htp htq hD16 ⊢
            have hm16 := g16 m _ hm14
            have gt : Gr d H7 H16 := (g10.trans g14).trans (Gr.of_same g16)
            have hM16 : MovesAt H16 ws ms := hM7.same (gt.tups (K := K) hD7)
            have hl := hM16.length
            refine ⟨m, _, _, rfl, rfl, hm16, by rw [hl]; exact small8 (by omega), ?_⟩
            refine ⟨some (.int (0 + (i : Int))), some (.ref D10), some (.int wt), ms ++ [(wt, row)], ws ++ [.ref tp], rfl, hD16.turn hD2 nm nmd, ?_, upd_same, ?_, by rw [List.length_append, hl7]; rfl, ?_⟩
            · intro b o nb e
              by_cases hb : b = m
              · rw [hb] at e nb
                have z := g2 m o nb e
                rw [nm] at z
                cases z
              · rw [upd_ne hb]
                exact (g7.trans gt) b o nb e
            · refine MovesAt.same (H := H16) ?_ (MovesAt.snoc ⟨tp, tq, rfl, htp, htq⟩ hM16)
              intro b xs e
              rw [upd_ne]
              · exact e
              · intro z
                rw [z, hm16] at e
                cases e
            · intro mv hmv
              rcases List.mem_append.mp hmv with hmv | hmv
              · exact hg7 mv hmv
              · have e : mv = (wt, row) := by simpa using hmv
                subst e
                exact ⟨hw1, hw9, hR⟩
    · rintro σ7 H7 ⟨y5, y6, y7, ms, ws, rfl, hD7, g7, hm7, hM7, hl7, hg7⟩
      refine ⟨_, rfl, .ref m, rfl, (by show 2 ≤ sizeLine; decide), fun t nt => ?_⟩
      refine q t m many ws ms _ ⟨by omega, by omega, by omega, by omega, hg7⟩ (by omega) ⟨?_, same_new nt _ _ hm7, hM7.same (Same.tups (same_new nt))⟩ (hD7.new nt) (g7.new nt)
      rw [← em2]
      exact upd_same
end
end
/-! ### all(x in range(y) for x in a tuple of ints): a rule of our own -/
/-- the element: x in range(y), y a captured int -/
def eltR (x y : Str) (p1 p2 p3 p4 p5 : Pos) : Expr := .Compare (.Name x p1) [.In] [.Call (.Name "range" p2) [.Name y p3] [] p4] p5
def inR (n z : Int) : Bool := decide (0 ≤ z ∧ z < n)
theorem elt_range {prog : Program} {w : World} {cenv : Env} {A : Around} {E : Value → Shared → Prop} {x y : Str} {p1 p2 p3 p4 p5 : Pos} {s : Shared} {m mg mb : Str → Option Value} {cc : Addr} {z n : Int} {t u : Tok}
    (kf : cenv.scope.kind = .function) (kx : cenv.kindOf x = some .local) (ky : cenv.kindOf y = some .free) (kr : cenv.kindOf "range" = some .globalImplicit) (hm : s.heap.Ns cenv.locals m) (ex : m x = some (.int z t))
    (hc : cenv.cells.lookup y = some cc) (ec : s.heap.IsCell cc (some (.int n u))) (hg : s.heap.Ns cenv.globals mg) (nr : mg "range" = none) (hb : s.heap.Ns cenv.builtins mb) (br : mb "range" = some (.type "range"))
    (dx : (x == ("__debug__" : Str)) = false) (dy : (y == ("__debug__" : Str)) = false) (cy : (y == ("__classdict__" : Str)) = false) :
    wpAny (model prog w) A (eval (eltR x y p1 p2 p3 p4 p5) cenv) (fun v s' => v = .bool (inR n z) ∧ Keeps s s') E s := by
  refine wpAny_Compare1 (wpAny_Name (wpAny_loadName_local kf kx hm ex ?_) dx) (by rfl)
  refine wpAny_Call_Name_kw (Calls.Name_function_global kf kr (Calls.loadGlobal_builtin hg nr hb br ?_) (by decide))
  refine PyProof.Rows.callWith_type1 (Calls.spliced_cons (wpAny_Name (wpAny_loadName_free kf ky hc ec ?_ cy) dy)) (by rfl) (by rfl)
  refine Calls.spliced_nil (call_range_1 ?_)
  have ho := Heap.get?_push_size s.heap (o := { cls := .type "range", data := .fields #[.int 0 s.toks, .int n u, .int 1 (s.toks + 1)] }) rfl
  show wpAny _ _ (do return Value.bool (← contains (Value.ref s.heap.objs.size) (Value.int z t))) _ _ _
  refine wpAny_bind (wpAny_contains_slot (T := "range") ⟨_, ho, rfl⟩ F.slot_range_contains (call_meets F.slot_range_contains ⟨_, ho, rfl⟩ F.entry_range_contains (F.args_range_contains_2 _ _) (q_contains s.heap.objs.size 0 n z s.toks u (s.toks + 1) t) ⟨ho, ?_⟩))
  refine wpAny_truthy_bool (wpAny_pure ⟨?_, _, _, rfl, fun b o e => Heap.get?_push_of_some _ e⟩)
  rw [place1]
  rfl
open GxR in
/-- the walk that all(..) makes, once the generator stands at g -/
def AllReady (X : Cx) (pins : List (Addr × Obj)) (σ : L2.St) (H1 : Hp) (P : Addr) (bs : List Bool) (g : Addr) (s5 : Shared) : Prop :=
  ∃ (fp wr : List Addr) (G : Array GenState → Array GenState → Prop) (F : Nat → Value → Prop) (St : Nat → Shared → Prop) (tr : Nat → Bool),
    WalksS X.prog X.w X.A.in1 g fp wr G bs.length F St ∧ St 0 s5 ∧ TruthOf X.prog X.w X.A.in1 F tr ∧ (∀ j b, bs[j]? = some b → tr j = b) ∧
    ∀ s', Moved wr G s5 s' → ∃ H2, Tabbed P H1 H2 ∧ Inv X pins σ H2 s'
theorem clo_one {cells : List (Str × Addr)} : ∀ (names : List (Str × NameKind)) (acc : List (Str × Addr)) (y : Str) (cc : Addr), (∀ p ∈ names, p.2 = .free → cells.lookup p.1 = some ((cells.lookup p.1).getD 0)) → cells.lookup y = some cc →
    ((y, NameKind.free) ∈ names ∨ acc.lookup y = some cc) → (cloFrom cells names acc).lookup y = some cc := by
  intro names
  induction names with
  | nil =>
    intro acc y cc _ _ h
    rcases h with h | h
    · cases h
    · exact h
  | cons p r ih =>
    intro acc y cc hf hy h
    obtain ⟨n, kd⟩ := p
    unfold cloFrom
    have hf' : ∀ p ∈ r, p.2 = .free → cells.lookup p.1 = some ((cells.lookup p.1).getD 0) := fun p hp => hf p (List.mem_cons_of_mem _ hp)
    by_cases hk : (kd == NameKind.free) = true
    · rw [if_pos hk]
      refine ih _ y cc hf' hy ?_
      by_cases hn : y = n
      · subst hn
        refine .inr ?_
        rw [List.lookup_cons_self, hy]
        rfl
      · rcases h with h | h
        · rcases List.mem_cons.mp h with e | e
          · injection e with e1 _
            exact absurd e1 hn
          · exact .inl e
        · refine .inr ?_
          rw [List.lookup_cons, show (y == n) = false from by simpa using hn]
          exact h
    · rw [if_neg hk]
      refine ih _ y cc hf' hy ?_
      rcases h with h | h
      · rcases List.mem_cons.mp h with e | e
        · injection e with _ e2
          exact absurd (by rw [← e2]; rfl) hk
        · exact .inl e
      · exact .inr h
/-- the generator's code object: there already, or made and put into the table -/
theorem gen_code {M : Model} {A : Around} {env : Env} {c P : Addr} {gpos : Pos} {q : Str} {scope : Scope} {E : Value → Shared → Prop} {Q : Value → Shared → Prop} {s : Shared} {ps : Array Value} (hcode : env.code = .ref c) (cd : PySem.W.CodeHd s.heap c P)
    (hP : s.heap.get? P = some { cls := .none, data := .fields ps }) (ht : TriplesOk ps.toList)
    (h : ∀ (code : Value) (h3 : Heap) (tk : Nat) (more : Array Value), Heap.ExtBut P s.heap h3 → s.heap.objs.size ≤ h3.objs.size → h3.get? P = some { cls := .none, data := .fields (ps ++ more) } → TriplesOk (ps ++ more).toList → Q code { s with heap := h3, toks := tk }) :
    wpAny M A (genexprCode env gpos q scope) Q E s := by
  match hf : codeAmong gpos ps.toList with
  | some cv => exact wpAny_genexprCode_hit hcode (cd.code hP ht) hf (h cv s.heap s.toks #[] (Heap.ExtBut.refl _ _) (Nat.le_refl _) (by rw [Array.append_empty]; exact hP) (by rw [Array.append_empty]; exact ht))
  | none =>
    refine wpAny_genexprCodeX hcode (cd.code hP ht) (cd.tab hP) hf fun c' h' tk hx hge hlt hco _ htab _ => h _ h' tk _ hx (Nat.le_trans hge (Nat.le_of_lt hlt)) htab.2 ?_
    obtain ⟨_, _, _, _, _, _, _, _, _, _, _, _, _, _, _, _, _, _, _, htr, _⟩ := hco
    exact htr
section
variable {X : Cx} {pins : List (Addr × Obj)} {σ : L2.St} {H : Hp} {s : Shared}
open GxR in
theorem gen_range {c P : Addr} {iter : Expr} {x y : Str} {px gpos p1 p2 p3 p4 p5 : Pos} {scope : Scope} {te : TE} {k i : Nat} {Q' : Value → Shared → Prop} {R : List Int → Int → Hp → Prop}
    (hr : Room k X.A) (TB : TabB X.base X.mg c P) (hcode : X.env.code = .ref c) (S : GenS X.env scope x) (hi : PE X iter te) (hy : X.N[i]? = some y) (vy : X.env.kindOf y = some .cell) (fy : (y, NameKind.free) ∈ scope.names) (ly : scope.names.lookup y = some .free)
    (lr : scope.names.lookup ("range" : Str) = some .globalImplicit) (nr : X.mg "range" = none) (dx : (x == ("__debug__" : Str)) = false) (dy : (y == ("__debug__" : Str)) = false) (cy : (y == ("__classdict__" : Str)) = false)
    (hs : ∀ v, genFold iter X.env v = pure v) (I : Inv X pins σ H s) (h : te σ H fun v H1 => ∃ (a : Addr) (ns : List Int) (n : Int), v = .ref a ∧ SqT X.K H1 a (ns.map V.int) ∧ TabG H1 P ∧ σ[i]? = some (some (.int n)) ∧ R ns n H1)
    (hQ : ∀ ns n H1 g s5, R ns n H1 → AllReady X pins σ H1 P (ns.map (inR n)) g s5 → Q' (.ref g) s5) :
    wpAny (model X.prog X.w) X.A (eval (.GeneratorExp (eltR x y p1 p2 p3 p4 p5) [⟨.Name x px, iter, [], 0⟩] scope gpos) X.env) Q' X.xe s := by
  refine wpAny_GeneratorExp_walksQ hr.hd S.co (closure_ok S.free) S.cell S.dot S.loc S.kind (by have := hr.dp; omega) ?_ hs
  refine thn (hi.run pins s σ H _ I h) fun xv s1 ⟨v, H1, I1, r1, a, ns, n, ev, hT, hTab, hn, hR⟩ => ?_
  subst ev
  obtain rfl : xv = Value.ref a := r1
  obtain ⟨its, rv, hTup, hz⟩ := I1.tuple hT
  have tupAt : s1.heap.IsTuple a its.toArray := hTup
  -- the captured int
  obtain ⟨cc, u, hcc, hcell⟩ : ∃ (cc : Addr) (u : Tok), X.env.cells.lookup y = some cc ∧ s1.heap.IsCell cc (some (.int n u)) := by
    obtain ⟨m, _, hl⟩ := I1.loc
    obtain ⟨uv, ru, lk⟩ := hl i y (.int n) hy hn (.inr (.inl vy))
    obtain ⟨u, eu⟩ := ru
    subst eu
    rcases lk with ⟨k1, _⟩ | ⟨_, cc, e1, e2⟩
    · rw [vy] at k1
      cases k1
    · exact ⟨cc, u, e1, e2⟩
  obtain ⟨mb, bb1, bb2⟩ := I1.mod.blt
  have lenI : its.toArray.size = ns.length := by
    have e := rv.length
    rw [List.length_map] at e
    simp only [List.size_toArray]
    omega
  obtain ⟨ps, hP, hps⟩ := hTab
  refine wpAny_pyIter_tuple tupAt ?_
  -- it: the iterator's object
  let it : Obj := { cls := .type "tuple_iterator", data := .fields #[.ref a, .int 0 0] }
  have atP : s1.heap.get? P = some { cls := .none, data := .fields ps } := I1.hok P _ hP
  have ltP : P < s1.heap.objs.size := Heap.lt_size atP
  have limI : (s1.heap.push it).NoLimit := I1.nolimit.push it
  have keepI : ∀ b o, s1.heap.get? b = some o → (s1.heap.push it).get? b = some o := fun b o e => Heap.get?_push_of_some _ e
  have codeI : PySem.W.CodeHd (s1.heap.push it) c P := TB.code.keeps fun b o e => keepI b o (I1.bk b o e)
  have ltS : cStatics < s1.heap.objs.size := let ⟨_, q, _⟩ := I1.nolimit; q.lt
  have neS : cStatics ≠ P := fun e => by
    obtain ⟨_, ⟨o', es, ep, g1, g2, _⟩, _⟩ := I1.nolimit
    rw [e, atP] at g1
    cases g1
    cases g2
  have szI : (s1.heap.push it).objs.size = s1.heap.objs.size + 1 := Heap.size_push ..
  have iterI : (s1.heap.push it).IsTupleIter s1.heap.objs.size a 0 := ⟨_, Heap.get?_push_size _ rfl, rfl, rfl⟩
  have tupI : (s1.heap.push it).IsTuple a its.toArray := by
    obtain ⟨o, e, r⟩ := tupAt
    exact ⟨o, keepI _ _ e, r⟩
  have neIt : a ≠ s1.heap.objs.size := by
    obtain ⟨o, e, _⟩ := tupAt
    exact Nat.ne_of_lt (Heap.lt_size e)
  have neAP : a ≠ P := fun e => by
    obtain ⟨o, g, _, nn, dd⟩ := tupAt
    rw [e, atP] at g
    cases g
    cases dd
  have Wk : ∀ A' : Around, A'.handled = none → Walks X.prog X.w A' s1.heap.objs.size [s1.heap.objs.size, a] [s1.heap.objs.size] its.toArray.size (fun j v => its.toArray[j]? = some v) (fun j hp => hp.IsTupleIter s1.heap.objs.size a j ∧ hp.IsTuple a its.toArray) :=
    fun A' hA => Walks.tuple hA s1.heap.objs.size a neIt its.toArray
  refine ⟨limI, gen_code hcode codeI (keepI _ _ atP) hps fun code h3 tk more hx hge hP3 ht3 => ?_⟩
  have hge2 : s1.heap.objs.size + 1 ≤ h3.objs.size := by
    rw [← szI]
    exact hge
  have keep3 : ∀ b o, b ≠ P → s1.heap.get? b = some o → h3.get? b = some o := fun b o nb e => hx b o nb (keepI b o e)
  obtain ⟨bm, ob, f1, f2, f3, f4, f5, f6, f7, f8⟩ := TB.bm
  have glob3 : h3.Ns X.env.globals X.mg := by
    rw [I1.ok.glob]
    exact ((I1.mod.glob.keeps I1.bk).push it).extBut hx TB.gP
  refine wpAny_builtinsFor (m := X.mg) glob3 f1 f2 (keep3 _ _ f4 (I1.bk _ _ f5)) f6 f7 f8 ?_
  refine ⟨s1.heap.objs.size, [s1.heap.objs.size, a], [s1.heap.objs.size], its.toArray.size, fun j v => its.toArray[j]? = some v, _, fun _ => true, fun j v => ∃ z, ns[j]? = some z ∧ v = .bool (inR n z), rfl, Wk, ?_, ?_, limI.extBut hx neS, ?_, ?_, ?_⟩
  · refine ⟨?_, ?_⟩
    · obtain ⟨o, e, r⟩ := iterI
      exact ⟨o, hx _ _ (Nat.ne_of_gt ltP) e, r⟩
    · obtain ⟨o, e, r⟩ := tupI
      exact ⟨o, hx _ _ neAP e, r⟩
  · intro b hb
    show b < h3.objs.size
    rcases List.mem_cons.mp hb with e | e
    · rw [e]
      exact Nat.lt_of_succ_le hge2
    · have e2 : b = a := by simpa using e
      obtain ⟨o, g, _⟩ := tupAt
      have lta := Heap.lt_size g
      rw [e2]
      exact Nat.lt_of_lt_of_le lta (by omega)
  · intro hmem
    have e : cStatics = s1.heap.objs.size := by simpa using hmem
    rw [e] at ltS
    exact Nat.lt_irrefl _ ltS
  · intro href hhref
    refine ⟨fun A' E' j v s₂ m₂ hA hPv ha2 hb2 hk => ?_, fun A' E' j v s₂ m₂ hA hPv _ ha2 hb2 hk => ?_⟩
    · simp only [List.forIn_nil]
      exact wpAny_pure ⟨rfl, s₂.heap, s₂.toks, rfl, fun _ _ e => e⟩
    · -- what stood ahead of the generator stands
      have old : ∀ b o, b ≠ P → s1.heap.get? b = some o → s₂.heap.get? b = some o := fun b o nb e => by
        refine hk b (List.mem_range.mpr ?_) (fun z => ?_) o (hhref b o (keep3 b o nb e))
        · exact Nat.lt_of_lt_of_le (Heap.lt_size e) (by show s1.heap.objs.size ≤ h3.objs.size; omega)
        · have e2 : b = s1.heap.objs.size := by simpa using z
          exact Nat.ne_of_lt (Heap.lt_size e) e2
      have nPb : ∀ b o, X.base.get? b = some o → b ≠ P := fun b o e z => by
        have q := (I1.bs b o e).2
        rw [z, hP] at q
        cases q
      have hjv : its[j]? = some v := by simpa using hPv
      obtain ⟨zv, ez, rz⟩ : ∃ z, ns[j]? = some z ∧ RelV (.int z) v := by
        have hj : j < ns.length := by
          obtain ⟨h, _⟩ := List.getElem?_eq_some_iff.mp hjv
          simpa [lenI] using (show j < its.toArray.size by simpa using h)
        obtain ⟨uu, g1, g2⟩ := rv.get (i := j) (x := .int ns[j]) (by rw [List.getElem?_map, List.getElem?_eq_getElem hj]; rfl)
        rw [hjv] at g1
        cases g1
        exact ⟨_, List.getElem?_eq_getElem hj, g2⟩
      obtain ⟨tz, rfl⟩ := rz
      have cellS : s₂.heap.IsCell cc (some (.int n u)) := by
        obtain ⟨o, e, d⟩ := hcell
        refine ⟨o, old _ _ (fun z => ?_) e, d⟩
        rw [z, atP] at e
        cases e
        cases d
      have gS : s₂.heap.Ns mainGlobals X.mg := by
        obtain ⟨o, es, ep, e, r⟩ := I1.mod.glob
        exact ⟨o, es, ep, old _ _ (nPb _ _ e) (I1.bk _ _ e), r⟩
      have bS : s₂.heap.Ns builtinsNs mb := by
        obtain ⟨o, es, ep, e, r⟩ := bb1
        exact ⟨o, es, ep, old _ _ (nPb _ _ e) (I1.bk _ _ e), r⟩
      have hclo : (cloFrom X.env.cells scope.names []).lookup y = some cc := clo_one _ _ _ _ (fun p hp hf => by
        obtain ⟨c', ec'⟩ := S.free p hp hf
        rw [ec']
        rfl) hcc (.inl fy)
      refine thn (elt_range (x := x) (y := y) S.kind S.loc ly lr ha2 hb2 hclo cellS (mg := X.mg) (by show s₂.heap.Ns X.env.globals X.mg; rw [I1.ok.glob]; exact gS) nr bS ((bb2 "range" (by decide)).trans (by decide +kernel)) dx dy cy) fun v' s3 hv => ⟨⟨zv, ez, hv.1⟩, hv.2⟩
  · intro g h5 tk5 gs hbare hag hsz5 hk5 W5 hat
    have e0 : passing (fun _ => true) its.toArray.size 0 = List.range its.toArray.size := GxR.passing_true _
    rw [e0] at W5
    rw [List.length_range, lenI] at W5
    have oldA : ∀ b o, s1.heap.get? b = some o → b ∉ h3.objs.size :: [s1.heap.objs.size] := fun b o e hb => by
      have l0 := Heap.lt_size e
      rcases List.mem_cons.mp hb with z | z
      · rw [z] at l0
        exact absurd (Nat.lt_of_lt_of_le l0 (Nat.le_of_succ_le hge2)) (Nat.lt_irrefl _)
      · have z2 : b = s1.heap.objs.size := by simpa using z
        exact Nat.ne_of_lt l0 z2
    have W6 := W5.in4_1
    rw [show ns.length = (ns.map (inR n)).length from (List.length_map _).symm] at W6
    rw [lenI, show ns.length = (ns.map (inR n)).length from (List.length_map _).symm] at hat
    refine hQ ns n H1 g _ hR ⟨_, _, _, _, _, fun j => (ns.map (inR n)).getD j false, W6, hat, ?_, fun j b hb => by show (ns.map (inR n)).getD j false = b; rw [List.getD_eq_getElem?_getD, hb]; rfl, fun s' hm => ?_⟩
    · intro j yv sj Qj Ej hy hQj
      obtain ⟨i', hij, z, hz', rfl⟩ := hy
      obtain ⟨hj, ej⟩ := List.getElem?_eq_some_iff.mp hij
      rw [List.getElem_range] at ej
      subst ej
      refine wpAny_truthy_bool ?_
      have eb : (ns.map (inR n)).getD j false = inR n z := by
        rw [List.getD_eq_getElem?_getD, List.getElem?_map, hz']
        rfl
      have hQj' : Qj ((ns.map (inR n)).getD j false) sj := hQj
      rw [eb] at hQj'
      exact hQj'
    · have J := inv_tab (more := more) (h' := s'.heap) (g' := s'.gens) (d' := s'.drawn) (t' := s'.toks) I1 hP (fun b o nb e => hm.heap b o (oldA b o e) (hk5 b o (keep3 b o nb e))) (hm.heap P _ (oldA P _ atP) (hk5 P _ hP3)) (AllBare.movedS (I1.bare.push hbare) hm)
      rw [sh_eta s1 s' hm.os] at J
      exact ⟨upd H1 P (.tbl (ps ++ more)), ⟨⟨ps ++ more, upd_same, ht3⟩, fun b hb => upd_ne hb⟩, J⟩
/-- all(x in range(y) for x in e): e a tuple of ints, y an int in slot i -/
def tAllR (K : PySem.W.Frag) (P : Addr) (i : Nat) (te : TE) : TE := fun σ H Q => te σ H fun v H1 => ∃ (a : Addr) (ns : List Int) (n : Int), v = .ref a ∧ SqT K H1 a (ns.map V.int) ∧ GxR.TabG H1 P ∧ σ[i]? = some (some (.int n)) ∧
  ∀ H2, GxR.Tabbed P H1 H2 → Q (.bl (ns.all (inR n))) H2
theorem all_tr : ∀ (bs : List Bool) (tr : Nat → Bool), (∀ j b, bs[j]? = some b → tr j = b) → (List.range bs.length).all tr = bs.all id := by
  intro bs tr h
  rw [Bool.eq_iff_iff, List.all_eq_true, List.all_eq_true]
  constructor
  · intro g b hb
    obtain ⟨j, hj, e⟩ := List.getElem_of_mem hb
    have q := g j (List.mem_range.mpr hj)
    rw [h j b (by rw [List.getElem?_eq_getElem hj, e])] at q
    exact q
  · intro g j hj
    have hj' := List.mem_range.mp hj
    rw [h j bs[j] (List.getElem?_eq_getElem hj')]
    exact g _ (List.getElem_mem hj')
theorem pe_allR {c P : Addr} {iter : Expr} {x y : Str} {px p pos gpos p1 p2 p3 p4 p5 : Pos} {scope : Scope} {te : TE} {k i : Nat}
    (hr : Room k X.A) (hg : Gl X "all") (hm : X.mg "all" = none) (TB : GxR.TabB X.base X.mg c P) (hcode : X.env.code = .ref c) (S : GxR.GenS X.env scope x) (hi : PE X iter te) (hy : X.N[i]? = some y) (vy : X.env.kindOf y = some .cell) (fy : (y, NameKind.free) ∈ scope.names) (ly : scope.names.lookup y = some .free)
    (lr : scope.names.lookup ("range" : Str) = some .globalImplicit) (nr : X.mg "range" = none) (dx : (x == ("__debug__" : Str)) = false) (dy : (y == ("__debug__" : Str)) = false) (cy : (y == ("__classdict__" : Str)) = false)
    (hs : ∀ v, genFold iter X.env v = pure v)
    (he : starEach [.GeneratorExp (eltR x y p1 p2 p3 p4 p5) [⟨.Name x px, iter, [], 0⟩] scope gpos] X.env = (false, eval (.GeneratorExp (eltR x y p1 p2 p3 p4 p5) [⟨.Name x px, iter, [], 0⟩] scope gpos) X.env) :: starEach [] X.env := by rfl) :
    PE X (.Call (.Name "all" p) [.GeneratorExp (eltR x y p1 p2 p3 p4 p5) [⟨.Name x px, iter, [], 0⟩] scope gpos] [] pos) (tAllR X.K P i te) := by
  refine ⟨fun pins s σ H Q I h => wpAny_Call_Name_kw (ld_blt I hg hm (by decide +kernel) (PyProof.Rows.callWith_builtin1 (id := "all") ?_ he (by rfl)))⟩
  rw [he]
  show wpAny _ _ (spliced (_ :: backTo pos (starEach [] X.env))) _ _ s
  refine Calls.spliced_cons (gen_range (R := fun ns n H1 => ∀ H2, GxR.Tabbed P H1 H2 → Q (.bl (ns.all (inR n))) H2) hr TB hcode S hi hy vy fy ly lr nr dx dy cy hs I h fun ns n H1 g s5 hR ⟨fp, wr, G, F, St', tr, W, hst, htr, hb, hI⟩ => Calls.spliced_nil ?_)
  refine call_all_walkS (W.self 0 _ _ _ hst ⟨g, fp, wr, G, _, F, St', _, rfl, W, hst, htr, fun s' hmv => ?_⟩)
  obtain ⟨H2, hT, J⟩ := hI s' hmv
  refine ⟨.bl _, H2, J, rfl, ?_⟩
  rw [all_tr _ tr hb, List.all_map]
  exact hR H2 hT
end
/-! ### a def of the text whose code object is known -/
structure FunT (K : PySem.W.Frag) (x qual : Str) (st : Stmt) (f : Addr) (fd : FuncData) (c : Addr) : Prop where
  ex : ∃ (oc : Value) (od : Option Addr) (kV doc pm : Value) (an : Option Addr) (ct : Value) (osl : Array (Option Value)),
    fd = PySem.W.fnOf x qual (defArgs st) (defBody st) (defScope st) .none kV doc pm an (.ref c) ct ∧ K.lookup f = some ⟨oc, od, .func fd, osl⟩ ∧ PySem.W.codeIn K (.ref c) qual = true
  kp : PySem.W.keepIn K (.ref f) = true
/-- x not in range(..) -/
theorem op_notIn_rng {X : Cx} : OpR X (compareOp .NotIn) (fun x y H Q => ∃ i a lo hi, x = V.int i ∧ y = V.ref a ∧ H a = some (.rng lo hi) ∧ Q (.bl (!decide (lo ≤ i ∧ i < hi))) H) := by
  intro pins s σ H x y v u Q I rx ry ⟨i, a, lo, hi, ex, ey, ha, q⟩
  subst ex ey
  obtain ⟨k, rfl⟩ := rx
  have e2 : u = Value.ref a := ry
  subst e2
  obtain ⟨t1, t2, t3, ho⟩ := I.hok a _ ha
  show wpAny _ _ (do return Value.bool (!(← contains (Value.ref a) (Value.int i k)))) _ _ s
  refine wpAny_bind (wpAny_contains_slot (T := "range") ⟨_, ho, rfl⟩ F.slot_range_contains (call_meets F.slot_range_contains ⟨_, ho, rfl⟩ F.entry_range_contains (F.args_range_contains_2 _ _) (q_contains a lo hi i t1 t2 t3 k) ⟨ho, wpAny_truthy_bool ?_⟩))
  refine wpAny_pure ⟨.bl _, H, I, rfl, ?_⟩
  rw [place1]
  exact q
section
variable {P : Program} {w : World} {K : PySem.W.Frag} {mg : Str → Option Value} {base : Heap}
/-! ### _is_move -/
theorem scIsMove : FnScope ["many", "move", "weight", "whither"] ["many", "move"] (defScope sIsMove) := ⟨rfl, rfl, rfl, by decide +kernel, rfl, by decide +kernel, by decide +kernel⟩
def isMv (many : Int) (m : Mv) : Bool := decide (1 ≤ m.1 ∧ m.1 < 100) && decide ((m.2.length : Int) = many) && m.2.all (inR many)
def spIsMove (T : Addr) : Sp := fun vs H Q _ => ∃ (many : Int) (v : V) (m : Mv), vs = [.int many, v] ∧ MoveAt H v m ∧ GxR.TabG H T ∧ ∀ H', Gr T H H' → GxR.TabG H' T → Q (.bl (isMv many m)) H'
/-- the program's names that a chain leans on -/
structure ChTxt (K : PySem.W.Frag) (mg : Str → Option Value) (fM cM tM : Addr) (fdM : FuncData) (C fI : Addr) (fdI : FuncData) : Prop where
  FM : FunT K "_is_move" "_is_move" sIsMove fM fdM cM
  bM : Binds K fdM ["many", "move"] []
  gM : mg "_is_move" = some (.ref fM)
  FI : Fun K "__init__" "Chain.__init__" (inClass cChain 0) fI fdI
  bI : Binds K fdI ["self", "many", "moves"] []
  mC : Mk K C fI
  cl : Cls K C
  nM : NoAttr K C "_many"
  nV : NoAttr K C "_moves"
  gC : mg "Chain" = some (.ref C)
  gP : ∃ t, mg "MOST_PLACES" = some (.int 6 t)
  gV : ∃ t, mg "MOST_MOVES" = some (.int 8 t)
  gW : ∃ t, mg "MOST_WEIGHT" = some (.int 99 t)
  ml : mg "len" = none
  mi : mg "isinstance" = none
  mt : mg "tuple" = none
  mr : mg "range" = none
  ma : mg "all" = none
  me : mg "enumerate" = none
  mL : mg "list" = none
section
variable {fM cM tM : Addr} {fdM : FuncData} {C fI : Addr} {fdI : FuncData}
theorem genS_move {L f : Addr} {cdv : Value} {scope : Scope} (hs : scope.names = [((".0" : Str), .local), (("place" : Str), .local), (("many" : Str), .free), (("range" : Str), .globalImplicit)]) (hk : scope.kind = .function) (hc : scope.isCoroutine = false) (ha : (envOfC "_is_move" (defScope sIsMove) L f cdv).cells.lookup ("many" : Str) ≠ none) :
    GxR.GenS (envOfC "_is_move" (defScope sIsMove) L f cdv) scope "place" := by
  refine ⟨hk, hc, ?_, ?_, ?_, ?_⟩
  · rw [hs]
    decide +kernel
  · rw [hs]
    decide +kernel
  · rw [hs]
    decide +kernel
  · intro y hy hf
    rw [hs] at hy
    have e : y.1 = ("many" : Str) := by
      rcases List.mem_cons.mp hy with e | hy
      · rw [e] at hf
        cases hf
      rcases List.mem_cons.mp hy with e | hy
      · rw [e] at hf
        cases hf
      rcases List.mem_cons.mp hy with e | hy
      · rw [e]
      rcases List.mem_cons.mp hy with e | hy
      · rw [e] at hf
        cases hf
      · cases hy
    rw [e]
    cases q : (envOfC "_is_move" (defScope sIsMove) L f cdv).cells.lookup ("many" : Str) with
    | none => exact absurd q ha
    | some c => exact ⟨c, rfl⟩
theorem ok_ismove (T : ChTxt K mg fM cM tM fdM C fI fdI) (TB : GxR.TabB base mg cM tM) : FnOk P w K mg base CX0 1 fM fdM ["many", "move"] (spIsMove tM) := by
  obtain ⟨oc, od, kV, doc, pm, an, ct, osl, efd, lk, hcd⟩ := T.FM.ex
  subst efd
  obtain ⟨tw, gW⟩ := T.gW
  refine fn_of (N := ["many", "move", "weight", "whither"]) lk hcd scIsMove (fun vs H Q E h => ?_) (fun A outer s H vs Q E hr h => ?_)
  · obtain ⟨many, v, m, rfl, _⟩ := h
    rfl
  · obtain ⟨many, v, m, rfl, ⟨a, b, rfl, ha, hb⟩, hTab, q⟩ := h
    refine ⟨_, pss_cons (ps_if (PW.pt (pw_or (pt_not (pt_val (pe_callB RZ.call_isTy (by rfl) T.mi (by decide +kernel) (pa_cons (pv 1) (pa_cons (pe_bltn (v := .ty "tuple") (by rfl) T.mt (by decide +kernel) rfl) pa_nil)))))
          (pw_or1 (pt_cmpR op_ne (pe_callB call_len_seq (by rfl) T.ml PySem.boot_len (pa_cons (pv 1) pa_nil)) pe_int (nomark _))))) (pss_one (ps_ret pe_bl)) pss_nil)
      (pss_cons (ps_asg (pv 1) (pg_tup rfl (pgs_cons (pg_name (i := 2) scIsMove.nd rfl (.inl rfl)) (pgs_cons (pg_name (i := 3) scIsMove.nd rfl (.inl rfl)) pgs_nil))))
      (pss_cons (ps_if (pt_cmpR op_notIn_rng (pv 2) (pe_callTy cr_range2 (by rfl) T.mr (by decide +kernel) (pa_cons pe_int (pa_cons (pe_op op_add (pe_glob (v := .int 99) (by rfl) gW ⟨_, rfl⟩) pe_int) pa_nil))) rfl) (pss_one (ps_ret pe_bl)) pss_nil)
      (pss_cons (ps_if (PW.pt (pw_or (pt_not (pt_val (pe_callB RZ.call_isTy (by rfl) T.mi (by decide +kernel) (pa_cons (pv 3) (pa_cons (pe_bltn (v := .ty "tuple") (by rfl) T.mt (by decide +kernel) rfl) pa_nil)))))
          (pw_or1 (pt_cmpR op_ne (pe_callB call_len_seq (by rfl) T.ml PySem.boot_len (pa_cons (pv 3) pa_nil)) (pv 0) (nomark _))))) (pss_one (ps_ret pe_bl)) pss_nil)
      (pss_one (ps_ret (pe_allR (k := 0) (x := "place") (y := "many") (i := 0) hr (by rfl) T.ma TB rfl (genS_move (by rfl) rfl rfl ?hcell) (pv 3) rfl rfl (by decide +kernel) (by decide +kernel) (by decide +kernel) T.mr (by decide) (by decide) (by decide) (fun _ => rfl) (by rfl))))))), ?_⟩
    case hcell =>
      intro z
      have q : ((envOfC "_is_move" (defScope sIsMove) s.heap.objs.size fM (.ref cM)).cells.lookup ("many" : Str)).isSome = true := PySem.W.cellsFrom_some _ _ _ (.inl (by decide +kernel))
      rw [z] at q
      cases q
    have neT : ∀ {p : Addr}, H p = none → p ≠ tM := fun np z => by
      obtain ⟨ps, e, _⟩ := hTab
      rw [z, e] at np
      cases np
    refine ⟨.ref a, rfl, .ref a, "tuple", rfl, .tup ha, true, rfl, ?_⟩
    refine ⟨.ref a, rfl, a, _, rfl, .inr (SqT.of ha), rfl, _, rfl, iteNS rfl ?_⟩
    refine ⟨.ref a, rfl, a, _, rfl, SqT.of ha, rfl, .int m.1, [.ref b], rfl, .ref b, [], rfl, rfl, ?_⟩
    refine ⟨.int m.1, rfl, 99, 1, rfl, rfl, 1, 100, rfl, fun r nr => ⟨m.1, r, 1, 100, rfl, rfl, upd_same, _, rfl, ?_⟩⟩
    have g1 : Same H (upd H r (.rng 1 100)) := same_new nr
    have tab1 : GxR.TabG (upd H r (.rng 1 100)) tM := by
      obtain ⟨ps, e, t⟩ := hTab
      exact ⟨ps, g1 _ _ e, t⟩
    have hb1 := g1 _ _ hb
    by_cases h1 : 1 ≤ m.1 ∧ m.1 < 100
    · refine iteNS h1 ?_
      refine ⟨.ref b, rfl, .ref b, "tuple", rfl, .tup hb1, true, rfl, ?_⟩
      refine ⟨.ref b, rfl, b, _, rfl, .inr (SqT.of hb1), .int many, rfl, rfl, _, rfl, ?_⟩
      by_cases h2 : (((m.2.map V.int).length : Nat) : Int) = many
      · refine iteNS (congrArg V.int h2) ?_
        refine ⟨.ref b, rfl, b, m.2, many, rfl, SqT.of hb1, tab1, rfl, fun H2 ⟨t2, k2⟩ => ?_⟩
        have e : isMv many m = m.2.all (inR many) := by
          unfold isMv
          rw [List.length_map] at h2
          rw [decide_eq_true h1, decide_eq_true h2, Bool.true_and, Bool.true_and]
        have q2 := q H2 (fun x o nx ex => by rw [k2 x nx]; exact g1 _ _ ex) t2
        rw [e] at q2
        exact q2
      · have e : isMv many m = false := by
          unfold isMv
          rw [List.length_map] at h2
          rw [decide_eq_false h2, Bool.and_false, Bool.false_and]
        have q2 := q _ (Gr.of_same g1) tab1
        rw [e] at q2
        have h3 : ¬ V.int (((m.2.map V.int).length : Nat) : Int) = V.int many := fun z => h2 (V.int.inj z)
        show if (!decide (V.int (((m.2.map V.int).length : Nat) : Int) = V.int many)) = true then _ else _
        rw [decide_eq_false h3]
        exact q2
    · have e : isMv many m = false := by
        unfold isMv
        rw [decide_eq_false h1, Bool.false_and, Bool.false_and]
      have q2 := q _ (Gr.of_same g1) tab1
      rw [e] at q2
      rw [decide_eq_false h1]
      exact q2
end
end
def rLenSq (K : PySem.W.Frag) : List V → Hp → VK → Prop := fun xs H Q => ∃ p ys, xs = [V.ref p] ∧ (SqL K H p ys ∨ SqT K H p ys) ∧ Q (.int ((ys.length : Nat) : Int)) H
section
variable {P : Program} {w : World} {K : PySem.W.Frag} {mg : Str → Option Value} {base : Heap}
variable {fM cM tM : Addr} {fdM : FuncData} {C fI : Addr} {fdI : FuncData}
/-! ### class Chain -/
theorem scInit : FnScope ["self", "many", "moves", "number", "move"] ["self", "many", "moves"] (defScope (inClass cChain 0)) := ⟨rfl, rfl, rfl, by decide +kernel, rfl, by decide +kernel, by decide +kernel⟩
def chF (many : Int) (a : Addr) : List (Str × V) := putF "_moves" (.ref a) (putF "_many" (.int many) [])
theorem ne_mm : ¬ (("_many" : Str) = "_moves") := by decide +kernel
theorem chF_many (many : Int) (a : Addr) : (chF many a).lookup ("_many" : Str) = some (.int many) := by
  unfold chF
  rw [lookup_putF, if_neg ne_mm, lookup_putF, if_pos rfl]
theorem chF_moves (many : Int) (a : Addr) : (chF many a).lookup ("_moves" : Str) = some (.ref a) := by
  unfold chF
  rw [lookup_putF, if_pos rfl]
theorem chF_no (many : Int) (a : Addr) {m : Str} (h1 : ¬ m = "_many") (h2 : ¬ m = "_moves") : (chF many a).lookup m = none := by
  unfold chF
  rw [lookup_putF, if_neg h2, lookup_putF, if_neg h1]
  all_goals rfl
def ChainAt (C : Addr) (H : Hp) (x : Addr) (many : Nat) (ms : List Mv) : Prop := ∃ dx a ws, H x = some (.ins C dx (chF (many : Int) a)) ∧ H a = some (.lst ws) ∧ MovesAt H ws ms
theorem ChainAt.same {C : Addr} {H H' : Hp} {x : Addr} {many : Nat} {ms : List Mv} (s : Same H H') (h : ChainAt C H x many ms) : ChainAt C H' x many ms := by
  obtain ⟨dx, a, ws, h1, h2, h3⟩ := h
  exact ⟨dx, a, ws, s _ _ h1, s _ _ h2, h3.same (Same.tups s)⟩
theorem moves_no_dl {H : Hp} {ws : List V} {ms : List Mv} (h : MovesAt H ws ms) (s0 : Int) (l : Addr) (k big : Int) : HO.lst ws ≠ .lst (dl s0 l k big) := by
  intro z
  injection z with z
  subst z
  cases h with
  | cons a _ =>
    obtain ⟨_, _, e, _⟩ := a
    cases e
theorem ChainAt.gr {C d l : Addr} {ns : List Int} {H H' : Hp} {x : Addr} {many : Nat} {ms : List Mv} (hd : Dc K l ns H d) (s : Gr d H H') (h : ChainAt C H x many ms) : ChainAt C H' x many ms := by
  obtain ⟨dx, a, ws, h1, h2, h3⟩ := h
  exact ⟨dx, a, ws, s _ _ (hd.ne_of h1 fun _ _ _ _ z => nomatch z) h1, s _ _ (hd.ne_of h2 (moves_no_dl h3)) h2, h3.same (s.tups hd)⟩
/-- all that is tracked, but at x and t, is as it was -/
def Gr2 (x t : Addr) (H H' : Hp) : Prop := ∀ b o, b ≠ x → b ≠ t → H b = some o → H' b = some o
/-- a chain that has just been made: its list of moves is its own -/
def ChainNew (C : Addr) (H H' : Hp) (x : Addr) (many : Nat) (ms : List Mv) : Prop := ∃ dx a ws, H' x = some (.ins C dx (chF (many : Int) a)) ∧ H' a = some (.lst ws) ∧ MovesAt H' ws ms ∧ H a = none
theorem ChainNew.at {C : Addr} {H H' : Hp} {x : Addr} {many : Nat} {ms : List Mv} (h : ChainNew C H H' x many ms) : ChainAt C H' x many ms := by
  obtain ⟨dx, a, ws, h1, h2, h3, _⟩ := h
  exact ⟨dx, a, ws, h1, h2, h3⟩
def spInitG (C T : Addr) : Sp := fun vs H Q _ => ∃ (x dx l : Addr) (many : Nat) (ws : List V) (ms : List Mv), vs = [.ref x, .int (many : Int), .ref l] ∧ H x = some (.ins C dx []) ∧ H l = some (.lst ws) ∧ MovesAt H ws ms ∧ Good many ms ∧ GxR.TabG H T ∧
  ∀ H', ChainNew C H H' x many ms → Gr2 x T H H' → GxR.TabG H' T → Q .non H'
theorem isMv_good {many : Nat} {m : Mv} (h : GoodMv many m) : isMv (many : Int) m = true := by
  obtain ⟨h1, h2, h3, h4⟩ := h
  unfold isMv
  rw [decide_eq_true (show 1 ≤ m.1 ∧ m.1 < 100 from ⟨h1, by omega⟩), decide_eq_true (show (m.2.length : Int) = (many : Int) by rw [h3]), Bool.true_and, Bool.true_and, List.all_eq_true]
  intro x hx
  unfold inR
  exact decide_eq_true (h4 x hx)
theorem ok_initG (T : ChTxt K mg fM cM tM fdM C fI fdI) (TB : GxR.TabB base mg cM tM) : FnOk P w K mg base CX0 2 fI fdI ["self", "many", "moves"] (spInitG C tM) := by
  have GM : FnOk P w K mg base CX0 1 fM fdM ["many", "move"] (spIsMove tM) := ok_ismove T TB
  obtain ⟨tp, gP⟩ := T.gP
  obtain ⟨tv, gV⟩ := T.gV
  refine T.FI.ok scInit (fun vs H Q E h => ?_) (fun cdv A outer s H vs Q E hr h => ?_)
  · obtain ⟨x, dx, l, many, ws, ms, rfl, _⟩ := h
    rfl
  · obtain ⟨x, dx, l, many, ws, ms, rfl, hx, hl, hM, G, hTab, q⟩ := h
    have lenW := hM.length
    refine ⟨_, pss_cons (ps_if (pt_not (pt_chain op_le op_le pe_int (pv 1) (pe_glob (v := .int 6) (by rfl) gP ⟨_, rfl⟩))) pss_never pss_nil)
      (pss_cons (ps_if (pt_not (pt_chain op_le op_le pe_int (pe_callB call_len_seq (by rfl) T.ml PySem.boot_len (pa_cons (pv 2) pa_nil)) (pe_glob (v := .int 8) (by rfl) gV ⟨_, rfl⟩))) pss_never pss_nil)
      (pss_cons (ps_for PassesOwn.never rfl (pi_enum (by rfl) T.me (pa_cons (pv 2) pa_nil)) (pg_tup rfl (pgs_cons (pg_name (i := 3) scInit.nd rfl (.inl rfl)) (pgs_cons (pg_name (i := 4) scInit.nd rfl (.inl rfl)) pgs_nil)))
          (pss_one (ps_if (pt_not (pt_val (pe_call GM hr (by rfl) T.gM T.FM.kp T.bM .nil pass0 (pa_cons (pv 1) (pa_cons (pv 4) pa_nil))))) pss_never pss_nil)))
      (pss_cons (ps_fld (pv 0) (pv 1) rfl)
      (pss_one (ps_fld (pv 0) (pe_callTy call_list_of (by rfl) T.mL (by decide +kernel) (pa_cons (pv 2) pa_nil)) rfl))))), ?_⟩
    have G1 := G.m1
    have G2 := G.m6
    have G3 := G.l1
    have G4 := G.l8
    refine ⟨.int (many : Int), rfl, 1, (many : Int), rfl, rfl, _, rfl, ifD (by omega) ⟨_, _, rfl, rfl, _, rfl, iteNS (by omega) ?_⟩⟩
    have hS : SqL K H l ws := SqL.of hl
    refine ⟨.ref l, rfl, l, ws, rfl, .inl hS, 1, _, rfl, rfl, _, rfl, ifD (by omega) ⟨_, _, rfl, rfl, _, rfl, iteNS (by omega) ?_⟩⟩
    -- for number, move in enumerate(moves)
    have nxT : x ≠ tM := fun z => by
      obtain ⟨ps, e, _⟩ := hTab
      rw [z, e] at hx
      cases hx
    have nlT : l ≠ tM := fun z => by
      obtain ⟨ps, e, _⟩ := hTab
      rw [z, e] at hl
      cases hl
    have nxl : x ≠ l := ne_of hx hl (fun z => nomatch z)
    have tupK : ∀ {H'}, Gr tM H H' → ∀ b xs, H b = some (.tup xs) → H' b = some (.tup xs) := fun {H'} g b xs e => g b _ (fun z => by
      obtain ⟨ps, e2, _⟩ := hTab
      rw [z, e2] at e
      cases e) e
    refine ⟨.ref l, rfl, l, ws, rfl, hS, for_it (walk_enum (K := K) (a := l) (xs := ws)) (fun i σ H' => ∃ y3 y4, σ = [some (.ref x), some (.int (many : Int)), some (.ref l), y3, y4] ∧ Gr tM H H' ∧ GxR.TabG H' tM)
      ⟨none, none, rfl, Gr.refl _ _, hTab⟩ (fun i σ H' hi ⟨y3, y4, e, g, t⟩ => SqL.of (g l _ nlT hl)) ?_ ?_⟩
    · rintro i z σ H1 H2 hi ⟨y3, y4, rfl, g1, t1⟩ ⟨Tp, u, v, rfl, nT, rfl, eu, ev⟩
      have g2 : Gr tM H (upd H1 Tp (.tup [u, v])) := g1.new nT
      have t2 : GxR.TabG (upd H1 Tp (.tup [u, v])) tM := by
        obtain ⟨ps, e, t⟩ := t1
        exact ⟨ps, (same_new nT) _ _ e, t⟩
      refine ⟨Tp, [u, v], rfl, SqT.of upd_same, rfl, u, [v], rfl, v, [], rfl, rfl, ?_⟩
      obtain ⟨m, em, hm⟩ := hM.get' ev
      have hgood := G.mv m (List.mem_of_getElem? em)
      have hm2 : MoveAt (upd H1 Tp (.tup [u, v])) v m := hm.same (tupK g2)
      refine ⟨.int (many : Int), rfl, v, rfl, (many : Int), v, m, rfl, hm2, t2, fun H3 g3 t3 => ?_⟩
      rw [isMv_good hgood]
      refine ⟨true, rfl, ?_⟩
      exact ⟨some u, some v, rfl, g2.trans g3, t3⟩
    · rintro σ H1 ⟨y3, y4, rfl, g1, t1⟩
      have hx1 := g1 x _ nxT hx
      have hl1 := g1 l _ nlT hl
      refine ⟨.int (many : Int), rfl, .ref x, rfl, x, C, dx, [], rfl, hx1, T.cl, T.nM, (by show 0 < 1000; decide), ?_⟩
      have hx2 : (upd H1 x (.ins C dx (putF "_many" (.int (many : Int)) []))) x = some (.ins C dx (putF "_many" (.int (many : Int)) [])) := upd_same
      have hl2 : (upd H1 x (.ins C dx (putF "_many" (.int (many : Int)) []))) l = some (.lst ws) := by
        rw [upd_ne (Ne.symm nxl)]
        exact hl1
      refine ⟨.ref l, rfl, l, ws, rfl, .inl (SqL.of hl2), fun a na => ?_⟩
      have nxa : x ≠ a := ne_of_none hx2 na
      refine ⟨.ref x, rfl, x, C, dx, _, rfl, (by rw [upd_ne nxa]; exact hx2), T.cl, T.nV, (by show 1 < 1000; decide), ?_⟩
      have naH1 : H1 a = none := by
        rw [upd_ne (Ne.symm nxa)] at na
        exact na
      have keepT : ∀ b o, b ≠ x → H1 b = some o → (upd (upd (upd H1 x (.ins C dx (putF "_many" (.int (many : Int)) []))) a (.lst ws)) x (.ins C dx (chF (many : Int) a))) b = some o := fun b o nb e => by
        rw [upd_ne nb, upd_ne (ne_of_none e naH1), upd_ne nb]
        exact e
      have ntx : ∀ xs, H1 x ≠ some (.tup xs) := fun xs z => by
        rw [hx1] at z
        cases z
      have naH : H a = none := by
        cases h : H a with
        | none => rfl
        | some o =>
          have nat : a ≠ tM := fun z => by
            obtain ⟨ps, e, _⟩ := t1
            rw [z, e] at naH1
            cases naH1
          rw [g1 a o nat h] at naH1
          cases naH1
      refine q _ ⟨dx, a, ws, upd_same, ?_, hM.same (fun b xs e => ?_), naH⟩ (fun b o nb nt e => keepT b o nb (g1 b o nt e)) ?_
      · rw [upd_ne (Ne.symm nxa)]
        exact upd_same
      · have e1 := tupK g1 b xs e
        refine keepT b _ (fun z => ?_) e1
        rw [z] at e1
        exact ntx xs e1
      · obtain ⟨ps, e, t⟩ := t1
        exact ⟨ps, keepT _ _ (Ne.symm nxT) e, t⟩
/-! ### places, told -/
theorem scPlaces : FnScope ["self"] ["self"] (defScope (inClass cChain 1)) := ⟨rfl, rfl, rfl, by decide +kernel, rfl, by decide +kernel, by decide +kernel⟩
theorem scTold : FnScope ["self"] ["self"] (defScope (inClass cChain 2)) := ⟨rfl, rfl, rfl, by decide +kernel, rfl, by decide +kernel, by decide +kernel⟩
def spPlaces (C : Addr) : Sp := fun vs H Q _ => ∃ (x : Addr) (many : Nat) (ms : List Mv), vs = [.ref x] ∧ ChainAt C H x many ms ∧ Q (.int (many : Int)) H
def spTold (C : Addr) : Sp := fun vs H Q _ => ∃ (x : Addr) (many : Nat) (ms : List Mv), vs = [.ref x] ∧ ChainAt C H x many ms ∧ ∀ (l : Addr) (ws : List V), H l = none → MovesAt (upd H l (.lst ws)) ws ms → Q (.ref l) (upd H l (.lst ws))
theorem ok_places {f : Addr} {fd : FuncData} {k : Nat} (F : Fun K "places" "Chain.places" (inClass cChain 1) f fd) (cl : Cls K C) (nM : NoAttr K C "_many") : FnOk P w K mg base CX0 (k + 1) f fd ["self"] (spPlaces C) := by
  refine F.ok scPlaces (fun vs H Q E h => ?_) (fun cdv A outer s H vs Q E hr h => ?_)
  · obtain ⟨x, many, ms, rfl, _⟩ := h
    rfl
  · obtain ⟨x, many, ms, rfl, ⟨dx, a, ws, h1, h2, h3⟩, q⟩ := h
    exact ⟨_, pss_one (ps_ret (pe_fld (pv 0) rfl)), .ref x, rfl, x, C, dx, _, _, rfl, h1, cl, nM, chF_many _ _, q⟩
theorem ok_told {f : Addr} {fd : FuncData} {k : Nat} (F : Fun K "told" "Chain.told" (inClass cChain 2) f fd) (cl : Cls K C) (nV : NoAttr K C "_moves") (mL : mg "list" = none) : FnOk P w K mg base CX0 (k + 1) f fd ["self"] (spTold C) := by
  refine F.ok scTold (fun vs H Q E h => ?_) (fun cdv A outer s H vs Q E hr h => ?_)
  · obtain ⟨x, many, ms, rfl, _⟩ := h
    rfl
  · obtain ⟨x, many, ms, rfl, ⟨dx, a, ws, h1, h2, h3⟩, q⟩ := h
    exact ⟨_, pss_one (ps_ret (pe_callTy call_list_of (by rfl) mL (by decide +kernel) (pa_cons (pe_fld (pv 0) rfl) pa_nil))), .ref x, rfl, x, C, dx, _, _, rfl, h1, cl, nV, chF_moves _ _, a, ws, rfl, .inl (SqL.of h2), fun l nl => q l ws nl (h3.same (Same.tups (same_new nl)))⟩
/-! ### _law_made -/
theorem scMade : FnScope ["_law_told"] ["_law_told"] (defScope sMade) := ⟨rfl, rfl, rfl, by decide +kernel, rfl, by decide +kernel, by decide +kernel⟩
def spMade (C T : Addr) : Sp := fun vs H Q _ => ∃ (t m : Addr) (many : Nat) (ws : List V) (ms : List Mv), vs = [.ref t] ∧ ToldAt H t m many ws ms ∧ Good many ms ∧ GxR.TabG H T ∧ ∀ H' x, ChainAt C H' x many ms → H x = none → Gr T H H' → GxR.TabG H' T → Q (.ref x) H'
theorem ok_made {f : Addr} {fd : FuncData} (F : Fun K "_law_made" "_law_made" sMade f fd) (T : ChTxt K mg fM cM tM fdM C fI fdI) (TB : GxR.TabB base mg cM tM) : FnOk P w K mg base CX0 4 f fd ["_law_told"] (spMade C tM) := by
  have GI : FnOk P w K mg base CX0 2 fI fdI ["self", "many", "moves"] (spInitG C tM) := ok_initG T TB
  refine F.ok scMade (fun vs H Q E h => ?_) (fun cdv A outer s H vs Q E hr h => ?_)
  · obtain ⟨t, m, many, ws, ms, rfl, _⟩ := h
    rfl
  · obtain ⟨t, m, many, ws, ms, rfl, ⟨h1, h2, h3⟩, G, ⟨ps, hT, htr⟩, q⟩ := h
    refine ⟨_, pss_one (ps_ret (pe_make T.mC GI hr (by rfl) T.gC T.bI .nil pass0 (pa_cons (pe_ix ix_tup (pv 0) pe_int (fun _ _ => rfl)) (pa_cons (pe_callTy call_list_of (by rfl) T.mL (by decide +kernel) (pa_cons (pe_ix ix_tup (pv 0) pe_int (fun _ _ => rfl)) pa_nil)) pa_nil)))), ?_⟩
    refine ⟨.ref t, rfl, t, _, 0, _, rfl, rfl, SqT.of h1, atI_nat (j := 0) rfl, .ref t, rfl, t, _, 1, _, rfl, rfl, SqT.of h1, atI_nat (j := 1) rfl, m, ws, rfl, .inl (SqL.of h2), fun l nl x dx nx ndx nxd => ?_⟩
    have s1 : Same H (upd H l (.lst ws)) := same_new nl
    have s2 : Same (upd H l (.lst ws)) (upd (upd H l (.lst ws)) dx (.own x)) := same_new ndx
    have nx' : (upd (upd H l (.lst ws)) dx (.own x)) x = none := by
      rw [upd_ne (Ne.symm nxd)]
      exact nx
    have s3 := same_new (o := .ins C dx []) nx'
    have s := (s1.trans s2).trans s3
    refine ⟨x, dx, l, many, ws, ms, rfl, upd_same, (s2.trans s3) _ _ upd_same, h3.same (Same.tups s), G, ⟨ps, s _ _ hT, htr⟩, fun H' hc g t' => ⟨rfl, ?_⟩⟩
    exact q H' x hc.at (s1.free nx) (fun b o nb e => g b o (ne_of_none (s1 _ _ e) nx) nb (s _ _ e)) t'
end
/-- a def of the module, named -/
structure Df (K : PySem.W.Frag) (mg : Str → Option Value) (x : Str) (st : Stmt) (ps : List Str) (f : Addr) (fd : FuncData) : Prop where
  F : Fun K x x st f fd
  b : Binds K fd ps []
  g : mg x = some (.ref f)
def spLaw (K : PySem.W.Frag) (T : Addr) : Sp := fun vs H Q _ => ∃ (a : Addr) (ns : List Int), vs = [.ref a] ∧ SqL K H a (ns.map V.int) ∧ ns.length ≤ 63 ∧ GxR.TabG H T ∧ ∀ H', Q (.bl true) H'
theorem Same.put {H H1 : Hp} {p : Addr} {o : HO} (s : Same H H1) (n : H p = none) : Same H (upd H1 p o) := fun b u e => by
  rw [upd_ne (ne_of_none e n)]
  exact s b u e
theorem ToldAt.same {H H' : Hp} {t m : Addr} {many : Nat} {ws : List V} {ms : List Mv} (s : Same H H') (h : ToldAt H t m many ws ms) : ToldAt H' t m many ws ms := ⟨s _ _ h.1, s _ _ h.2.1, h.2.2.same (Same.tups s)⟩
theorem ToldAt.gr {K : PySem.W.Frag} {d l : Addr} {ns : List Int} {H H' : Hp} {t m : Addr} {many : Nat} {ws : List V} {ms : List Mv} (hd : Dc K l ns H d) (g : Gr d H H') (h : ToldAt H t m many ws ms) : ToldAt H' t m many ws ms :=
  ⟨g.tups hd _ _ h.1, g _ _ (hd.ne_of h.2.1 (moves_no_dl h.2.2)) h.2.1, h.2.2.same (g.tups hd)⟩
/-- a table stands while the dice turns -/
theorem tab_gr {K : PySem.W.Frag} {d l : Addr} {ns : List Int} {H H' : Hp} {T : Addr} (hd : Dc K l ns H d) (g : Gr d H H') (h : GxR.TabG H T) : GxR.TabG H' T := by
  obtain ⟨ps, e, t⟩ := h
  exact ⟨ps, g _ _ (hd.ne_of e fun _ _ _ _ z => nomatch z) e, t⟩
theorem tab_same {H H' : Hp} {T : Addr} (s : Same H H') (h : GxR.TabG H T) : GxR.TabG H' T := by
  obtain ⟨ps, e, t⟩ := h
  exact ⟨ps, s _ _ e, t⟩
/-- what is no table stands while the table grows -/
theorem Gr.tab {T p : Addr} {H H' : Hp} {o : HO} (hT : GxR.TabG H T) (g : Gr T H H') (n : ∀ qs, o ≠ .tbl qs) (h : H p = some o) : H' p = some o := g p o (fun z => by
  obtain ⟨ps, e, _⟩ := hT
  rw [z, e] at h
  exact n ps (Option.some.inj h).symm) h
theorem ToldAt.tab {T t m : Addr} {H H' : Hp} {many : Nat} {ws : List V} {ms : List Mv} (hT : GxR.TabG H T) (g : Gr T H H') (h : ToldAt H t m many ws ms) : ToldAt H' t m many ws ms :=
  ⟨g.tab hT (fun _ z => nomatch z) h.1, g.tab hT (fun _ z => nomatch z) h.2.1, h.2.2.same fun _ _ e => g.tab hT (fun _ z => nomatch z) e⟩
theorem Dc.tabT {K : PySem.W.Frag} {T d l : Addr} {ns : List Int} {H H' : Hp} (hT : GxR.TabG H T) (g : Gr T H H') (h : Dc K l ns H d) : Dc K l ns H' d := by
  obtain ⟨s0, k, big, h1, h2, h3⟩ := h
  refine ⟨s0, k, big, g.tab hT (fun _ z => nomatch z) h1, ?_, h3⟩
  rcases h2 with (h | ⟨o, h⟩) | h
  · exact .inl (.inl (g.tab hT (fun _ z => nomatch z) h))
  · exact .inl (.inr ⟨o, g.tab hT (fun _ z => nomatch z) h⟩)
  · exact .inr h
theorem Gr.put {d : Addr} {H H1 : Hp} {p : Addr} {o : HO} (a : Gr d H H1) (h : H p = none) : Gr d H (upd H1 p o) := fun b u n e => by
  rw [upd_ne (ne_of_none e h)]
  exact a b u n e
theorem Gr.free {d : Addr} {H H1 : Hp} {p : Addr} (a : Gr d H H1) (n : H1 p = none) (h : p ≠ d) : H p = none := by
  cases e : H p with
  | none => rfl
  | some o =>
    rw [a p o h e] at n
    cases n
theorem paired_drop {α β : Type} {F : α → β → Prop} : ∀ {l₁ : List α} {l₂ : List β} (n : Nat), Paired F l₁ l₂ → Paired F (l₁.drop n) (l₂.drop n)
  | _, _, 0, h => h
  | _, _, _ + 1, .nil => .nil
  | _, _, n + 1, .cons _ t => paired_drop n t
theorem paired_take {α β : Type} {F : α → β → Prop} : ∀ {l₁ : List α} {l₂ : List β} (n : Nat), Paired F l₁ l₂ → Paired F (l₁.take n) (l₂.take n)
  | _, _, 0, _ => .nil
  | _, _, _ + 1, .nil => .nil
  | _, _, n + 1, .cons h t => .cons h (paired_take n t)
theorem paired_app {α β : Type} {F : α → β → Prop} : ∀ {l₁ : List α} {l₂ : List β} {k₁ : List α} {k₂ : List β}, Paired F l₁ l₂ → Paired F k₁ k₂ → Paired F (l₁ ++ k₁) (l₂ ++ k₂)
  | _, _, _, _, .nil, h => h
  | _, _, _, _, .cons q t, h => .cons q (paired_app t h)
theorem paired_rep {α β : Type} {F : α → β → Prop} {a : α} {b : β} (h : F a b) : ∀ n, Paired F (List.replicate n a) (List.replicate n b)
  | 0 => .nil
  | n + 1 => .cons h (paired_rep h n)
theorem filter_snoc {l : List Int} {i : Nat} {x : Int} {F : Int → Bool} (h : l[i]? = some x) : (l.take (i + 1)).filter F = (l.take i).filter F ++ (if F x = true then [x] else []) := by
  rw [List.take_add_one, h, List.filter_append]
  cases hk : F x with
  | true => simp [hk]
  | false => simp [hk]
theorem paired_get {α β : Type} {F : α → β → Prop} : ∀ {l₁ : List α} {l₂ : List β} {i : Nat} {b : β}, Paired F l₁ l₂ → l₂[i]? = some b → ∃ a, l₁[i]? = some a ∧ F a b
  | _, _, _, _, .nil, e => by simp at e
  | _, _, 0, _, .cons h _, e => by
    simp at e
    subst e
    exact ⟨_, rfl, h⟩
  | _, _, i + 1, b, .cons _ t, e => by
    obtain ⟨a, h1, h2⟩ := paired_get (i := i) (b := b) t (by simpa using e)
    exact ⟨a, by simpa using h1, h2⟩
theorem paired_end {α β : Type} {F : α → β → Prop} {a : α} {b : β} (h : F a b) : ∀ {l₁ : List α} {l₂ : List β}, Paired F l₁ l₂ → Paired F (l₁ ++ [a]) (l₂ ++ [b])
  | _, _, .nil => .cons h .nil
  | _, _, .cons q t => .cons q (paired_end h t)
theorem take_snoc {α : Type} {l : List α} {i : Nat} {x : α} (h : l[i]? = some x) : l.take (i + 1) = l.take i ++ [x] := by
  rw [List.take_add_one, h]
  rfl
theorem small1k {n : Nat} (h : n ≤ 1001) : n < sizeLine := Nat.lt_of_le_of_lt h (by decide)
section
variable {P : Program} {w : World} {K : PySem.W.Frag} {mg : Str → Option Value} {base : Heap} {C : Addr}
/-- range(n) as a value -/
theorem cr_range1 {X : Cx} : CallR X (.type "range") (fun vs H Q => ∃ n, vs = [V.int n] ∧ ∀ p, H p = none → Q (.ref p) (upd H p (.rng 0 n))) := by
  intro pins s σ H vs us Q I r ⟨n, ev, q⟩
  subst ev
  cases r with
  | cons rn rr =>
    cases rr
    obtain ⟨t, rfl⟩ := rn
    refine call_range_1 ⟨.ref s.heap.objs.size, upd H s.heap.objs.size (.rng 0 n), I.laid (t' := s.toks + 1 + 1) (fun b o e => Heap.get?_push_of_some _ e) (Nat.le_refl _) ?_, rfl, q _ (I.hok.fresh (Nat.le_refl _))⟩
    exact ⟨s.toks, t, s.toks + 1, Heap.get?_push_size _ rfl⟩
/-! ### steps_of -/
structure ChM (K : PySem.W.Frag) (C fP fT : Addr) (fdP fdT : FuncData) : Prop where
  FP : Fun K "places" "Chain.places" (inClass cChain 1) fP fdP
  bP : Binds K fdP ["self"] []
  hP : Meth K C "places" fP
  FT : Fun K "told" "Chain.told" (inClass cChain 2) fT fdT
  bT : Binds K fdT ["self"] []
  hT : Meth K C "told" fT
  cl : Cls K C
  nM : NoAttr K C "_many"
  nV : NoAttr K C "_moves"
theorem ch_no {many : Int} {a : Addr} : (chF many a).lookup ("places" : Str) = none := chF_no _ _ (by decide +kernel) (by decide +kernel)
theorem ch_noT {many : Int} {a : Addr} : (chF many a).lookup ("told" : Str) = none := chF_no _ _ (by decide +kernel) (by decide +kernel)
theorem rg_ends (n : Nat) : rgV 0 (n : Int) = ((List.range n).map fun (i : Nat) => (i : Int)).map V.int := by
  unfold rgV
  rw [List.map_map]
  have e : ((n : Int) - 0).toNat = n := by omega
  rw [e]
  refine List.map_congr_left fun i _ => ?_
  show V.int (0 + (i : Int)) = V.int (i : Int)
  rw [Int.zero_add]
end
/-! ### data that are compared -/
def Sh (n : Nat) (d : PyData) : Prop := d.canLay0 = true ∧ d.depth ≤ n
theorem canAll : ∀ {ds : List PyData}, (∀ d ∈ ds, d.canLay0 = true) → PyData.canLayAll0 ds = true
  | [], _ => rfl
  | d :: ds, h => by
    show (d.canLay0 && PyData.canLayAll0 ds) = true
    rw [h d List.mem_cons_self, canAll fun z hz => h z (List.mem_cons_of_mem _ hz)]
    rfl
theorem depAll {n : Nat} : ∀ {ds : List PyData}, (∀ d ∈ ds, d.depth ≤ n) → PyData.depthAll ds ≤ n
  | [], _ => Nat.zero_le _
  | d :: ds, h => by
    show max d.depth (PyData.depthAll ds) ≤ n
    exact Nat.max_le.mpr ⟨h d List.mem_cons_self, depAll fun z hz => h z (List.mem_cons_of_mem _ hz)⟩
theorem Sh.int {n : Nat} (i : Int) : Sh n (.int i) := ⟨rfl, Nat.zero_le _⟩
theorem Sh.bool {n : Nat} (b : Bool) : Sh n (.bool b) := ⟨rfl, Nat.zero_le _⟩
theorem Sh.none {n : Nat} : Sh n .none := ⟨rfl, Nat.zero_le _⟩
theorem Sh.tuple {n : Nat} {ds : List PyData} (h : ∀ d ∈ ds, Sh n d) : Sh (n + 1) (.tuple ds) := ⟨canAll fun d hd => (h d hd).1, Nat.succ_le_succ (depAll fun d hd => (h d hd).2)⟩
theorem Sh.list {n : Nat} {ds : List PyData} (h : ∀ d ∈ ds, Sh n d) : Sh (n + 1) (.list ds) := ⟨canAll fun d hd => (h d hd).1, Nat.succ_le_succ (depAll fun d hd => (h d hd).2)⟩
theorem Sh.mono {n m : Nat} {d : PyData} (h : Sh n d) (le : n ≤ m) : Sh m d := ⟨h.1, Nat.le_trans h.2 le⟩
theorem Sh.shaped {n : Nat} {d : PyData} (h : Sh n d) (le : n ≤ 64) : SeqAt.shaped d = true := by
  unfold SeqAt.shaped
  rw [h.1, decide_eq_true (Nat.le_trans h.2 le)]
  rfl
theorem Sh.refl {n : Nat} {d : PyData} (h : Sh n d) : PyData.eqv d d = true := SeqAt.eqv_refl d h.1
theorem Sh.ints {n : Nat} (ns : List Int) : ∀ d ∈ ns.map PyData.int, Sh n d := fun d hd => by
  obtain ⟨i, _, rfl⟩ := List.mem_map.mp hd
  exact .int i
def mvD (m : Mv) : PyData := .tuple [.int m.1, .tuple (m.2.map PyData.int)]
theorem Sh.mv (m : Mv) : Sh 2 (mvD m) := Sh.tuple fun d hd => by
  rcases List.mem_cons.mp hd with rfl | hd
  · exact .int _
  rcases List.mem_cons.mp hd with rfl | hd
  · exact Sh.tuple (Sh.ints _)
  · cases hd
theorem Sh.mvs (ms : List Mv) : Sh 3 (.list (ms.map mvD)) := Sh.list fun d hd => by
  obtain ⟨m, _, rfl⟩ := List.mem_map.mp hd
  exact .mv m
theorem dp_ints (K : PySem.W.Frag) (H : Hp) : ∀ ns : List Int, DpAll K H (ns.map V.int) (ns.map PyData.int)
  | [] => .nil
  | n :: ns => .cons (.int n) (dp_ints K H ns)
theorem dp_lst {K : PySem.W.Frag} {H : Hp} {a : Addr} {ns : List Int} (h : H a = some (.lst (ns.map V.int))) : Dp K H (.ref a) (.list (ns.map PyData.int)) := .lst (SqL.of h) (dp_ints K H ns)
theorem dp_tup {K : PySem.W.Frag} {H : Hp} {a : Addr} {ns : List Int} (h : H a = some (.tup (ns.map V.int))) : Dp K H (.ref a) (.tuple (ns.map PyData.int)) := .tup (SqT.of h) (dp_ints K H ns)
theorem dp_mv {K : PySem.W.Frag} {H : Hp} {v : V} {m : Mv} (h : MoveAt H v m) : Dp K H v (mvD m) := by
  obtain ⟨a, q, rfl, ha, hq⟩ := h
  exact .tup (SqT.of ha) (.cons (.int _) (.cons (dp_tup hq) .nil))
theorem dp_mvAll {K : PySem.W.Frag} {H : Hp} : ∀ {ws : List V} {ms : List Mv}, MovesAt H ws ms → DpAll K H ws (ms.map mvD)
  | _, _, .nil => .nil
  | _, _, .cons h t => .cons (dp_mv h) (dp_mvAll t)
theorem dp_mvs {K : PySem.W.Frag} {H : Hp} {a : Addr} {ws : List V} {ms : List Mv} (h : H a = some (.lst ws)) (hM : MovesAt H ws ms) : Dp K H (.ref a) (.list (ms.map mvD)) := .lst (SqL.of h) (dp_mvAll hM)
theorem hu64 {A : Around} {k : Nat} (hr : Room k A) : A.units + 64 < cLine := by
  have := hr.un
  omega
/-- d != d is False, d == d is True -/
theorem ne_same {K : PySem.W.Frag} {x y : V} {d : PyData} {n : Nat} {H : Hp} {Q : VK} (hx : Dp K H x d) (hy : Dp K H y d) (h : Sh n d) (le : n ≤ 64) (q : Q (.bl false) H) : rNeD K x y H Q := by
  refine ⟨d, d, hx, hy, h.shaped le, h.shaped le, ?_⟩
  rw [h.refl]
  exact q
theorem eq_same {K : PySem.W.Frag} {x y : V} {d : PyData} {n : Nat} {H : Hp} {Q : VK} (hx : Dp K H x d) (hy : Dp K H y d) (h : Sh n d) (le : n ≤ 64) (q : Q (.bl true) H) : rEqD K x y H Q := by
  refine ⟨d, d, hx, hy, h.shaped le, h.shaped le, ?_⟩
  rw [h.refl]
  exact q
theorem Same.seqt {K : PySem.W.Frag} {H H' : Hp} {a : Addr} {xs : List V} (s : Same H H') (h : SqT K H a xs) : SqT K H' a xs := by
  rcases h with (h | ⟨o, h⟩) | h
  · exact .inl (.inl (s _ _ h))
  · exact .inl (.inr ⟨o, s _ _ h⟩)
  · exact .inr h
/-! ### t + u, t[i:j] of tracked tuples, whatever they are -/
theorem catA_of {K : PySem.W.Frag} {H : Hp} {a b : Addr} {xs ys : List V} {Q : VK} (ha : H a = some (.tup xs)) (hb : H b = some (.tup ys)) (hz : xs.length + ys.length ≤ sizeLine) (h : ∀ p H', Same H H' → H' p = some (.tup (xs ++ ys)) → Q (.ref p) H') : rCatA K (.ref a) (.ref b) H Q := by
  refine ⟨a, b, xs, ys, rfl, rfl, SqT.of ha, SqT.of hb, hz, fun e => ?_, fun _ e => ?_, fun _ _ p np => h p _ (same_new np) upd_same⟩
  · subst e
    exact h b H (Same.refl _) hb
  · subst e
    exact h a H (Same.refl _) (by rw [List.append_nil]; exact ha)
theorem slA_of {K : PySem.W.Frag} {H : Hp} {a : Addr} {xs : List V} {lo hi : Option Int} {Q : VK} (ha : H a = some (.tup xs)) (h : ∀ p H', Same H H' → H' p = some (.tup (cutV xs lo hi)) → Q (.ref p) H') : rSlA K (.ref a) lo hi H Q := by
  refine ⟨a, xs, rfl, SqT.of ha, fun e => ?_, fun _ p np => h p _ (same_new np) upd_same⟩
  refine h a H (Same.refl _) ?_
  unfold cutV
  rw [e.1, e.2, List.drop_zero, Nat.sub_zero, List.take_length]
  exact ha
theorem slA_no {K : PySem.W.Frag} {σ : L2.St} {H : Hp} {a : Addr} {xs : List V} {lo : Option Int} {Q : VK} (ha : H a = some (.tup xs)) (h : ∀ p H', Same H H' → H' p = some (.tup (cutV xs lo none)) → Q (.ref p) H') : tNoPart σ H fun u H3 => rSlA K (.ref a) lo u H3 Q := slA_of ha h
theorem cut_from (xs : List V) (k : Nat) (hk : k ≤ xs.length) : cutV xs (some (k : Int)) none = xs.drop k := by
  unfold cutV
  rw [HT.sIx_nat, HT.sIx_none, Nat.min_eq_left hk]
  exact List.take_of_length_le (by rw [List.length_drop]; exact Nat.le_refl _)
theorem cut_to (xs : List V) (k : Nat) (hk : k ≤ xs.length) : cutV xs none (some (k : Int)) = xs.take k := by
  unfold cutV
  rw [HT.sIx_nat, HT.sIx_none, Nat.min_eq_left hk, Nat.sub_zero, List.drop_zero]
theorem le1k {n : Nat} (h : n ≤ 1000) : n ≤ sizeLine := Nat.le_trans h (by decide)
theorem lt1k {n : Nat} (h : n ≤ 1000) : n < sizeLine := Nat.lt_of_le_of_lt h (by decide)
def goK (f : List Int) (p : Int) : Int := f.getD p.toNat 0
theorem rise_same : ∀ {xs ys : List Int}, xs.Pairwise (· < ·) → ys.Pairwise (· < ·) → (∀ k, k ∈ xs ↔ k ∈ ys) → xs = ys
  | [], [], _, _, _ => rfl
  | [], y :: ys, _, _, h => by have := (h y).mpr List.mem_cons_self; simp at this
  | x :: xs, [], _, _, h => by have := (h x).mp List.mem_cons_self; simp at this
  | x :: xs, y :: ys, hx, hy, h => by
    obtain ⟨x1, x2⟩ := List.pairwise_cons.mp hx
    obtain ⟨y1, y2⟩ := List.pairwise_cons.mp hy
    have e : x = y := by
      rcases List.mem_cons.mp ((h x).mp List.mem_cons_self) with a | a
      · exact a
      · rcases List.mem_cons.mp ((h y).mpr List.mem_cons_self) with b | b
        · exact b.symm
        · have := y1 x a
          have := x1 y b
          omega
    subst e
    rw [rise_same x2 y2 fun k => ⟨fun hk => ?_, fun hk => ?_⟩]
    · rcases List.mem_cons.mp ((h k).mp (List.mem_cons_of_mem _ hk)) with a | a
      · have := x1 k hk
        omega
      · exact a
    · rcases List.mem_cons.mp ((h k).mpr (List.mem_cons_of_mem _ hk)) with a | a
      · have := y1 k hk
        omega
      · exact a
/-! ### sorted(set(a list of ints)): a rule of our own -/
section
variable {prog : Program} {w : World} {A : Around} {E : Value → Shared → Prop} {s : Shared}
/-- a set as it is when it has just been made -/
def bareSet (w : World) : Obj :=
  { cls := .type "set", dict := none, data := .set #[] 0 (.fresh 0 0 (!w.params.followText "set-order")) }
set_option maxHeartbeats 3200000 in
open PySem PyProof.Rows in
/-- the set at S takes what a list gives -/
theorem set_takes {l : Addr} {its : Array Value} {ns : List Int} {R : Result → Shared → Prop} (S : Addr) (hh : A.handled = none) (hS : s.heap.get? S = some (bareSet w)) (hl : s.heap.IsList l its) (neq : l ≠ S) (hi : IntsAre its.toList ns) (small : ns.length + 1 < scanBound)
    (hR : ∀ (g : Heap) (tk c : Nat), SetR w g S (fun j => decide (j ∈ ns)) c → c ≤ ns.length → (∀ b o, b ≠ S → s.heap.get? b = some o → g.get? b = some o) → R (.ok (.ret .none)) { s with heap := g, toks := tk }) :
    wpAny (model prog w) A.in1 (Builtin.«set.__init__» ⟨[.ref S, .ref l], []⟩)
      (fun fin s' => match fin with | .done f => R (.ok f) s' | .again c' => c'.quiet = true ∧ codeAny (model prog w) A c' R s') (fun e s' => R (.error e) s') s := by
  have sz : its.size = ns.length := by
    rw [← Array.length_toList]
    exact IntsAre.length hi
  have ltl : l < s.heap.objs.size := let ⟨_, g, _⟩ := hl; Heap.lt_size g
  have ltS : S < s.heap.objs.size := Heap.lt_size hS
  have hl' := hl
  obtain ⟨⟨k1, k2, k3, k4⟩, g, k5, k6, k7⟩ := hl'
  simp only at k5 k7
  subst k5
  subst k7
  have tS := F.sub_list_set
  have tF := F.sub_list_frozenset
  have tD : (Value.type "list" == Value.type "dict") = false := by decide
  have hi3 : A.in1.in1.handled = none := by
    simp [hh]
  unfold Builtin.«set.__init__» noKeywords
  unfold Builtin.Frozenset.updateFrom
  generalize hq : pyIter = q
  wp_walk
  subst hq
  refine wpAny_pyIter_list hl ?_
  refine wpAny_bind (wpAny_runValue ?_)
  generalize hI : s.heap.objs.size = I at *
  have offS : S ∉ [I, l] := by
    intro h
    rcases List.mem_cons.mp h with e | e
    · exact absurd e (Nat.ne_of_lt ltS)
    · exact neq (List.mem_singleton.mp e).symm
  have offL : l ≠ I := Nat.ne_of_lt ltl
  have vals : ∀ (i : Nat) (v : Value), its[i]? = some v → ∃ k t, ns[i]? = some k ∧ v = .int k t := by
    intro i v hv
    have lt : i < ns.length := by
      rw [← sz]
      exact (Array.getElem?_eq_some_iff.mp hv).1
    obtain ⟨t, e⟩ := IntsAre.int_at hi i v (by rw [Array.getElem?_toList]; exact hv)
    refine ⟨ns[i], t, List.getElem?_eq_getElem lt, ?_⟩
    rw [e, List.getD_eq_getElem?_getD, List.getElem?_eq_getElem lt]
    rfl
  have W := (Walks.list (prog := prog) (w := w) (A := A.in1.in1) hi3 I l offL its).toS
  have fresh1 : ∀ b o, s.heap.get? b = some o → (s.heap.push { cls := .type "list_iterator", data := .fields #[.ref l, .int 0 0] }).get? b = some o := fun b o e => Heap.get?_push_of_some _ e
  have new1 : (s.heap.push { cls := .type "list_iterator", data := .fields #[.ref l, .int 0 0] }).get? I = some { cls := .type "list_iterator", data := .fields #[.ref l, .int 0 0] } := by
    rw [← hI]
    exact Heap.get?_push_size _ rfl
  refine set_update_ints W S offS ns sz small vals its.size 0 _ (Nat.sub_zero _) (Nat.zero_le _) ⟨⟨_, new1, rfl, rfl⟩, ⟨_, fresh1 _ _ g, rfl, _, rfl⟩⟩ ⟨0, Nat.le_refl _, setR_new_at (fresh1 _ _ hS)⟩ fun s' c mv hc hs => ?_
  refine wpAny_pure (wpAny_pure ?_)
  rw [Moved.eq_with mv]
  refine hR s'.heap s'.toks c hs (by rw [← sz]; exact hc) fun b o nb e => mv.heap b o (fun z => ?_) (fresh1 b o e)
  rcases List.mem_cons.mp z with z | z
  · exact nb z
  · have : b < I := by
      rw [← hI]
      exact Heap.lt_size e
    exact absurd (List.mem_singleton.mp z) (Nat.ne_of_lt this)
/-- callType_codes, where the check of __init__'s arguments is proved by itself -/
theorem callType_checked {T nid iid : String} {Bi : Builtin} {args : List Value} {Q Q₁ : Value → Shared → Prop} (ft : TypeCalled T nid iid) (ct : checkTypeCall T ⟨args, []⟩ = pure ()) (en : PySem.entryFor PySem.table iid = some Bi)
    (mk : codeAny (model prog w) A.in1 (.call (.builtin nid) ⟨.type T :: args, []⟩) (wants Q₁ E) s)
    (nx : ∀ obj t, Q₁ obj t → t.TypeIs obj T ∧ (∀ (M : Model) (B : Around) (F : Value → Shared → Prop) (Z : Unit → Shared → Prop), Z () t → wpAny M B (checkBuiltinCall iid ⟨obj :: args, []⟩) Z F t) ∧
      wpAny (model prog w) A.in1.in1 (Bi ⟨obj :: args, []⟩)
        (fun fin u => match fin with | .done f => wants (fun r v => r = .none ∧ Q obj v) E (.ok f) u | .again c => c.quiet = true ∧ codeAny (model prog w) A.in1 c (wants (fun r v => r = .none ∧ Q obj v) E) u)
        (fun e u => wants (fun r v => r = .none ∧ Q obj v) E (.error e) u) t) :
    wpAny (model prog w) A (call (.type T) args) Q E s := by
  have ⟨c0, t0, mr⟩ := ft.mro
  have md := ft.made
  have sb := ft.sub
  refine wpAny_call (codeAny_of_tree ?_)
  show wpAny _ _ (callAny (.type T) _) _ _ _
  refine wpAny_pure ⟨PySem.Code.quiet_builtin _ (by decide +kernel), codeAny_builtin F.entry_type_call ?_⟩
  rw [Around.under_plain (weight_type_call_type T args []) rfl]
  have n1 := ft.notType
  have n2 := ft.canCreate
  repeat (any_goals (first | assumption | wp_step))
  refine codeAny_mono mk fun r t ht => ?_
  match r, ht with
  | .error e, ht => exact ht
  | .ok (.ret obj), ht =>
    obtain ⟨hT, ck, run⟩ := nx _ _ ht
    have li := ft.init.lookup
    have bi := ft.init.bind obj
    repeat (any_goals (first | assumption | wp_step))
    refine codeAny_mono (codeAny_call_builtin ft.init.plain en (ck _ _ _ _ run)) fun r2 t2 h2 => ?_
    match r2, h2 with
    | .error e, h2 => exact h2
    | .ok (.ret r), h2 =>
      obtain ⟨rfl, hq⟩ := h2
      repeat (any_goals (first | assumption | wp_step))
open PyProof.Rows in
theorem call_setL {l : Addr} {its : Array Value} (ns : List Int) {Q : Value → Shared → Prop} (hh : A.handled = none) (hl : s.heap.IsList l its) (hi : IntsAre its.toList ns) (small : ns.length + 1 < scanBound)
    (h : ∀ (g : Heap) (tk c : Nat), SetR w g s.heap.objs.size (fun j => decide (j ∈ ns)) c → c ≤ ns.length → (∀ b o, s.heap.get? b = some o → g.get? b = some o) → Q (.ref s.heap.objs.size) { s with heap := g, toks := tk }) :
    wpAny (model prog w) A (call (.type "set") [.ref l]) Q E s := by
  have ltl : l < s.heap.objs.size := let ⟨_, g, _⟩ := hl; Heap.lt_size g
  refine callType_checked (Q₁ := fun obj t => obj = .ref s.heap.objs.size ∧ t = { s with heap := s.heap.push (bareSet w) }) F.called_set (F.typeCall_set_1 _) F.entry_set_init (code_set_led1 _ ⟨rfl, rfl⟩) fun obj t ht => ?_
  obtain ⟨rfl, rfl⟩ := ht
  have hS : (s.heap.push (bareSet w)).get? s.heap.objs.size = some (bareSet w) := Heap.get?_push_size _ rfl
  refine ⟨⟨_, hS, rfl⟩, fun M B F Z hz => check_set_init_1 ⟨_, hS, rfl⟩ hz, ?_⟩
  refine set_takes (A := A.in1) (s := { s with heap := s.heap.push (bareSet w) }) s.heap.objs.size (by simp [hh]) hS (hl.push _) (Nat.ne_of_lt ltl) hi small fun g tk c hs hc kp => ⟨rfl, h g tk c hs hc fun b o e => kp b o (Nat.ne_of_lt (Heap.lt_size e)) (Heap.get?_push_of_some _ e)⟩
/-- sorted(set(e)), e a list of ints: a new list that rises -/
def tSSet (K : PySem.W.Frag) (ta : TE) : TE := fun σ H Q => ta σ H fun x H1 => ∃ (l : Addr) (ns : List Int), x = V.ref l ∧ SqL K H1 l (ns.map V.int) ∧ ns.length < 64 ∧
  ∀ (p : Addr) (xs : List Int) (c : Nat), xs.Pairwise (· < ·) → (∀ k : Int, k ∈ xs ↔ k ∈ ns) → xs.length = c → c ≤ ns.length → H1 p = none → Q (.ref p) (upd H1 p (.lst (xs.map V.int)))
open RZ in
theorem pe_sset {X : Cx} {a : Expr} {ta : TE} {p p2 q pos : Pos} (hg : Gl X "sorted") (hm : X.mg "sorted" = none) (hg2 : Gl X "set") (hm2 : X.mg "set" = none) (ha : PE X a ta) (hc : X.calm = true := by rfl)
    (na : starEach [a] X.env = (false, eval a X.env) :: starEach [] X.env := by rfl) (nb : starEach [.Call (.Name "set" p2) [a] [] q] X.env = (false, eval (.Call (.Name "set" p2) [a] [] q) X.env) :: starEach [] X.env := by rfl) :
    PE X (.Call (.Name "sorted" p) [.Call (.Name "set" p2) [a] [] q] [] pos) (tSSet X.K ta) := by
  refine ⟨fun pins s σ H Q I h => Call_ (ld_blt I hg hm PyProof.Rows.boot_sorted (PyProof.Rows.callWith_builtin1 (PyProof.Rows.args_cons (Call_ (ld_blt I hg2 hm2 PyProof.Rows.boot_set
    (PyProof.Rows.callWith_type1 (PyProof.Rows.args_cons (thn (ha.run pins s σ H _ I h) fun v s1 hq => PyProof.Rows.args_nil ?_) na) na rfl))) nb) nb rfl))⟩
  obtain ⟨x, H1, I1, r1, l, ns, ex, hq, hl, q1⟩ := hq
  subst ex
  have e0 : v = Value.ref l := r1
  subst e0
  obtain ⟨its, r, pl, hz⟩ := I1.list hq
  have hit : PyProof.Rows.IntsAre its.toArray.toList ns := by simpa using intsAre_vals r
  refine call_setL ns (I1.ok.hd hc) pl.isList hit (by unfold scanBound; omega) fun g tk c hs hcn kp => PyProof.Rows.args_nil ?_
  have I2 : Inv X pins σ H1 { s1 with heap := g, toks := tk } := I1.kept kp
  refine sorted_set hs (I2.ok.hd hc) (by omega) fun s2 p out c2 xs k gs os hp hg' hix hsx hm' hl' => ?_
  have hn : H1 p = none := I2.hok.fresh hp
  have len : (xs.map V.int).length ≤ sizeLine := by
    rw [List.length_map, hl']
    exact Nat.le_of_lt (small1k (by omega))
  have J : Inv X pins σ (upd H1 p (.lst (xs.map V.int))) { s1 with heap := s2.heap, gens := s2.gens, drawn := s2.drawn, toks := s2.toks } :=
    Inv.call (s := { s1 with heap := g, toks := tk }) I2 (ch := []) (Un.laid k hp hn) (I2.hok.laid k hp ⟨len, out.toList, c2, vals_of_ints hix, hg'⟩) (by rw [gs]; exact I2.bare) (fun _ z => nomatch z)
  have e : s2 = { s1 with heap := s2.heap, gens := s2.gens, drawn := s2.drawn, toks := s2.toks } := by
    have o2 : s2.os = s1.os := os
    rw [← o2]
  rw [e]
  exact ⟨.ref p, _, J, rfl, q1 p xs c hsx (fun z => (hm' z).trans (by simp)) hl' hcn hn⟩
end
/-! ### a set comprehension of ints: a rule of our own -/
/-- what one turn with item v asks: the target, the tests, the element, and then the set D with it -/
def oneTurn (w : World) (D : Addr) (gt : TG) (tst : TT) (elm : TE) (gone : List Nat) (σ : L2.St) (v : V) (Ha : Hp) (nxt : Hp → Prop) : Prop :=
  gt v (wipe σ gone) Ha fun σb Hb => wipe σb gone = wipe σ gone ∧ tst σb Hb fun yes Hc =>
    if yes = true then elm σb Hc fun z Hd => ∃ (k : Int) (M : Int → Bool) (c : Nat), z = .int k ∧ Hd D = some (SetO w D M c) ∧ c + 1 < scanBound ∧
      nxt (upd Hd D (SetO w D (fun j => M j || decide (j = k)) (if M k = true then c else c + 1)))
    else nxt Hc
def tScI (w : World) (src : TI) (gt : TG) (tst : TT) (elm : TE) (gone : List Nat) : TE := fun σ H Q =>
  src σ H fun J Ha => ∀ D, Ha D = none → ∃ Z : Nat → Nat → Hp → Prop, (∃ m, Z 0 m (upd Ha D (SetO w D (fun _ => false) 0))) ∧
    ∀ i m Hb, Z i m Hb → (J.stop i Hb ∧ Q (.ref D) Hb) ∨
      (J.go i Hb ∧ ∃ nxt : Hp → Prop, (∀ Hc, nxt Hc → ∃ m', m' < m ∧ Z (i + 1) m' Hc) ∧ ∀ v Hc, J.yld i Hb v Hc → oneTurn w D gt tst elm gone σ v Hc nxt)
section
variable {X : Cx}
theorem pe_scI {elt tg iter : Expr} {ifs : List Expr} {scope : Scope} {own : List (PySem.Str × Nat)} {pos : Pos} {src : TI} {gt : TG} {tst : TT} {elm : TE}
    (calm : X.calm = true) (nd : X.N.Nodup) (hsrc : PI X tg iter src) (blk : BlkOk X.N X.env.scope scope own)
    (hgt : ∀ (s0 : Shared) (H0 : Hp) (B : Addr) (cls : List (PySem.Str × Addr)) (held : List Addr), PG (X.blk s0 H0 scope (compEnvC scope cls B X.env) held) tg gt)
    (htst : ∀ (s0 : Shared) (H0 : Hp) (B : Addr) (cls : List (PySem.Str × Addr)) (held : List Addr), PTs (X.blk s0 H0 scope (compEnvC scope cls B X.env) held) ifs tst)
    (helm : ∀ (s0 : Shared) (H0 : Hp) (B : Addr) (cls : List (PySem.Str × Addr)) (held : List Addr), PE (X.blk s0 H0 scope (compEnvC scope cls B X.env) held) elt elm)
    (fold : ∀ z, foldedSetIterable iter X.env z = pure z := by intro _; rfl) :
    PE X (.SetComp elt [⟨tg, iter, ifs, 0⟩] scope pos) (tScI X.w src gt tst elm (own.map (·.2))) := by
  constructor
  intro pins s σ H Q Iv want
  rw [PpSet.eval_SetComp]
  have caps : ∀ y ∈ scope.names, y.2 = .free → ∃ c, X.env.cells.lookup y.1 = some c := by
    intro y my fy
    cases blk.free y my fy with
    | inl k => exact Iv.ok.has _ (.inl k)
    | inr k => exact Iv.ok.has _ (.inr k)
  refine wpAny_comprehension_free (use := none) rfl fold (closure_ok caps) blk.kind (fun y my ey => by rw [blk.uniq y my, ey]) ?_
  refine thn (hsrc.run pins s σ H _ Iv want) fun u0 sA gotIt => thn gotIt fun u1 sB two => ?_
  obtain ⟨itr, held, turns, J, HB, eu, IB, TW, atZero, clear, rest⟩ := two
  subst eu
  refine PpSet.newSet_ok (newEnv_comp ?_)
  -- D is where the set will stand
  obtain ⟨D, eD⟩ : ∃ D, D = sB.heap.objs.size := ⟨_, rfl⟩
  rw [← eD]
  have freeD : HB D = none := IB.hok.fresh (by rw [eD]; exact Nat.le_refl _)
  obtain ⟨Z, ⟨mz, z0⟩, go1⟩ := rest D freeD
  obtain ⟨bare, ebare⟩ : ∃ bare : Obj, bare = { cls := .type "set", dict := none, data := .set #[] 0 (.fresh 0 0 (!X.w.params.followText "set-order")) } := ⟨_, rfl⟩
  rw [← ebare]
  obtain ⟨sC, eC⟩ : ∃ sC : Shared, sC = { sB with heap := sB.heap.push bare } := ⟨_, rfl⟩
  have hC : sC.heap = sB.heap.push bare := by rw [eC]
  have setNew : SetR X.w sC.heap D (fun _ => false) 0 := by
    rw [hC, eD]
    refine SetR.congr (setR_new_at (ns := []) ?_) (fun _ => rfl)
    rw [ebare]
    exact Heap.get?_push_size _ rfl
  have IC : Inv X pins σ (upd HB D (SetO X.w D (fun _ => false) 0)) sC := by
    rw [eC]
    refine IB.laid (t' := sB.toks) (fun b o e => Heap.get?_push_of_some _ e) (by rw [eD]; exact Nat.le_refl _) ?_
    have e1 : ({ sB with heap := sB.heap.push bare } : Shared).heap = sC.heap := by rw [eC]
    show ObjOk _ _ _ (sB.heap.push bare) D _
    rw [← hC]
    exact setO_new setNew
  have below : ∀ b ∈ held, b < sB.heap.objs.size := by
    intro b hb
    obtain ⟨o, e, _⟩ := TW.obj _ _ atZero b hb
    exact Heap.lt_size e
  have clearC : ∀ b ∈ held, FpOk X pins (upd HB D (SetO X.w D (fun _ => false) 0)) b ∧ b < sC.heap.objs.size := by
    intro b hb
    have lt := below b hb
    refine ⟨⟨?_, (clear b hb).2⟩, ?_⟩
    · rw [upd_ne (by rw [eD]; exact Nat.ne_of_lt lt)]
      exact (clear b hb).1
    · rw [hC, Heap.size_push]
      exact Nat.lt_succ_of_lt lt
  have atC : turns 0 sC.heap := TW.keep _ _ _ atZero fun b _ o e => by
    rw [hC]
    exact Heap.get?_push_of_some _ e
  have IE := block_start IC blk nd clearC
  obtain ⟨HC, eHC⟩ : ∃ HC, HC = upd HB D (SetO X.w D (fun _ => false) 0) := ⟨_, rfl⟩
  rw [← eHC] at IC IE clearC z0
  obtain ⟨cells, ecells⟩ : ∃ cells, cells = cellsFrom (sC.heap.objs.size + 1) scope.names (cloFrom X.env.cells scope.names []) := ⟨_, rfl⟩
  obtain ⟨ce, ece⟩ : ∃ ce, ce = compEnvC scope cells sC.heap.objs.size X.env := ⟨_, rfl⟩
  have jg := hgt sC HC sC.heap.objs.size cells held
  have jt := htst sC HC sC.heap.objs.size cells held
  have je := helm sC HC sC.heap.objs.size cells held
  rw [← ece] at jg jt je
  obtain ⟨sE, eE⟩ : ∃ sE : Shared, sE = { sC with heap := pushCells (sC.heap.push { cls := .type "dict", data := .dict #[] }) scope.names } := ⟨_, rfl⟩
  rw [← ecells, ← ece, ← eE] at IE
  have lce : ce.locals = sC.heap.objs.size := by rw [ece]; rfl
  have none0 : ∀ b ∈ held, HC b = none := fun b hb => (clearC b hb).1.1
  have atE : turns 0 sE.heap := TW.keep _ _ _ atC fun b _ o e => by
    rw [eE]
    exact pushCells_keeps _ _ _ _ (Heap.get?_push_of_some _ e)
  rw [← eC, ← ecells]
  show codeAny _ _ (.compStart (.SetComp elt [⟨tg, iter, ifs, 0⟩] scope pos) 0 (.ref itr) (.ref D) (compEnvC scope cells sC.heap.objs.size X.env)) _ _
  rw [← ece]
  have still : ∀ {σ' : L2.St} {H' : Hp} {s' : Shared}, Inv (X.blk sC HC scope ce held) [] σ' H' s' → (∀ b ∈ held, H' b = none) → ∀ b ∈ held, FpOk (X.blk sC HC scope ce held) [] H' b := by
    intro σ' H' s' I' n0 b hb
    exact ⟨n0 b hb, (I'.ok.exf b hb).1, I'.ok.exfs b hb, .inl hb, fun x c e => (I'.ok.exf b hb).2 x c e, fun p hp => absurd (show p ∈ ([] : List (Addr × Obj)) ++ [] from hp) (by simp)⟩
  let Here : Nat → Shared → Prop := fun n s' => ∃ i H', Inv (X.blk sC HC scope ce held) [] (wipe σ (own.map (·.2))) H' s' ∧ turns i s'.heap ∧ (∀ b ∈ held, H' b = none) ∧ Z i n H'
  have loop : codeAny (model X.prog X.w) X.A (.compLoop (.SetComp elt [⟨tg, iter, ifs, 0⟩] scope pos) 0 (.ref itr) (.ref D) ce) (compPost (model X.prog X.w) X.A X.xe none (EP X pins σ Q) (.ref D) sC.heap.objs.size) sE := by
    refine PpSet.compLoopS_any Here ?_ mz ⟨0, HC, IE, atE, none0, z0⟩
    rintro n s5 ⟨i, H5, I5, at5, n5, z5⟩
    cases go1 i n H5 z5 with
    | inl stops =>
      obtain ⟨stop, fin⟩ := stops
      refine thnF (TW.done (X.blk sC HC scope ce held) rfl rfl rfl calm i [] s5 _ H5 (fun _ _ => False) I5 (still I5 n5) at5 stop) fun r s6 both => ?_
      obtain ⟨er, I6⟩ := both
      subst er
      have I7 : Inv X pins σ H5 s6 := IC.call' (ch := held) I6.os I6.base I6.hok I6.bare fun b hb => ⟨(clearC b hb).1.2.2.2.1, (clearC b hb).1.2.1, (clearC b hb).1.2.2.2.2.1, (clearC b hb).1.2.2.2.2.2⟩
      have frC : H5 sC.heap.objs.size = none := by
        have q : H5 ce.locals = none := I6.free
        rw [lce] at q
        exact q
      obtain ⟨m, mns, _⟩ := I6.loc
      have mns' : s6.heap.Ns ce.locals m := mns
      rw [lce] at mns'
      refine ⟨m, mns', fun h2 same => ?_⟩
      obtain ⟨k0, k1, k2, k3, k4, k5⟩ := IC.fpOk (Nat.le_refl _) frC
      exact ⟨.ref D, H5, I7.turned (t' := s6.toks) (fun b o hb e => (same.2 b hb).trans e) k0 k1 k3 k4 k5, rfl, fin⟩
    | inr goes =>
      obtain ⟨go, nxt, down, step⟩ := goes
      refine thnF (TW.item (X.blk sC HC scope ce held) rfl rfl rfl calm i [] s5 _ H5 (fun _ _ => False) I5 (still I5 n5) at5 go) fun r s6 both => ?_
      obtain ⟨u, er, more⟩ := both
      subst er
      refine thnF more fun _ s7 drawn => ?_
      obtain ⟨x, H7, I7, r7, y7, at7, n7⟩ := drawn
      have I7p := I7.pinned (still I7 n7) (TW.obj _ _ at7)
      refine thnF (jg.run _ s7 _ H7 x u _ I7p r7 (step x H7 y7)) fun _ s8 g8 => ?_
      obtain ⟨σ8, H8, I8, w8, q8⟩ := g8
      refine thnF (jt.run _ s8 σ8 H8 _ I8 q8) fun yes s9 g9 => ?_
      obtain ⟨H9, I9, q9⟩ := g9
      have next : ∀ {s' : Shared} {H' : Hp}, Inv (X.blk sC HC scope ce held) ([] ++ pinsAt held s7.heap) σ8 H' s' → nxt H' → ∃ m, m < n ∧ Here m s' := by
        intro s' H' I' nx
        obtain ⟨m', lt, z'⟩ := down H' nx
        have pinned : ∀ b ∈ held, ∀ o, s7.heap.get? b = some o → s'.heap.get? b = some o ∧ H' b = none := by
          intro b hb o e
          have q := I'.pin (b, o) (List.mem_append_right _ (List.mem_append_right _ (mem_pinsAt hb e)))
          exact ⟨q.1, q.2.1⟩
        have lens : (wipe σ (own.map (·.2))).length = σ8.length := by rw [← w8, wipe_length]
        refine ⟨m', lt, i + 1, H', (I'.unpinned (pins := [])).weak lens (fun j v e => ?_), TW.keep _ _ _ at7 (fun b hb o e => (pinned b hb o e).1), fun b hb => ?_, z'⟩
        · rw [← w8] at e
          exact (wipe_some e).1
        · obtain ⟨o, e, _⟩ := TW.obj _ _ at7 b hb
          exact (pinned b hb o e).2
      cases yes with
      | false =>
        simp only [Bool.false_eq_true, if_false] at q9 ⊢
        exact next I9 q9
      | true =>
        simp only [if_true] at q9 ⊢
        refine thnF (je.run _ s9 σ8 H9 _ I9 q9) fun z s10 g10 => ?_
        obtain ⟨yv, H10, I10, r10, k, M, c, ey, hD10, room, nx⟩ := g10
        subst ey
        refine thnF (mt_sadd (X := X.blk sC HC scope ce held) _ s10 σ8 H10 (.ref D) [.int k] (.ref D) [z] (fun v H' => v = .non ∧ nxt H') I10 rfl (.cons r10 .nil) ⟨D, k, M, c, rfl, rfl, hD10, room, rfl, nx⟩) fun v s11 g11 => ?_
        obtain ⟨v', H11, I11, _, _, nx'⟩ := g11
        exact next I11 nx'
  have start := PpSet.codeAny_compStart_set loop (TW.self X.A 0 _ _ _ atE loop)
  rw [eE] at start
  exact start
end
/-! ### groups of places: the mathematics -/
def goodG (many : Nat) (g : List Int) : Prop := g.Pairwise (· < ·) ∧ ∀ x ∈ g, 0 ≤ x ∧ x < (many : Int)
theorem rise_len : ∀ {g : List Int} {lo hi : Int}, g.Pairwise (· < ·) → (∀ x ∈ g, lo ≤ x ∧ x < hi) → (g.length : Int) ≤ max 0 (hi - lo)
  | [], lo, hi, _, _ => by
    show ((0 : Nat) : Int) ≤ max 0 (hi - lo)
    omega
  | x :: g, lo, hi, hp, hb => by
    obtain ⟨h1, h2⟩ := List.pairwise_cons.mp hp
    obtain ⟨b1, b2⟩ := hb x List.mem_cons_self
    have ih := rise_len (lo := x + 1) (hi := hi) h2 fun y hy => ⟨by have := h1 y hy; omega, (hb y (List.mem_cons_of_mem _ hy)).2⟩
    rw [List.length_cons]
    omega
theorem goodG.len {many : Nat} {g : List Int} (h : goodG many g) : g.length ≤ many := by
  have := rise_len h.1 h.2
  omega
def ids (many : Nat) : List Int := (List.range many).map fun (i : Nat) => (i : Int)
theorem ids_pair (many : Nat) : (ids many).Pairwise (· < ·) := by
  unfold ids
  rw [List.pairwise_map]
  refine List.Pairwise.imp ?_ List.pairwise_lt_range
  intro a b h
  omega
theorem mem_ids {many : Nat} {k : Int} : k ∈ ids many ↔ 0 ≤ k ∧ k < (many : Int) := by
  unfold ids
  rw [List.mem_map]
  constructor
  · rintro ⟨i, hi, rfl⟩
    have := List.mem_range.mp hi
    omega
  · rintro ⟨h0, h1⟩
    exact ⟨k.toNat, List.mem_range.mpr (by omega), by omega⟩
theorem ids_good (many : Nat) : goodG many (ids many) := ⟨ids_pair many, fun _ h => mem_ids.mp h⟩
def ledG (many : Nat) (row g : List Int) : List Int := (ids many).filter fun k => decide (k ∈ g.map (goK row))
theorem ledG_good (many : Nat) (row g : List Int) : goodG many (ledG many row g) := by
  refine ⟨List.Pairwise.filter _ (ids_pair many), fun x hx => ?_⟩
  exact mem_ids.mp (List.mem_filter.mp hx).1
theorem goK_in' {many : Nat} {f : List Int} {p : Int} (h : GoodRow many f) (h0 : 0 ≤ p) (h1 : p < (many : Int)) : 0 ≤ goK f p ∧ goK f p < (many : Int) := by
  have hl : p.toNat < f.length := by rw [h.1]; omega
  unfold goK
  rw [List.getD_eq_getElem?_getD, List.getElem?_eq_getElem hl]
  exact h.2 _ (List.getElem_mem hl)
theorem mem_ledG {many : Nat} {row g : List Int} {k : Int} (hr : GoodRow many row) (hg : ∀ x ∈ g, 0 ≤ x ∧ x < (many : Int)) : k ∈ ledG many row g ↔ ∃ x ∈ g, goK row x = k := by
  unfold ledG
  rw [List.mem_filter, mem_ids]
  constructor
  · rintro ⟨_, h⟩
    exact List.mem_map.mp (of_decide_eq_true h)
  · rintro ⟨x, hx, rfl⟩
    exact ⟨goK_in' hr (hg x hx).1 (hg x hx).2, decide_eq_true (List.mem_map.mpr ⟨x, hx, rfl⟩)⟩
theorem at_goK {row : List Int} {p : Int} (h0 : 0 ≤ p) (h : p.toNat < row.length) : (row.map V.int)[p.toNat]? = some (.int (goK row p)) := by
  rw [List.getElem?_map, List.getElem?_eq_getElem h]
  unfold goK
  rw [List.getD_eq_getElem?_getD, List.getElem?_eq_getElem h]
  rfl
/-- an own error without an __init__ of its own, at C -/
structure OwnE (K : PySem.W.Frag) (mg : Str → Option Value) (x : Str) (C : Addr) : Prop where
  g : mg x = some (.ref C)
  k : PySem.W.keepIn K (.ref C) = true
  x : PySem.W.excIn K C [.type "ValueError", .type "Exception", .type "BaseException", .type "object"] "ValueError.__new__" = true
  b : PySem.W.subIn K (.ref C) (.type "BaseException") = some true
  t : PySem.W.typeIn K (.ref C) = some (.type "type")
theorem app_fits {a b : Str} (h1 : a.length ≤ 1000) (h2 : b.length ≤ 1921) : (a ++ b).length ≤ sizeLine := by
  have e : (a ++ b).length = a.length + b.length := by
    show (a.cps ++ b.cps).size = a.cps.size + b.cps.size
    rw [Array.size_append]
  rw [e]
  exact Nat.le_trans (show a.length + b.length ≤ 2921 by omega) (by decide)
theorem app_le {a b : Str} {m n : Nat} (h1 : a.length ≤ m) (h2 : b.length ≤ n) : (a ++ b).length ≤ m + n := by
  have e : (a ++ b).length = a.length + b.length := by
    show (a.cps ++ b.cps).size = a.cps.size + b.cps.size
    rw [Array.size_append]
  omega
theorem line4k {n : Nat} (h : n ≤ 9000) : n ≤ sizeLine := Nat.le_trans h (by decide)
theorem log_small {n : Int} (h : n.natAbs ≤ 2000000) : n.natAbs.log2 < 1920 := by
  by_cases c : n.natAbs = 0
  · rw [c]
    decide
  · exact (Nat.log2_lt c).mpr (Nat.lt_of_le_of_lt h (by decide))
theorem int_len {n : Int} (h : n.natAbs.log2 < 1920) : (Str.ofString (toString n)).length ≤ 1921 := by
  have e := int_text_length_le (k := 1920) (by decide) h
  rw [PySem.ofString_length]
  omega
theorem fitA {a b : Str} {m n : Nat} (h1 : a.length ≤ m) (h2 : b.length ≤ n) (h : m + n ≤ 9000) : (a ++ b).length ≤ sizeLine := Nat.le_trans (app_le h1 h2) (line4k h)
/-! ### isinstance(e, (A, B, ..)) of the exception that an except suite holds: a rule of our own -/
/-- e, the classes in a tuple -/
def rExT (K : PySem.W.Frag) (D a : Addr) : List V → Hp → VK → Prop := fun xs H Q =>
  ∃ (tp : Addr) (cs : List V) (us : List Value) (b : Bool), xs = [.ref a, .ref tp] ∧ H tp = some (.tup cs) ∧ Paired ClsV cs us ∧ PySem.W.kitAny K (.ref D) us = some b ∧ Q (.bl b) H
theorem held_at {oe : Obj} {a D : Addr} {h : Heap} (got : h.get? a = some oe) (z : Zc (.ref D) none oe) (f : ∃ vs, oe.data = .fields vs) : PySem.W.InstAt h a oe D none := by
  obtain ⟨vs, fv⟩ := f
  obtain ⟨c0, d0, data0, s0⟩ := oe
  have z1 : c0 = .ref D := z.1
  have z2 : d0 = none := z.2
  have z3 : data0 = .fields vs := fv
  subst z1
  subst z2
  subst z3
  exact ⟨got, rfl, rfl, trivial⟩
theorem call_exT {X : Cx} {a D : Addr} {oe : Obj} {pn : List (Addr × Obj)} (C : ExcC X.K D) (z : Zc (.ref D) none oe) (f : ∃ vs, oe.data = .fields vs) : CallR (X.suite a ((a, oe) :: pn)) (.builtin "isinstance") (rExT X.K D a) := by
  intro pins s σ H xs us Q I r h
  obtain ⟨tp, cs, ws, b, rfl, hT, k, e, q⟩ := h
  obtain ⟨u1, u2, rfl, r1, r2⟩ := vals2 r
  cases (show u1 = Value.ref a from r1)
  cases (show u2 = Value.ref tp from r2)
  have got := (I.pin (a, oe) (List.mem_append.mpr (.inl List.mem_cons_self))).1
  obtain ⟨_, its, rv, ⟨oc, od, dt, sl⟩, g1, g2, n, g3⟩ := (show ObjOk X.prog X.w H s.heap tp (.tup cs) from I.hok tp _ hT)
  have same := ClsV.all k rv
  subst same
  have c1 : oc = .type "tuple" := g2
  have c2 : dt = .seq its.toArray n := g3
  subst c1
  subst c2
  exact PySem.W.kia_tup (PySem.W.handS_kitx_exc C.hg C.hk C.hs C.hd C.ha C.hn C.ht C.hm) I.kIn (held_at got z f) g1 e (fun z => nomatch z) fun tk => ⟨.bl b, H, I.tok tk, rfl, q⟩
/-! ### an error that is caught and looked at: isinstance(e, (six others)), then isinstance(e, its own) and isinstance(e, ValueError) -/
theorem FnOk.or {P : Program} {w : World} {K : PySem.W.Frag} {mg : Str → Option Value} {base : Heap} {CX : CXT} {k : Nat} {f : Addr} {fd : FuncData} {ps : List Str} {sp sq : Sp} (F : FnOk P w K mg base CX k f fd ps sp) (G : FnOk P w K mg base CX k f fd ps sq) : FnOk P w K mg base CX k f fd ps (fun vs H Q E => sp vs H Q E ∨ sq vs H Q E) :=
  ⟨fun vs H Q E h => h.elim (F.len vs H Q E) (G.len vs H Q E), fun A outer s H args us vs Q E hr e b v h => h.elim (F.run A outer s H args us vs Q E hr e b v) (G.run A outer s H args us vs Q E hr e b v)⟩
theorem pss_given {X : Cx} {ss : List Stmt} {t : TS} {p : Prop} (h : p → PSs X ss t) : PSs X ss (fun D σ H => p ∧ t D σ H) := ⟨fun pins s σ H D I hh => (h hh.1).run pins s σ H D I hh.2⟩
structure RefG (K : PySem.W.Frag) (mg : Str → Option Value) (xE x1 x2 x3 x4 x5 x6 : Str) (CL CE c1 c2 c3 c4 c5 c6 : Addr) : Prop where
  gL : mg "LongError" = some (.ref CL)
  ex : PySem.W.exmOne K (.ref CE) (.ref CL) = some true
  N : OwnE K mg xE CE
  E : ExcC K CE
  g1 : mg x1 = some (.ref c1)
  g2 : mg x2 = some (.ref c2)
  g3 : mg x3 = some (.ref c3)
  g4 : mg x4 = some (.ref c4)
  g5 : mg x5 = some (.ref c5)
  g6 : mg x6 = some (.ref c6)
  no : PySem.W.kitAny K (.ref CE) [.ref c1, .ref c2, .ref c3, .ref c4, .ref c5, .ref c6] = some false
  yes : PySem.W.kitOne K (.ref CE) (.ref CE) = some true
  val : PySem.W.kitOne K (.ref CE) (.type "ValueError") = some true
  mi : mg "isinstance" = none
  mv : mg "ValueError" = none
def t_suiteG (K : PySem.W.Frag) (i : Nat) (CE c1 c2 c3 c4 c5 c6 : Addr) (a : Addr) : TS :=
  tSeq (tIfS (tB (tCB (rExT K CE a) (tCons (tVar i) (tCons (tTup (tCons (tC (.ref c1)) (tCons (tC (.ref c2)) (tCons (tC (.ref c3)) (tCons (tC (.ref c4)) (tCons (tC (.ref c5)) (tCons (tC (.ref c6)) tNil))))))) tNil)))) (tRet (tC (.bl false))) tNext)
    (tRet (tAndV (tCB (rIsE K CE a) (tCons (tVar i) (tCons (tC (.ref CE)) tNil))) (tCB (rIsE K CE a) (tCons (tVar i) (tCons (tC (.ty "ValueError")) tNil)))))
/-- what the suite comes to -/
theorem suiteG {K : PySem.W.Frag} {mg : Str → Option Value} {xE x1 x2 x3 x4 x5 x6 : Str} {CL CE c1 c2 c3 c4 c5 c6 a : Addr} (R : RefG K mg xE x1 x2 x3 x4 x5 x6 CL CE c1 c2 c3 c4 c5 c6) {i : Nat} {D : Ends} {σ : L2.St} {H : Hp} (hi : σ[i]? = some (some (.ref a)))
    (q : ∀ p o, H p = none → D.rt (.bl true) (upd H p o)) : t_suiteG K i CE c1 c2 c3 c4 c5 c6 a D σ H := by
  refine ⟨.ref a, hi, (by show 6 ≤ sizeLine; decide), fun tp ntp => ?_⟩
  refine ⟨tp, _, _, false, rfl, upd_same, .cons (.own _) (.cons (.own _) (.cons (.own _) (.cons (.own _) (.cons (.own _) (.cons (.own _) .nil))))), R.no, false, rfl, iteF ?_⟩
  refine ⟨.ref a, hi, .ref CE, _, true, rfl, (fun u r => r), R.yes, true, rfl, iteT ?_⟩
  exact ⟨.ref a, hi, .ty "ValueError", _, true, rfl, (fun u r => r), R.val, q _ _ ntp⟩
section
variable {P : Program} {w : World} {K : PySem.W.Frag} {mg : Str → Option Value} {base : Heap} {C : Addr}
abbrev LstOf (H : Hp) : V → List Int → Prop := fun v xs => ∃ a, v = V.ref a ∧ H a = some (.lst (xs.map V.int))
def ListsAt (H : Hp) (L : Addr) (xss : List (List Int)) : Prop := ∃ vs, H L = some (.lst vs) ∧ Paired (LstOf H) vs xss
theorem ListsAt.same {H H' : Hp} {L : Addr} {xss : List (List Int)} (s : Same H H') (h : ListsAt H L xss) : ListsAt H' L xss := by
  obtain ⟨vs, e, p⟩ := h
  exact ⟨vs, s _ _ e, L2.Paired.mapP p fun v xs ⟨a, h1, h2⟩ => ⟨a, h1, s _ _ h2⟩⟩
/-- lists at F, none of them F -/
def ListsIn (H : Hp) (F : Addr) (xss : List (List Int)) : Prop := ∃ vs, H F = some (.lst vs) ∧ Paired (fun v xs => ∃ a, v = V.ref a ∧ a ≠ F ∧ H a = some (.lst (xs.map V.int))) vs xss
theorem ListsIn.same {H H' : Hp} {L : Addr} {xss : List (List Int)} (s : Same H H') (h : ListsIn H L xss) : ListsIn H' L xss := by
  obtain ⟨vs, e, p⟩ := h
  exact ⟨vs, s _ _ e, L2.Paired.mapP p fun v xs ⟨a, h1, h2, h3⟩ => ⟨a, h1, h2, s _ _ h3⟩⟩
theorem ListsIn.at {H : Hp} {L : Addr} {xss : List (List Int)} (h : ListsIn H L xss) : ListsAt H L xss := by
  obtain ⟨vs, e, p⟩ := h
  exact ⟨vs, e, L2.Paired.mapP p fun v xs ⟨a, h1, h2, h3⟩ => ⟨a, h1, h3⟩⟩
theorem dp_lists {K : PySem.W.Frag} {H : Hp} : ∀ {vs : List V} {xss : List (List Int)}, Paired (LstOf H) vs xss → DpAll K H vs (xss.map fun xs => .list (xs.map PyData.int))
  | _, _, .nil => .nil
  | _, _, .cons ⟨a, e, h⟩ t => .cons (by rw [e]; exact dp_lst h) (dp_lists t)
def lsD (xss : List (List Int)) : PyData := .list (xss.map fun xs => .list (xs.map PyData.int))
theorem Sh.lists (xss : List (List Int)) : Sh 2 (lsD xss) := Sh.list fun d hd => by
  obtain ⟨xs, _, rfl⟩ := List.mem_map.mp hd
  exact Sh.list (Sh.ints xs)
theorem ListsAt.dp {K : PySem.W.Frag} {H : Hp} {L : Addr} {xss : List (List Int)} (h : ListsAt H L xss) : Dp K H (.ref L) (lsD xss) := by
  obtain ⟨vs, e, p⟩ := h
  exact .lst (SqL.of e) (dp_lists p)
theorem Sh.lst (xs : List Int) : Sh 1 (.list (xs.map PyData.int)) := Sh.list (Sh.ints xs)
theorem eqv_lst (xs ys : List Int) : PyData.eqv (.list (xs.map PyData.int)) (.list (ys.map PyData.int)) = decide (xs = ys) := by
  simp only [PyData.eqv]
  exact PySem.W.ked_eqvAll xs ys
theorem any_lsts (g : List Int) : ∀ xss : List (List Int), ((xss.map fun xs => PyData.list (xs.map PyData.int)).any fun z => PyData.eqv z (.list (g.map PyData.int))) = decide (g ∈ xss)
  | [] => by rw [decide_eq_false (by simp)]; rfl
  | x :: xss => by
    rw [List.map_cons, List.any_cons, eqv_lst, any_lsts g xss]
    by_cases c : x = g
    · subst c
      rw [decide_eq_true rfl, decide_eq_true List.mem_cons_self]
      rfl
    · rw [decide_eq_false c, Bool.false_or]
      exact decide_eq_decide.mpr ⟨fun h => List.mem_cons_of_mem _ h, fun h => (List.mem_cons.mp h).resolve_left (Ne.symm c)⟩
end
/-! ### itertools.permutations(range), walked -/
section
open PySem PySem.Spec PySem.Builtin PySem.Builtin.Itertools
namespace Pm
theorem mro_pm : mroOf (.type "itertools.permutations") = pure [.type "itertools.permutations", .type "object"] := by rw [mroOf_type]; kernel_rfl
theorem lookup_pm_new : typeLookup (.type "itertools.permutations") "__new__" = pure (some (.builtin "itertools.permutations.__new__")) := by rw [typeLookup_type, builtinLookup_eq_fast]; kernel_rfl
theorem slot_pm_init : Slot "itertools.permutations" "__init__" "object.__init__" :=
  .of (owner := "object") (n := "__init__") (by rw [typeLookup_type, builtinLookup_eq_fast]; kernel_rfl) (by decide +kernel) (by decide +kernel) (by decide +kernel)
    (by first | exact .inl (by decide +kernel) | exact .inr (by decide +kernel)) (by rw [isSubtype_type]; kernel_rfl)
theorem sub_pm : isSubtype (.type "itertools.permutations") (.type "itertools.permutations") = pure true := by rw [isSubtype_type]; kernel_rfl
theorem called_pm : TypeCalled "itertools.permutations" "itertools.permutations.__new__" "object.__init__" :=
  ⟨by decide +kernel, by decide +kernel, ⟨_, _, mro_pm⟩, madeBy_type mro_pm lookup_pm_new (by decide +kernel), by decide +kernel, sub_pm, slot_pm_init⟩
theorem typeCall_pm (a : Value) : checkTypeCall "itertools.permutations" ⟨[a], []⟩ = pure () := by kernel_rfl
theorem newCall_pm (a : Value) : checkBuiltinCall "itertools.permutations.__new__" ⟨[.type "itertools.permutations", a], []⟩ = pure () := by kernel_rfl
theorem entry_pm_new : entryFor table "itertools.permutations.__new__" = some Builtin.«itertools.permutations.__new__» := entryFor_of_tree (by kernel_rfl)
theorem plain_pm_new : plainId "itertools.permutations.__new__" = true := by decide +kernel
theorem slot_pm_iter : Slot "itertools.permutations" "__iter__" "itertools.permutations.__iter__" :=
  .of (owner := "itertools.permutations") (n := "__iter__") (by rw [typeLookup_type, builtinLookup_eq_fast]; kernel_rfl) (by decide +kernel) (by decide +kernel) (by decide +kernel)
    (by first | exact .inl (by decide +kernel) | exact .inr (by decide +kernel)) sub_pm
theorem slot_pm_next : Slot "itertools.permutations" "__next__" "itertools.permutations.__next__" :=
  .of (owner := "itertools.permutations") (n := "__next__") (by rw [typeLookup_type, builtinLookup_eq_fast]; kernel_rfl) (by decide +kernel) (by decide +kernel) (by decide +kernel)
    (by first | exact .inl (by decide +kernel) | exact .inr (by decide +kernel)) sub_pm
theorem entry_pm_iter : entryFor table "itertools.permutations.__iter__" = some Builtin.«dict_keyiterator.__iter__» :=
  entryFor_alias (id' := "dict_keyiterator.__iter__") (by kernel_rfl) (by first | rfl | decide +kernel | (unfold String.splitOn; simp +decide [String.splitOnAux])) (by decide +kernel) (by kernel_rfl)
theorem entry_pm_next : entryFor table "itertools.permutations.__next__" = some Builtin.«itertools.permutations.__next__» := entryFor_of_tree (by kernel_rfl)
theorem noDict_pm : typeHasDict (.type "itertools.permutations") = false := by decide +kernel
theorem noClose_pm : typeLookup (.type "itertools.permutations") "close" = pure none := by rw [typeLookup_type, builtinLookup_eq_fast]; kernel_rfl
theorem owner_pm : Manifest.owners.lookup (String.ofList ['s', 'n', 'o', 'i', 't', 'a', 't', 'u', 'm', 'r', 'e', 'p', '.', 's', 'l', 'o', 'o', 't', 'r', 'e', 't', 'i'].reverse) = some Manifest.sig_itertools_permutations := by kernel_rfl
theorem args_pm_iter (a : Value) : argsOk "itertools.permutations.__iter__" ⟨[a], []⟩ := by
  unfold argsOk; rw [signature?_of (id := "itertools.permutations.__iter__") (n := ['_', '_', 'r', 'e', 't', 'i', '_', '_']) (o := ['s', 'n', 'o', 'i', 't', 'a', 't', 'u', 'm', 'r', 'e', 'p', '.', 's', 'l', 'o', 'o', 't', 'r', 'e', 't', 'i']) (by kernel_rfl) owner_pm]; kernel_rfl
theorem args_pm_next (a : Value) : argsOk "itertools.permutations.__next__" ⟨[a], []⟩ := by
  unfold argsOk; rw [signature?_of (id := "itertools.permutations.__next__") (n := ['_', '_', 't', 'x', 'e', 'n', '_', '_']) (o := ['s', 'n', 'o', 'i', 't', 'a', 't', 'u', 'm', 'r', 'e', 'p', '.', 's', 'l', 'o', 'o', 't', 'r', 'e', 't', 'i']) (by kernel_rfl) owner_pm]; kernel_rfl
end Pm
end
section
open PySem PySem.Spec PySem.Builtin PySem.Builtin.Itertools
namespace Pm
abbrev poolO (acc : Array Value) : Obj := { cls := .type "tuple", dict := none, data := .seq acc, slots := #[] }
abbrev pmO (pt : Addr) (st n : Int) (old : Value) (ns : List Nat) : Obj := { cls := .type "itertools.permutations", dict := none, data := .fields ([.ref pt, rawInt st, rawInt n, old] ++ ns.map fun (i : Nat) => rawInt i).toArray, slots := #[] }
/-- a permutations object: its pool, how far it is, how many, what it told last, its numbers -/
abbrev IsPm (h : Heap) (it pt : Addr) (st n : Int) (old : Value) (ns : List Nat) : Prop := h.get? it = some (pmO pt st n old ns)
section
variable {prog : Program} {w : World} {A : Around} {E : Value → Shared → Prop} {s : Shared} {r : Addr} {t u v : Tok} {n : Nat}
theorem code_pm_new {Q₁ : Value → Shared → Prop} (hh : A.handled = none) (hr : IsRange s.heap r 0 (n : Int) 1 t u v) (hsmall : Builtin.Range.small 0 (n : Int) 1 = true) (hn : Builtin.Range.rangeSize 0 (n : Int) 1 = n) (hlen : n ≤ 100)
    (h : ∀ (hm : Heap) (tk : Nat) (acc : Array Value), (∀ b o, s.heap.get? b = some o → hm.get? b = some o) → ItemsOf (fun i v => ∃ t, v = .int (0 + i * 1) t) acc n → Q₁ (.ref (hm.objs.size + 1)) { s with heap := (hm.push (poolO acc)).push (pmO hm.objs.size 0 n .none ((List.range n) ++ (List.range n).map fun i => n - i)), toks := tk }) :
    codeAny (model prog w) A (.call (.builtin "itertools.permutations.__new__") ⟨[.type "itertools.permutations", .ref r], []⟩) (wants Q₁ E) s := by
  refine codeAny_of_tree ?_
  show wpAny _ A.in1 (do checkBuiltinCall "itertools.permutations.__new__" ⟨[.type "itertools.permutations", .ref r], []⟩; again (.builtin "itertools.permutations.__new__" ⟨[.type "itertools.permutations", .ref r], []⟩)) _ _ s
  refine wpAny_bind (wpAny_of_eq (newCall_pm _) (wpAny_pure ⟨plainId_quiet plain_pm_new _, codeAny_builtin entry_pm_new ?_⟩))
  rw [Around.under_plainId plain_pm_new _]
  have hsub : isSubtype (.type "itertools.permutations") (.type ("itertools." ++ "permutations")) = pure true := sub_pm
  have hd := noDict_pm
  have hTI : s.TypeIs (.ref r) "range" := ⟨_, hr, rfl⟩
  have hh1 : A.in1.handled = none := hh
  have hlen2 : n ≤ 2 ^ 24 := Nat.le_trans hlen (by decide)
  wp_walk using wpAny_typeOf hTI, L2.collect_range (A := A.in1) hh1 hr hsmall hn hlen2
  intro h' tk acc hk hacc
  have hl : acc.toList.length = n := by rw [Array.length_toList]; exact hacc.1
  have c1 : ¬ (((acc.toList.length : Nat) : Int) < 0) := by omega
  have c2 : ¬ (itTooMany ((acc.toList.length : Nat) : Int) = true) := by
    unfold itTooMany
    rw [decide_eq_true_iff, hl]
    omega
  have c3 : ¬ (((acc.toList.length : Nat) : Int).toNat > acc.toList.length) := by omega
  refine wpAny_bind (wpAny_pure ?_)
  refine wpAny_ite_false (decide_eq_false c1) ?_
  refine wpAny_ite_false (decide_eq_false c2) ?_
  have fin : wpAny (model prog w) A.in1 (newTuple acc.toList >>= fun a => itNewRecord (.type "itertools.permutations") ([a, rawInt (if ((acc.toList.length : Nat) : Int).toNat > acc.toList.length then 2 else 0), rawInt (((acc.toList.length : Nat) : Int).toNat : Nat), .none] ++ (List.range acc.toList.length).map (fun (i : Nat) => rawInt i) ++ (List.range ((acc.toList.length : Nat) : Int).toNat).map fun (i : Nat) => rawInt ((acc.toList.length : Int) - i)) >>= fun b => ret b)
      (fun fin s' => match fin with | .done f => wants Q₁ E (.ok f) s' | .again c' => c'.quiet = true ∧ codeAny (model prog w) A c' (wants Q₁ E) s') (fun e s' => wants Q₁ E (.error e) s') { heap := h', gens := s.gens, drawn := s.drawn, toks := tk, os := s.os } := by
    unfold newTuple
    refine wpAny_bind (wpAny_newObj_type ?_ ?_)
    · rw [if_neg c3]
      unfold itNewRecord
      rw [hd]
      refine wpAny_bind ?_
      refine wpAny_ite_true rfl ?_
      refine wpAny_newObj_type (wpAny_pure ?_) ?_
      · have e1 : (h'.push (poolO acc)).objs.size = h'.objs.size + 1 := by simp [Heap.push]
        have e2 : ([Value.ref h'.objs.size, rawInt 0, rawInt (((acc.toList.length : Nat) : Int).toNat : Nat), .none] ++ (List.range acc.toList.length).map (fun (i : Nat) => rawInt i) ++ (List.range ((acc.toList.length : Nat) : Int).toNat).map fun (i : Nat) => rawInt ((acc.toList.length : Int) - i)) = ([Value.ref h'.objs.size, rawInt 0, rawInt (n : Int), .none] ++ ((List.range n) ++ (List.range n).map fun i => n - i).map fun (i : Nat) => rawInt i) := by
          rw [hl, Int.toNat_natCast, List.map_append, List.map_map, List.append_assoc]
          have e3 : ((List.range n).map fun (i : Nat) => rawInt ((n : Int) - i)) = (List.range n).map ((fun (i : Nat) => rawInt i) ∘ fun i => n - i) := by
            refine List.map_congr_left fun i hi => ?_
            have := List.mem_range.mp hi
            show rawInt ((n : Int) - i) = rawInt ((n - i : Nat) : Int)
            rw [show ((n - i : Nat) : Int) = (n : Int) - i by omega]
          rw [e3]
        have q := h h' tk acc hk hacc
        rw [← e1] at q
        rw [e2]
        exact q
      · show _ ≤ sizeLine + 2
        simp only [List.size_toArray, List.length_append, List.length_map, List.length_range, List.length_cons, List.length_nil]
        rw [hl, sizeLine_eq]
        omega
    · show _ ≤ sizeLine
      rw [List.size_toArray, hl, sizeLine_eq]
      omega
  exact fin
end
end Pm
end
section
open PySem PySem.Spec PySem.Builtin PySem.Builtin.Itertools
namespace Pm
def nxtP (n : Nat) : (place : Nat) → (indices cycles : List Nat) → Option (List Nat × List Nat)
  | 0, _, _ => none
  | i + 1, indices, cycles =>
    let c := cycles.getD i 0 - 1
    if c == 0 then nxtP n i (indices.take i ++ indices.drop (i + 1) ++ [indices.getD i 0]) (cycles.set i (n - i))
    else some ((indices.set i (indices.getD (n - c) 0)).set (n - c) (indices.getD i 0), cycles.set i c)
section
variable {prog : Program} {w : World} {A : Around} {E : Value → Shared → Prop} {s : Shared} {it pt : Addr} {n : Nat} {old : Value} {ns : List Nat} {acc : Array Value}
/-- what is told: a new tuple -/
abbrev toldO (acc : Array Value) (ix : List Nat) : Obj := { cls := .type "tuple", dict := none, data := .seq (ix.map fun i => acc.getD i .none).toArray, slots := #[] }
theorem nums_back (ns : List Nat) (a b c d : Value) : ((([a, b, c, d] ++ ns.map fun (i : Nat) => rawInt i).toArray.toList.drop 4).map fun | .int n _ => n.toNat | _ => 0) = ns := by
  show ((ns.map fun (i : Nat) => rawInt i).map _) = ns
  rw [List.map_map]
  refine (List.map_congr_left fun i _ => ?_).trans (List.map_id ns)
  show (rawInt (i : Int) |> fun | .int n _ => n.toNat | _ => 0) = i
  exact Int.toNat_natCast i
theorem set_num (pt st n old : Value) (ns : List Nat) (v : Value) : ([pt, st, n, old] ++ ns.map fun (i : Nat) => rawInt i).toArray.setIfInBounds 1 v = ([pt, v, n, old] ++ ns.map fun (i : Nat) => rawInt i).toArray := by
  simp
theorem set_old (pt st n old : Value) (ns : List Nat) (v : Value) : ([pt, st, n, old] ++ ns.map fun (i : Nat) => rawInt i).toArray.setIfInBounds 3 v = ([pt, st, n, v] ++ ns.map fun (i : Nat) => rawInt i).toArray := by
  simp
theorem set_nums (pt st n old : Value) (ns ms : List Nat) : ([pt, st, n, old] ++ ns.map fun (i : Nat) => rawInt i).toArray.extract 0 4 ++ (ms.map fun (i : Nat) => rawInt i).toArray = ([pt, st, n, old] ++ ms.map fun (i : Nat) => rawInt i).toArray := by
  simp
/-- what is handed out -/
theorem pm_result {st : Int} {ix : List Nat} {Q : PySem.Fin → Shared → Prop} (hit : IsPm s.heap it pt st n old ns) (hl : ix.length ≤ 1000)
    (hQ : ∀ h', IsPm h' it pt st n (.ref s.heap.objs.size) ns → h'.get? s.heap.objs.size = some (toldO acc ix) → (∀ b o, b ≠ it → s.heap.get? b = some o → h'.get? b = some o) → Q (.done (.ret (.ref s.heap.objs.size))) { s with heap := h' }) :
    wpAny (model prog w) A (do
      let t ← newTuple (ix.map fun i => acc.getD i .none)
      let before ← field (.ref it) 3
      setField (.ref it) 3 t
      letGo [before] [t]
      ret t) Q E s := by
  unfold newTuple
  refine wpAny_bind (wpAny_newObj_type ?_ (by show _ ≤ sizeLine; rw [List.size_toArray, List.length_map, sizeLine_eq]; omega))
  have hit2 : IsPm (s.heap.push (toldO acc ix)) it pt st n old ns := Heap.get?_push_of_some _ hit
  refine wpAny_bind (wpAny_field hit2 rfl (x := old) rfl ?_)
  refine wpAny_bind (wpAny_setField hit2 rfl (by simp) ?_)
  have hit3 : IsPm ((s.heap.push (toldO acc ix)).update it (Obj.mapFields (·.setIfInBounds 3 (.ref s.heap.objs.size)))) it pt st n (.ref s.heap.objs.size) ns := by
    unfold IsPm
    rw [Heap.get?_update_self _ hit2 rfl]
    show some (Obj.mapFields _ (pmO pt st n old ns)) = _
    unfold Obj.mapFields
    show some _ = _
    simp only [set_old]
  have ne : s.heap.objs.size ≠ it := Nat.ne_of_gt (Heap.lt_size hit)
  refine wpAny_bind ?_
  unfold letGo
  refine wpAny_bind (wpAny_holding (wpAny_point ?_))
  unfold letGo
  refine wpAny_pure (wpAny_pure ?_)
  refine hQ _ hit3 ?_ fun b o hb e => ?_
  · rw [Heap.get?_update_ne _ _ _ _ ne]
    exact Heap.get?_push_size _ rfl
  · rw [Heap.get?_update_ne _ _ _ _ hb]
    exact Heap.get?_push_of_some _ e
theorem pm_first {Q : Option Value → Shared → Prop} (hit : IsPm s.heap it pt 0 n old ns) (hp : s.heap.get? pt = some (poolO acc)) (hn : acc.size = n) (h100 : n ≤ 100) (hpt : pt ≠ it) (hl : ns.length ≤ 1000)
    (hQ : ∀ h', IsPm h' it pt 1 n (.ref s.heap.objs.size) ns → h'.get? s.heap.objs.size = some (toldO acc (ns.take n)) → (∀ b o, b ≠ it → s.heap.get? b = some o → h'.get? b = some o) → Q (some (.ref s.heap.objs.size)) { s with heap := h' }) :
    wpAny (model prog w) A (pyNext (.ref it)) Q E s := by
  have hT : s.TypeIs (.ref it) "itertools.permutations" := ⟨_, hit, rfl⟩
  unfold pyNext
  refine wpAny_bind (wpAny_attempt (wpAny_callSpecial?_slot (name := Str.ofString "__next__") hT slot_pm_next (wpAny_call_entry slot_pm_next hT entry_pm_next ?_ (args_pm_next _))))
  show wpAny _ _ (field (.ref it) 0 >>= _) _ _ s
  refine wpAny_bind (wpAny_field hit rfl (x := .ref pt) rfl ?_)
  show wpAny _ _ (itPoolItems (.ref pt) >>= _) _ _ s
  unfold itPoolItems
  refine wpAny_bind (wpAny_bind (wpAny_seqItems hp rfl (wpAny_pure ?_)))
  refine wpAny_bind ?_
  unfold itIntField
  refine wpAny_bind (wpAny_field hit rfl (x := rawInt n) rfl (wpAny_pure ?_))
  refine wpAny_bind ?_
  unfold itNumbersFrom
  refine wpAny_bind (wpAny_load hit (wpAny_pure ?_))
  have nb := nums_back ns (.ref pt) (rawInt 0) (rawInt n) old
  generalize hz : (List.map _ (List.drop 4 _) : List Nat) = numbers
  have ez : numbers = ns := hz.symm.trans nb
  rw [ez]
  clear hz nb ez
  refine wpAny_bind (wpAny_bind (wpAny_field hit rfl (x := rawInt 0) rfl (wpAny_pure ?_)))
  refine wpAny_bind (wpAny_setField hit rfl (by simp) ?_)
  have hit2 : IsPm (s.heap.update it (Obj.mapFields (·.setIfInBounds 1 (rawInt 1)))) it pt 1 n old ns := by
    unfold IsPm
    rw [Heap.get?_update_self _ hit rfl]
    show some (Obj.mapFields _ (pmO pt 0 n old ns)) = _
    unfold Obj.mapFields
    show some _ = _
    simp only [set_num]
  have sz : (s.heap.update it (Obj.mapFields (·.setIfInBounds 1 (rawInt 1)))).objs.size = s.heap.objs.size := Heap.size_update ..
  refine pm_result (acc := acc) (ix := ns.take n) hit2 (by rw [List.length_take]; omega) fun h' h1 h2 h3 => ?_
  rw [sz] at h1 h2
  refine ⟨_, rfl, wpAny_pure ?_⟩
  rw [sz]
  exact hQ h' h1 h2 fun b o hb e => h3 b o hb (by rw [Heap.get?_update_ne _ _ _ _ hb]; exact e)
theorem pm_more {Q : Option Value → Shared → Prop} {ix cy : List Nat} (hit : IsPm s.heap it pt 1 n old ns) (hp : s.heap.get? pt = some (poolO acc)) (hn : acc.size = n) (h100 : n ≤ 100) (hpt : pt ≠ it) (hz : nxtP n n (ns.take n) (ns.drop n) = some (ix, cy)) (hl : (ix ++ cy).length ≤ 1000)
    (hQ : ∀ h', IsPm h' it pt 1 n (.ref s.heap.objs.size) (ix ++ cy) → h'.get? s.heap.objs.size = some (toldO acc (ix.take n)) → (∀ b o, b ≠ it → s.heap.get? b = some o → h'.get? b = some o) → Q (some (.ref s.heap.objs.size)) { s with heap := h' }) :
    wpAny (model prog w) A (pyNext (.ref it)) Q E s := by
  have hT : s.TypeIs (.ref it) "itertools.permutations" := ⟨_, hit, rfl⟩
  unfold pyNext
  refine wpAny_bind (wpAny_attempt (wpAny_callSpecial?_slot (name := Str.ofString "__next__") hT slot_pm_next (wpAny_call_entry slot_pm_next hT entry_pm_next ?_ (args_pm_next _))))
  show wpAny _ _ (field (.ref it) 0 >>= _) _ _ s
  refine wpAny_bind (wpAny_field hit rfl (x := .ref pt) rfl ?_)
  show wpAny _ _ (itPoolItems (.ref pt) >>= _) _ _ s
  unfold itPoolItems
  refine wpAny_bind (wpAny_bind (wpAny_seqItems hp rfl (wpAny_pure ?_)))
  refine wpAny_bind ?_
  unfold itIntField
  refine wpAny_bind (wpAny_field hit rfl (x := rawInt n) rfl (wpAny_pure ?_))
  refine wpAny_bind ?_
  unfold itNumbersFrom
  refine wpAny_bind (wpAny_load hit (wpAny_pure ?_))
  have nb := nums_back ns (.ref pt) (rawInt 1) (rawInt n) old
  generalize hz' : (List.map _ (List.drop 4 _) : List Nat) = numbers
  have ez : numbers = ns := hz'.symm.trans nb
  rw [ez]
  clear hz' nb ez
  refine wpAny_bind (wpAny_bind (wpAny_field hit rfl (x := rawInt 1) rfl (wpAny_pure ?_)))
  show wpAny _ _ (match (_ : Option (List Nat × List Nat)) with | some (i, c) => _ | none => _) _ _ _
  subst hn
  split
  · rename_i i c heq
    have e : nxtP acc.size acc.size (ns.take acc.size) (ns.drop acc.size) = some (i, c) := Eq.trans (by kernel_rfl) heq
    rw [hz] at e
    cases e
    refine wpAny_bind ?_
    unfold itSetNumbersFrom
    refine wpAny_updateFields hit rfl ?_ ?_
    · have hit2 : IsPm (s.heap.update it (Obj.mapFields fun fs => fs.extract 0 4 ++ ((ix ++ cy).map fun (n : Nat) => rawInt n).toArray)) it pt 1 acc.size old (ix ++ cy) := by
        unfold IsPm
        rw [Heap.get?_update_self _ hit rfl]
        show some (Obj.mapFields _ (pmO pt 1 acc.size old ns)) = _
        unfold Obj.mapFields
        show some _ = _
        simp only [set_nums]
      have sz : (s.heap.update it (Obj.mapFields fun fs => fs.extract 0 4 ++ ((ix ++ cy).map fun (n : Nat) => rawInt n).toArray)).objs.size = s.heap.objs.size := Heap.size_update ..
      refine pm_result (acc := acc) (ix := ix.take acc.size) hit2 (by rw [List.length_take]; rw [List.length_append] at hl; omega) fun h' h1 h2 h3 => ?_
      rw [sz] at h1 h2
      refine ⟨_, rfl, wpAny_pure ?_⟩
      rw [sz]
      exact hQ h' h1 h2 fun b o hb e => h3 b o hb (by rw [Heap.get?_update_ne _ _ _ _ hb]; exact e)
    · show (_ ++ _ : Array Value).size ≤ _
      rw [set_nums, List.size_toArray, List.length_append, List.length_map, sizeLine_eq]
      show 4 + _ ≤ _
      omega
  · rename_i heq
    have e : nxtP acc.size acc.size (ns.take acc.size) (ns.drop acc.size) = none := Eq.trans (by kernel_rfl) heq
    rw [hz] at e
    cases e
theorem pm_end {Q : Option Value → Shared → Prop} (hh : A.handled = none) (hit : IsPm s.heap it pt 1 n old ns) (hp : s.heap.get? pt = some (poolO acc)) (hn : acc.size = n) (hz : nxtP n n (ns.take n) (ns.drop n) = none)
    (hQ : ∀ h', (∀ b o, b ≠ it → s.heap.get? b = some o → h'.get? b = some o) → Q none { s with heap := h' }) :
    wpAny (model prog w) A (pyNext (.ref it)) Q E s := by
  have hT : s.TypeIs (.ref it) "itertools.permutations" := ⟨_, hit, rfl⟩
  unfold pyNext
  refine wpAny_bind (wpAny_attempt (wpAny_callSpecial?_slot (name := Str.ofString "__next__") hT slot_pm_next (wpAny_call_entry slot_pm_next hT entry_pm_next ?_ (args_pm_next _))))
  show wpAny _ _ (field (.ref it) 0 >>= _) _ _ s
  refine wpAny_bind (wpAny_field hit rfl (x := .ref pt) rfl ?_)
  show wpAny _ _ (itPoolItems (.ref pt) >>= _) _ _ s
  unfold itPoolItems
  refine wpAny_bind (wpAny_bind (wpAny_seqItems hp rfl (wpAny_pure ?_)))
  refine wpAny_bind ?_
  unfold itIntField
  refine wpAny_bind (wpAny_field hit rfl (x := rawInt n) rfl (wpAny_pure ?_))
  refine wpAny_bind ?_
  unfold itNumbersFrom
  refine wpAny_bind (wpAny_load hit (wpAny_pure ?_))
  have nb := nums_back ns (.ref pt) (rawInt 1) (rawInt n) old
  generalize hz' : (List.map _ (List.drop 4 _) : List Nat) = numbers
  have ez : numbers = ns := hz'.symm.trans nb
  rw [ez]
  clear hz' nb ez
  refine wpAny_bind (wpAny_bind (wpAny_field hit rfl (x := rawInt 1) rfl (wpAny_pure ?_)))
  show wpAny _ _ (match (_ : Option (List Nat × List Nat)) with | some (i, c) => _ | none => _) _ _ _
  subst hn
  split
  · rename_i i c heq
    have e : nxtP acc.size acc.size (ns.take acc.size) (ns.drop acc.size) = some (i, c) := Eq.trans (by kernel_rfl) heq
    rw [hz] at e
    cases e
  · refine wpAny_bind (wpAny_setField hit rfl (by simp) ?_)
    unfold itStop
    simp only [newExc, newTuple]
    refine wpAny_bind ?_
    refine wpAny_bind (wpAny_newObj_type ?_ (by size_fits))
    refine wpAny_bind (m := firstArgMember _ _) (wpAny_of_eq (a := Value.none) (by first | rfl | (simp only [firstArgMember]; rfl)) ?_)
    refine wpAny_newObj_type ?_ (by size_fits)
    simp only [raiseNew]
    refine wpAny_bind (wpAny_handled ?_)
    first | rw [show A.in1.handled = none from hh] | rw [hh]
    refine wpAny_bind (wpAny_pure (wpAny_throw ?_))
    refine wpAny_bind (wpAny_isInstance (T := "StopIteration") (b := true) ⟨_, Heap.get?_push_size _ rfl, rfl⟩ isSubtype_stop ?_)
    refine wpAny_pure (hQ _ fun b o hb e => ?_)
    exact Heap.get?_push_of_some _ (Heap.get?_push_of_some _ (by rw [Heap.get?_update_ne _ _ _ _ hb]; exact e))
end
end Pm
end
section
open PySem PySem.Spec PySem.Builtin PySem.Builtin.Itertools
namespace Pm
section
variable {prog : Program} {w : World} {A : Around} {E : Value → Shared → Prop} {s : Shared} {it pt r : Addr} {n : Nat} {old : Value} {ns : List Nat} {acc : Array Value} {t u v : Tok}
theorem iter_pm {st : Int} {Q : Value → Shared → Prop} (hit : IsPm s.heap it pt st n old ns) (h : Q (.ref it) s) : wpAny (model prog w) A (pyIter (.ref it)) Q E s := by
  have hT : s.TypeIs (.ref it) "itertools.permutations" := ⟨_, hit, rfl⟩
  refine wpAny_pyIter_slot hT slot_pm_iter (wpAny_call_entry slot_pm_iter hT entry_pm_iter ?_ (args_pm_iter _))
  show wpAny _ _ (ret (.ref it)) _ _ s
  exact wpAny_pure ⟨_, rfl, "itertools.permutations", _, hT, slot_pm_next.lookup, h⟩
theorem call_pm {Q : Value → Shared → Prop} (hh : A.handled = none) (hr : IsRange s.heap r 0 (n : Int) 1 t u v) (hsmall : Builtin.Range.small 0 (n : Int) 1 = true) (hn : Builtin.Range.rangeSize 0 (n : Int) 1 = n) (hlen : n ≤ 100)
    (h : ∀ (hm : Heap) (tk : Nat) (acc : Array Value), (∀ b o, s.heap.get? b = some o → hm.get? b = some o) → ItemsOf (fun i v => ∃ t, v = .int (0 + i * 1) t) acc n → Q (.ref (hm.objs.size + 1)) { s with heap := (hm.push (poolO acc)).push (pmO hm.objs.size 0 n .none ((List.range n) ++ (List.range n).map fun i => n - i)), toks := tk }) :
    wpAny (model prog w) A (call (.type "itertools.permutations") [.ref r]) Q E s := by
  have hh1 : A.in1.handled = none := hh
  refine PySem.ks_callType_codesW (Q₁ := fun obj s1 => s1.TypeIs obj "itertools.permutations" ∧ Q obj s1) called_pm (fun {Q'} {E'} hq => wpAny_of_eq (typeCall_pm _) hq) F.entry_object_init (code_pm_new hh1 hr hsmall hn hlen fun hm tk acc hk hi => ?_) fun obj s1 h1 => ?_
  · refine ⟨⟨pmO hm.objs.size 0 n .none ((List.range n) ++ (List.range n).map fun i => n - i), ?_, rfl⟩, h hm tk acc hk hi⟩
    have e1 : (hm.push (poolO acc)).objs.size = hm.objs.size + 1 := by simp [Heap.push]
    rw [← e1]
    exact Heap.get?_push_size _ rfl
  · exact ⟨h1.1, F.args_object_init_2 obj _, object_init_meets called_pm.init.lookup called_pm.made (by decide +kernel) _ _ _ _ _ ⟨h1.1, rfl, h1.2⟩⟩
end
/-! the numbers at each turn -/
def runP (n : Nat) : Nat → List Nat → List (List Nat)
  | 0, ns => [ns]
  | k + 1, ns => ns :: match nxtP n n (ns.take n) (ns.drop n) with
    | none => []
    | some (i, c) => runP n k (i ++ c)
def permsN (n : Nat) : List (List Nat) := runP n 720 ((List.range n) ++ (List.range n).map fun i => n - i)
theorem runP_zero (n : Nat) : ∀ k ns, (runP n k ns)[0]? = some ns
  | 0, _ => rfl
  | _ + 1, _ => rfl
theorem runP_next (n : Nat) : ∀ (k i : Nat) (ns ms : List Nat), (runP n k ns)[i]? = some ms → i < k →
    (match nxtP n n (ms.take n) (ms.drop n) with | none => (runP n k ns)[i + 1]? = none | some (a, c) => (runP n k ns)[i + 1]? = some (a ++ c))
  | 0, i, ns, ms, _, h => absurd h (Nat.not_lt_zero _)
  | k + 1, 0, ns, ms, e, _ => by
    have e1 : ns = ms := Option.some.inj e
    subst e1
    unfold runP
    cases hn : nxtP n n (ns.take n) (ns.drop n) with
    | none => rfl
    | some p =>
      obtain ⟨a, c⟩ := p
      show (runP n k (a ++ c))[0]? = _
      exact runP_zero n k _
  | k + 1, i + 1, ns, ms, e, h => by
    unfold runP at e ⊢
    cases hn : nxtP n n (ns.take n) (ns.drop n) with
    | none =>
      rw [hn] at e
      simp at e
    | some p =>
      obtain ⟨a, c⟩ := p
      rw [hn] at e
      have e' : (runP n k (a ++ c))[i]? = some ms := e
      exact runP_next n k i (a ++ c) ms e' (by omega)
theorem nxtP_len {n : Nat} : ∀ {i : Nat} {a c a' c' : List Nat}, i ≤ n → nxtP n i a c = some (a', c') → a.length = n → a'.length = n
  | 0, a, c, a', c', _, h, _ => by unfold nxtP at h; cases h
  | i + 1, a, c, a', c', hi, h, hl => by
    unfold nxtP at h
    by_cases z : (c.getD i 0 - 1 == 0) = true
    · simp only [z, if_true] at h
      refine nxtP_len (by omega) h ?_
      rw [List.length_append, List.length_append, List.length_take, List.length_drop]
      simp
      omega
    · simp only [z] at h
      cases h
      rw [List.length_set, List.length_set]
      exact hl
/-- what is asked of so many places: all ends in time, the numbers are as many as they must be -/
def permOk (n : Nat) : Bool := decide ((permsN n).length ≤ 720) && (permsN n).all fun ns => decide (ns.length = 2 * n) && (ns.take n).all fun i => decide (i < n)
theorem permOk_small : ∀ n, n ≤ 6 → permOk n = true := by
  intro n hn
  match n, hn with
  | 0, _ => decide +kernel
  | 1, _ => decide +kernel
  | 2, _ => decide +kernel
  | 3, _ => decide +kernel
  | 4, _ => decide +kernel
  | 5, _ => decide +kernel
  | 6, _ => decide +kernel
end Pm
end
section
open Pm
theorem permOk_len {n : Nat} (h : permOk n = true) : (permsN n).length ≤ 720 := by
  unfold permOk at h
  rw [Bool.and_eq_true, decide_eq_true_iff] at h
  exact h.1
theorem permOk_at {n : Nat} (h : permOk n = true) {ns : List Nat} (hn : ns ∈ permsN n) : ns.length = 2 * n ∧ ∀ i ∈ ns.take n, i < n := by
  unfold permOk at h
  rw [Bool.and_eq_true] at h
  have h2 := List.all_eq_true.mp h.2 ns hn
  rw [Bool.and_eq_true, decide_eq_true_iff] at h2
  exact ⟨h2.1, fun i hi => of_decide_eq_true (List.all_eq_true.mp h2.2 i hi)⟩
/-- the orders of 0 .. n - 1, each in a new tuple -/
def Itp (n : Nat) : It :=
  ⟨fun i _ => i < (permsN n).length, fun i H v H' => ∃ T ns, v = .ref T ∧ H T = none ∧ H' = upd H T (.tup ((ns.take n).map fun (j : Nat) => V.int j)) ∧ (permsN n)[i]? = some ns, fun i _ => (permsN n).length ≤ i⟩
def PmAt (n : Nat) (it pt : Addr) (i : Nat) (h : Heap) : Prop := ∃ (st : Int) (old : Value) (ns : List Nat) (acc : Array Value), IsPm h it pt st n old ns ∧ h.get? pt = some (poolO acc) ∧ ItemsOf (fun i v => ∃ t, v = .int (0 + i * 1) t) acc n ∧ it ≠ pt ∧
  ((i = 0 ∧ st = 0 ∧ (permsN n)[0]? = some ns) ∨ ∃ j, i = j + 1 ∧ st = 1 ∧ (permsN n)[j]? = some ns)
theorem told_rel {n : Nat} {acc : Array Value} (hi : ItemsOf (fun i v => ∃ t, v = .int (0 + i * 1) t) acc n) : ∀ {ix : List Nat}, (∀ i ∈ ix, i < n) → Vals (ix.map fun (j : Nat) => V.int j) (ix.map fun i => acc.getD i .none)
  | [], _ => .nil
  | i :: ix, h => by
    refine .cons ?_ (told_rel hi fun z hz => h z (List.mem_cons_of_mem _ hz))
    have hlt : i < acc.size := by
      rw [hi.1]
      exact h i List.mem_cons_self
    obtain ⟨t, e⟩ := hi.2 i acc[i] (Array.getElem?_eq_getElem hlt)
    refine ⟨t, ?_⟩
    show acc.getD i .none = .int (i : Int) t
    have : acc.getD i .none = acc[i] := by simp [Array.getD, hlt]
    rw [this, e]
    congr 1
    omega
theorem turn_perm {P : Program} {w : World} {K : PySem.W.Frag} {tg : Expr} {n : Nat} (it pt : Addr) (ok : permOk n = true) (n6 : n ≤ 100) : Turn P w K tg (Itp n) [it, pt] it (PmAt n it pt) where
  mem := by simp
  obj := fun i h st b hb => by
    obtain ⟨st, old, ns, acc, h1, h2, _⟩ := st
    have e' : b = it ∨ b = pt := by simpa using hb
    rcases e' with z | z
    · rw [z]; exact ⟨_, h1, fun v q => nomatch q⟩
    · rw [z]; exact ⟨_, h2, fun v q => nomatch q⟩
  keep := fun i h h' st k => by
    obtain ⟨st, old, ns, acc, h1, h2, r⟩ := st
    exact ⟨st, old, ns, acc, k it (by simp) _ h1, k pt (by simp) _ h2, r⟩
  item := by
    intro X hP hw hK hc i pins s σ H E I hf st hg
    subst hP hw hK
    obtain ⟨st, old, ns, acc, hit, hp, hi, hne, hcase⟩ := st
    have hg : i < (permsN n).length := hg
    have l720 := permOk_len ok
    have fin : ∀ (ms : List Nat) (h' : Heap), (permsN n)[i]? = some ms → IsPm h' it pt 1 n (.ref s.heap.objs.size) ms → h'.get? s.heap.objs.size = some (toldO acc (ms.take n)) → (∀ b o, b ≠ it → s.heap.get? b = some o → h'.get? b = some o) →
        ∃ u, some (Value.ref s.heap.objs.size) = some u ∧ wpAny (model X.prog X.w) X.A (letOwnedTupleGo tg (.ref it) u) (fun _ s2 => ∃ x H', Inv X pins σ H' s2 ∧ RelV x u ∧ (Itp n).yld i H x H' ∧ PmAt n it pt (i + 1) s2.heap ∧ ∀ b ∈ [it, pt], H' b = none) E { s with heap := h' } := by
      intro ms h' e h1 h2 h3
      have hin := permOk_at ok (List.mem_of_getElem? e)
      refine ⟨_, rfl, go_of (s := { s with heap := h' }) h1 rfl rfl (by decide) ?_⟩
      have new : ObjOk X.prog X.w (upd H s.heap.objs.size (.tup ((ms.take n).map fun (j : Nat) => V.int j))) h' s.heap.objs.size (.tup ((ms.take n).map fun (j : Nat) => V.int j)) :=
        ⟨by rw [List.length_map, List.length_take, sizeLine_eq]; omega, (ms.take n).map fun i => acc.getD i .none, told_rel hi hin.2, ⟨_, h2, rfl, _, rfl⟩⟩
      have I1 : Inv X pins σ (upd H s.heap.objs.size (.tup ((ms.take n).map fun (j : Nat) => V.int j))) { s with heap := h', toks := s.toks } :=
        I.turnedNew (ch := [it, pt]) (fun b ob hb q => h3 b ob (fun z => hb (by simp [z])) q) hf (Nat.le_refl _) new
      refine ⟨.ref s.heap.objs.size, _, I1, rfl, ⟨_, ms, rfl, I.hok.fresh (Nat.le_refl _), rfl, e⟩, ⟨1, _, ms, acc, h1, h3 pt _ (Ne.symm hne) hp, hi, hne, .inr ⟨i, rfl, rfl, e⟩⟩, fun b hb => ?_⟩
      have e' : b = it ∨ b = pt := by simpa using hb
      have hlt : b < s.heap.objs.size := by
        rcases e' with z | z
        · rw [z]; exact Heap.lt_size hit
        · rw [z]; exact Heap.lt_size hp
      rw [upd_ne (Nat.ne_of_lt hlt)]
      exact (hf b hb).1
    rcases hcase with ⟨rfl, rfl, e⟩ | ⟨j, rfl, rfl, e⟩
    · have hin := permOk_at ok (List.mem_of_getElem? e)
      exact pm_first hit hp hi.1 n6 (Ne.symm hne) (by omega) fun h' h1 h2 h3 => fin ns h' e h1 h2 h3
    · have nx := runP_next n 720 j _ ns e (by omega)
      cases hn : nxtP n n (ns.take n) (ns.drop n) with
      | none =>
        rw [hn] at nx
        have nx : (permsN n)[j + 1]? = none := nx
        rw [List.getElem?_eq_getElem hg] at nx
        cases nx
      | some p =>
        obtain ⟨ix, cy⟩ := p
        rw [hn] at nx
        have nx : (permsN n)[j + 1]? = some (ix ++ cy) := nx
        have hin := permOk_at ok (List.mem_of_getElem? nx)
        have lix : ix.length = n := nxtP_len (Nat.le_refl n) hn (by have := permOk_at ok (List.mem_of_getElem? e); rw [List.length_take]; omega)
        refine pm_more hit hp hi.1 n6 (Ne.symm hne) hn (by omega) fun h' h1 h2 h3 => fin (ix ++ cy) h' nx h1 ?_ h3
        rw [h2]
        congr 2
        rw [List.take_append_of_le_length (by omega)]
  done := by
    intro X hP hw hK hc i pins s σ H E I hf st hg
    subst hP hw hK
    obtain ⟨st, old, ns, acc, hit, hp, hi, hne, hcase⟩ := st
    have hg : (permsN n).length ≤ i := hg
    have l720 := permOk_len ok
    obtain ⟨f0, f1, f2, f3, f4, f5⟩ := hf it (by simp)
    rcases hcase with ⟨rfl, rfl, e⟩ | ⟨j, rfl, rfl, e⟩
    · rw [List.getElem?_eq_none_iff.mpr hg] at e
      cases e
    · have hj := (List.getElem?_eq_some_iff.mp e).1
      have nx := runP_next n 720 j _ ns e (by omega)
      cases hn : nxtP n n (ns.take n) (ns.drop n) with
      | none => exact pm_end (I.ok.hd hc) hit hp hi.1 hn fun h' k => ⟨rfl, I.turned (t' := s.toks) (fun b o hb q => k b o hb q) f0 f1 f3 f4 f5⟩
      | some p =>
        obtain ⟨ix, cy⟩ := p
        rw [hn] at nx
        have nx : (permsN n)[j + 1]? = some (ix ++ cy) := nx
        rw [List.getElem?_eq_none_iff.mpr hg] at nx
        cases nx
  self := fun A i s Q E st h => by
    obtain ⟨st, old, ns, acc, hit, _⟩ := st
    exact iter_pm hit h
def iPerm (te : L2.St → Hp → (Int → Int → Hp → Prop) → Prop) : TI := fun σ H R => te σ H fun a b H1 => ∃ n : Nat, a = 0 ∧ b = (n : Int) ∧ n ≤ 6 ∧ R (Itp n) H1
theorem pi_perm {X : Cx} {tg e : Expr} {te : L2.St → Hp → (Int → Int → Hp → Prop) → Prop} {p pos : Pos} (hc : X.calm = true) (hg : Gl X "permutations") (hm : X.mg "permutations" = some (.type "itertools.permutations")) (he : PRg X e te)
    (na : starEach [e] X.env = (false, eval e X.env) :: starEach [] X.env := by rfl) : PI X tg (.Call (.Name "permutations" p) [e] [] pos) (iPerm te) := by
  refine ⟨fun pins s σ H R I h => ?_⟩
  refine Call_ (ld_glob I hg hm (PyProof.Rows.callWith_type1 (PyProof.Rows.args_cons (thn (he pins s σ H _ I h) fun x s1 ⟨r, a, b, t, u, v, H1, ex, hr, I1, n, ea, eb, n6, q⟩ => PyProof.Rows.args_nil ?_) na) na rfl))
  subst ex ea eb
  have rs := rangeSize_nat 0 (n : Int)
  rw [show ((n : Int) - 0).toNat = n by omega] at rs
  refine call_pm (I1.ok.hd hc) hr (small_one (by omega) (by omega) (by omega) (by omega)) rs (by omega) fun hmm tk acc hk hi => ?_
  have I2 : Inv X pins σ H1 { s1 with heap := hmm, toks := tk } := I1.kept hk
  have e1 : (hmm.push (poolO acc)).objs.size = hmm.objs.size + 1 := by simp [Heap.push]
  have hit : ((hmm.push (poolO acc)).push (pmO hmm.objs.size 0 n .none ((List.range n) ++ (List.range n).map fun i => n - i))).get? (hmm.objs.size + 1) = some (pmO hmm.objs.size 0 n .none ((List.range n) ++ (List.range n).map fun i => n - i)) := by
    rw [← e1]
    exact Heap.get?_push_size _ rfl
  have hp : ((hmm.push (poolO acc)).push (pmO hmm.objs.size 0 n .none ((List.range n) ++ (List.range n).map fun i => n - i))).get? hmm.objs.size = some (poolO acc) := Heap.get?_push_of_some _ (Heap.get?_push_size _ rfl)
  have I3 : Inv X pins σ H1 { s1 with heap := (hmm.push (poolO acc)).push (pmO hmm.objs.size 0 n .none ((List.range n) ++ (List.range n).map fun i => n - i)), toks := tk } := I2.kept fun b o e => Heap.get?_push_of_some _ (Heap.get?_push_of_some _ e)
  refine iter_pm hit ⟨hmm.objs.size + 1, [hmm.objs.size + 1, hmm.objs.size], _, _, H1, rfl, I3, turn_perm _ hmm.objs.size (permOk_small n n6) (by omega), ⟨0, .none, _, acc, hit, hp, hi, Nat.succ_ne_self _, .inl ⟨rfl, rfl, runP_zero n 720 _⟩⟩, fun b hb => ?_, q⟩
  have e' : b = hmm.objs.size + 1 ∨ b = hmm.objs.size := by simpa using hb
  have hle : hmm.objs.size ≤ b := by
    rcases e' with z | z
    · rw [z]; exact Nat.le_add_right _ _
    · rw [z]; exact Nat.le_refl _
  exact I2.fpOk hle (I2.hok.fresh hle)
end
/-! ### {a list of ints} in an f-string: some text of bounded length -/
namespace Fl
open PySem PySem.Spec PyProof.Rows
section
variable {prog : Program} {w : World} {A : Around} {E : Value → Shared → Prop} {s : Shared} {a : Addr} {oa : Obj} {x : Value} {l : List Value} {na : Nat} {ts : List Str}
theorem repr_fin {R : Result → Shared → Prop} (ha : s.heap.get? a = some oa) (hda : oa.data = .seq (x :: l).toArray na) (hlen : ts.length = (x :: l).toArray.size)
    (hT : ∀ (i : Nat) (y : Value), (x :: l).toArray[i]? = some y → ∃ t, ts[i]? = some t ∧ ReprIs prog w y t)
    (hR : ∀ m h' u tk, m.length ≤ (listText ts).length + 5 → (∀ b o, s.heap.get? b = some o → h'.get? b = some o) → R (.ok (.ret (.str m u))) { s with heap := h', toks := tk }) (hsz : (listText ts).length ≤ sizeLine) :
    wpAny (model prog w) A.in1 (Builtin.listReprAt 0 ⟨[.ref a], []⟩)
      (fun fin s' => match fin with | .done f => R (.ok f) s' | .again c' => c'.quiet = true ∧ codeAny (model prog w) A c' R s') (fun e s' => R (.error e) s') s := by
  unfold Builtin.listReprAt
  show wpAny _ _ (Builtin.List.listItems (.ref a) >>= _) _ _ s
  unfold Builtin.List.listItems
  refine wpAny_bind (wpAny_bind (wpAny_seqItems ha hda (wpAny_pure ?_)))
  refine PySem.W.KFB.if_not rfl ?_
  refine wpAny_bind (wpAny_stack_any fun st => ?_)
  refine wpAny_ite_split (fun _ => ?_) (fun _ => ?_)
  · refine wpAny_bind (wpAny_rule ?_)
    refine wpAny_bind (wpAny_mkStr (wpAny_pure ?_) (by decide +kernel))
    exact hR "[...]" _ _ _ (Nat.le_trans (by decide +kernel) (Nat.le_add_left _ _)) fun b o e => e
  · refine wpAny_bind (m := newList []) (wpAny_newObj_type ?_)
    refine wpAny_pure ⟨F.quiet_list_repr_loop _, ?_⟩
    refine codeAny_list_repr_start (b := 0) (P := s.heap.objs.size) (Nat.ne_of_lt (Heap.lt_size ha)) hlen hT (Heap.get?_push_of_some _ ha) hda (Heap.get?_push_size _ rfl) (fun h' u tk hk => ?_) (by omega)
    exact hR _ h' u tk (Nat.le_add_right _ _) fun b o e => hk b o (Nat.ne_of_lt (Heap.lt_size e)) (Heap.get?_push_of_some _ e)
theorem call_repr {Q : Value → Shared → Prop} (hTy : s.TypeIs (.ref a) "list") (ha : s.heap.get? a = some oa) (hda : oa.data = .seq (x :: l).toArray na) (hlen : ts.length = (x :: l).toArray.size)
    (hT : ∀ (i : Nat) (y : Value), (x :: l).toArray[i]? = some y → ∃ t, ts[i]? = some t ∧ ReprIs prog w y t)
    (hQ : ∀ m h' u tk, m.length ≤ (listText ts).length + 5 → (∀ b o, s.heap.get? b = some o → h'.get? b = some o) → Q (.str m u) { s with heap := h', toks := tk }) (hsz : (listText ts).length ≤ sizeLine) :
    wpAny (model prog w) A (call (.builtin "list.__repr__") [.ref a]) Q E s :=
  wpAny_call (codeAny_call_builtin F.slot_list_repr.plain F.entry_list_repr (F.slot_list_repr.check _ _ _ _ _ _ _ _ hTy (F.args_list_repr_1 _)
    (repr_fin (R := fun r s' => match r with | .ok (.ret v) => Q v s' | .ok _ => False | .error e => E e s') ha hda hlen hT hQ hsz)))
/-- the signs of a list's text -/
theorem textFrom_up : ∀ (ts : List Str) (k : Nat) (acc : Str), (textFrom k acc ts).length ≤ acc.length + piled ts
  | [], k, acc => Nat.le_add_right _ _
  | t :: ts, k, acc => by
    have h := textFrom_up ts (k + 1) (acc ++ (if k > 0 then ", " else "" : String) ++ t)
    have e : ((if k > 0 then ", " else "" : String) : Str).length ≤ 2 := by split <;> decide +kernel
    rw [strLen_append, strLen_append] at h
    rw [piled_cons]
    show (textFrom (k + 1) _ ts).length ≤ _
    omega
theorem listText_up (ts : List Str) : (listText ts).length ≤ piled ts + 2 := by
  unfold listText
  rw [strLen_append]
  have h := textFrom_up ts 0 "["
  have e1 : (("[" : String) : Str).length = 1 := rfl
  have e2 : (("]" : String) : Str).length = 1 := rfl
  omega
end
end Fl
section
/-- {l}, l a list of ints -/
def tFmtL (K : PySem.W.Frag) (te : TE) : TE := fun σ H Q => te σ H fun x H1 => ∃ (a : Addr) (ns : List Int), x = .ref a ∧ SqL K H1 a (ns.map V.int) ∧ ns.length ≤ 64 ∧ (∀ n ∈ ns, n.natAbs.log2 < 1920) ∧ ∀ m : Str, m.length ≤ 200000 → Q (.str m) H1
theorem ints_repr {prog : Program} {w : World} : ∀ {ns : List Int} {its : List Value}, Vals (ns.map V.int) its → (∀ n ∈ ns, n.natAbs.log2 < 1920) → ∃ ts : List Str, ts.length = its.length ∧ piled ts ≤ 1923 * ns.length ∧ ∀ (i : Nat) (y : Value), its[i]? = some y → ∃ t, ts[i]? = some t ∧ ReprIs prog w y t
  | [], _, r, _ => by
    cases r
    exact ⟨[], rfl, Nat.le_refl _, fun i y e => by simp at e⟩
  | n :: ns, _, r, h => by
    cases r with
    | cons r1 r2 =>
      obtain ⟨t, rfl⟩ := r1
      obtain ⟨ts, l1, l2, l3⟩ := ints_repr (prog := prog) (w := w) r2 fun z hz => h z (List.mem_cons_of_mem _ hz)
      have hn := h n List.mem_cons_self
      refine ⟨Str.ofString (toString n) :: ts, by rw [List.length_cons, List.length_cons, l1], ?_, fun i y e => ?_⟩
      · rw [piled_cons, List.length_cons]
        have := int_text_length_le (k := 1920) (by decide) hn
        rw [PySem.ofString_length]
        omega
      · cases i with
        | zero =>
          simp at e
          subst e
          exact ⟨_, rfl, ReprIs.int t hn⟩
        | succ i => simpa using l3 i y (by simpa using e)
theorem pe_fmtL {X : Cx} {te : TE} {e : Expr} {pos : Pos} {k : Nat} (hr : Room k X.A) (he : PE X e te) : PE X (.FormattedValue e (-1) none pos) (tFmtL X.K te) := by
  refine ⟨fun pins s σ H Q I h => ?_⟩
  refine wpAny_FormattedValue_plain (thn (he.run pins s σ H _ I h) fun v s1 hv => ?_)
  obtain ⟨x, H1, I1, r1, a, ns, rfl, hl, h64, hb, q⟩ := hv
  cases r1
  obtain ⟨its, rv, ⟨⟨oc, od, odt, osl⟩, n, ho, hcl, hdn, hd⟩, hz⟩ := I1.list hl
  have hd : odt = .seq its.toArray n := hd
  have hcl : oc = .type "list" := hcl
  have hdn : od = none := hdn
  subst hd hcl hdn
  have hu := hr.units
  obtain ⟨ts, l1, l2, l3⟩ := ints_repr (prog := X.prog) (w := X.w) rv hb
  have up := Fl.listText_up ts
  refine wpAny_formatField_slot (fun _ _ => nofun) (by omega) ⟨_, ho, rfl⟩ F.slot_list_format F.slot_list_str F.slot_list_repr.toG ?_
  cases its with
  | nil =>
    refine call_list_repr_empty (s := { s1 with toks := s1.toks + 1 }) ⟨_, ho, rfl⟩ ho rfl ?_
    exact ⟨"[]", _, rfl, .str "[]", H1, I1.tok _, ⟨_, rfl⟩, q "[]" (by decide +kernel)⟩
  | cons y r =>
    refine Fl.call_repr (s := { s1 with toks := s1.toks + 1 }) (ts := ts) ⟨_, ho, rfl⟩ ho rfl (by rw [l1, List.size_toArray]) (fun i z e => l3 i z (by simpa using e)) (fun m h' u tk hm hk => ?_) (by rw [sizeLine_eq]; omega)
    exact ⟨m, u, rfl, .str m, H1, I1.kept hk, ⟨u, rfl⟩, q m (by omega)⟩
end
/-! ### orders: the mathematics -/
def rankO (o : List Int) (x : Int) : Int := ((o.idxOf x : Nat) : Int)
def standsO (row o : List Int) : List Int := o.map fun p => rankO o (goK row p)
def keepsR (row o : List Int) : Bool := decide ((standsO row o).Pairwise (· ≤ ·))
/-- the first move that doesn't keep the order -/
def fbN (ms : List Mv) (o : List Int) : Option Nat := ms.findIdx? fun mv => !keepsR mv.2 o
def fbV (ms : List Mv) (o : List Int) : V := match fbN ms o with
  | none => .non
  | some k => .int (k : Int)
def isOrd (many : Nat) (o : List Int) : Prop := o.Perm (ids many)
theorem isOrd.mem {many : Nat} {o : List Int} (h : isOrd many o) {x : Int} : x ∈ o ↔ 0 ≤ x ∧ x < (many : Int) := (h.mem_iff).trans mem_ids
theorem isOrd.len {many : Nat} {o : List Int} (h : isOrd many o) : o.length = many := by
  rw [h.length_eq]
  unfold ids
  rw [List.length_map, List.length_range]
theorem ix_at {o : List Int} {x : Int} (h : x ∈ o) : (o.map V.int)[o.idxOf x]? = some (.int x) := by
  have hl : o.idxOf x < o.length := List.idxOf_lt_length_of_mem h
  rw [List.getElem?_map, List.getElem?_eq_getElem hl, List.getElem_idxOf hl]
  rfl
theorem ix_before {o : List Int} {x : Int} {m : Nat} {z : V} (hm : m < o.idxOf x) (e : (o.map V.int)[m]? = some z) : eqV z (.int x) = false := by
  rw [List.getElem?_map] at e
  obtain ⟨y, hy, rfl⟩ := Option.map_eq_some_iff.mp e
  obtain ⟨lt, e2⟩ := List.getElem?_eq_some_iff.mp hy
  have : y ≠ x := by
    intro z
    have h := List.not_of_lt_findIdx (p := (· == x)) (xs := o) hm
    rw [e2, z] at h
    simp at h
  show (y == x) = false
  exact beq_eq_false_iff_ne.mpr this
theorem flat_ints (ns : List Int) : (ns.map V.int).all flatV = true := List.all_eq_true.mpr fun v hv => by
  obtain ⟨n, _, rfl⟩ := List.mem_map.mp hv
  rfl
theorem sort_same : ∀ {xs ys : List Int}, xs.Perm ys → xs.Pairwise (· ≤ ·) → ys.Pairwise (· ≤ ·) → xs = ys
  | [], ys, h, _, _ => (List.nil_perm.mp h).symm
  | x :: xs, [], h, _, _ => absurd h.symm.nil_eq (by simp)
  | x :: xs, y :: ys, h, hx, hy => by
    obtain ⟨x1, x2⟩ := List.pairwise_cons.mp hx
    obtain ⟨y1, y2⟩ := List.pairwise_cons.mp hy
    have e : x = y := by
      have m1 := h.mem_iff.mp (List.mem_cons_self (a := x) (l := xs))
      have m2 := h.mem_iff.mpr (List.mem_cons_self (a := y) (l := ys))
      rcases List.mem_cons.mp m1 with a | a
      · exact a
      · rcases List.mem_cons.mp m2 with b | b
        · exact b.symm
        · have := x1 y b
          have := y1 x a
          omega
    subst e
    rw [sort_same (List.Perm.cons_inv h) x2 y2]
theorem ids_le (many : Nat) : (ids many).Pairwise (· ≤ ·) := List.Pairwise.imp (fun {a b} (h : a < b) => (by omega : a ≤ b)) (ids_pair many)
/-- sorted is all places in turn just for an order -/
theorem sorted_ids {many : Nat} {o zs : List Int} (hp : zs.Perm o) (hs : zs.Pairwise (· ≤ ·)) : (zs = ids many) ↔ isOrd many o := by
  constructor
  · intro e
    subst e
    exact hp.symm
  · intro h
    exact sort_same (hp.trans h) hs (ids_le many)
theorem goK_ord {many : Nat} {row o : List Int} (hr : GoodRow many row) (ho : isOrd many o) {p : Int} (hp : p ∈ o) : goK row p ∈ o := ho.mem.mpr (goK_in' hr (ho.mem.mp hp).1 (ho.mem.mp hp).2)
section
variable {P : Program} {w : World} {K : PySem.W.Frag} {mg : Str → Option Value} {base : Heap} {C : Addr}
/-! ### _keeps -/
theorem scKe : FnScope ["whither", "order", "stands", "place"] ["whither", "order"] (defScope sKeeps) := ⟨rfl, rfl, rfl, by decide +kernel, rfl, by decide +kernel, by decide +kernel⟩
def spKe : Sp := fun vs H Q _ => ∃ (wa l : Addr) (many : Nat) (row o : List Int), vs = [.ref wa, .ref l] ∧ H wa = some (.tup (row.map V.int)) ∧ H l = some (.lst (o.map V.int)) ∧ many ≤ 6 ∧ GoodRow many row ∧ isOrd many o ∧ ∀ H', Same H H' → Q (.bl (keepsR row o)) H'
theorem ok_keeps {k : Nat} {f : Addr} {fd : FuncData} (F : Fun K "_keeps" "_keeps" sKeeps f fd) (ms' : mg "sorted" = none) : FnOk P w K mg base CX0 (k + 1) f fd ["whither", "order"] spKe := by
  refine F.ok scKe (fun vs H Q E h => ?_) (fun cdv A outer s H vs Q E hr h => ?_)
  · obtain ⟨wa, l, many, row, o, rfl, _⟩ := h
    rfl
  · obtain ⟨wa, l, many, row, o, rfl, hw, hl, m6, hrow, ho, q⟩ := h
    have hu := hu64 hr
    refine ⟨_, (pss_cons (ps_setLc (i := 2) (own := [("place", 3)]) (g := gName 3) (tt := tYes) (te := (tBM K "list" (rIndex K) (tVar 1) (tCons (tOp (rIxT K) (tVar 0) (tVar 3)) tNil))) rfl scKe.nd rfl rfl (sw_true rfl rfl rfl (by decide +kernel)) (pi_list (pv 1)) (blkOk_by (N := ["whither", "order", "stands", "place"]) (sc := defScope sKeeps) (by decide +kernel)) (fun _ _ _ _ _ => by exact (pg_name (i := 3) scKe.nd rfl (.inl rfl))) (fun _ _ _ _ _ => pts_nil) (fun _ _ _ _ _ => by exact (pe_bm PySem.F.plainAttrs_list PySem.F.slot_list_index PySem.F.type_list_index mt_index (pv 1) (pa_cons (pe_ix ix_tup (pv 0) (pv 3) (fun _ _ => rfl)) pa_nil))))
      (pss_one (ps_ret (pe_cmpR (op_eqD hu) (pv 2) (pe_callB cr_sorted (by rfl) ms' (by decide +kernel) (pa_cons (pv 2) pa_nil)) (nomark _))))), ?_⟩
    have lo := ho.len
    refine ⟨.ref l, rfl, l, rfl, ⟨_, SqL.of hl⟩, fun D nD => ?_⟩
    refine lc_list (K := K) (a := l) (xs := o.map V.int) (fun i H' => Same H H' ∧ H' D = some (.lst (((standsO row o).take i).map V.int))) ⟨same_new nD, by rw [List.take_zero]; exact upd_same⟩ (fun i H' _ h => SqL.of (h.1 _ _ hl)) ?_ ?_
    · rintro i v H1 hv ⟨s1, hD⟩
      rw [List.getElem?_map] at hv
      obtain ⟨p, hp, rfl⟩ := Option.map_eq_some_iff.mp hv
      have hpo := List.mem_of_getElem? hp
      obtain ⟨p0, p1⟩ := ho.mem.mp hpo
      have hg := goK_ord hrow ho hpo
      refine ⟨rfl, .ref l, rfl, .inl ⟨rfl, _, SqL.of (s1 _ _ hl)⟩, .ref wa, rfl, .int p, rfl, wa, _, p, _, rfl, rfl, SqT.of (s1 _ _ hw), at_of (show p = ((p.toNat : Nat) : Int) by omega) (at_goK p0 (by rw [hrow.1]; omega)), ?_⟩
      refine ⟨l, _, .int (goK row p), o.idxOf (goK row p), _, rfl, rfl, SqL.of (s1 _ _ hl), rfl, flat_ints o, ix_at hg, beq_self_eq_true _, fun m z hm e => ix_before hm e, ?_⟩
      refine ⟨_, hD, by rw [List.length_map, List.length_take]; exact small8 (Nat.le_trans (Nat.min_le_right _ _) (by unfold standsO; rw [List.length_map]; omega)), fun b u e => by rw [upd_ne (ne_of_none e nD)]; exact s1 _ _ e, ?_⟩
      have e1 : (standsO row o)[i]? = some (rankO o (goK row p)) := by
        unfold standsO
        rw [List.getElem?_map, hp]
        rfl
      rw [upd_same, take_snoc e1, List.map_append]
      rfl
    · rintro H1 ⟨s1, hD⟩
      rw [List.length_map, List.take_of_length_le (by unfold standsO; rw [List.length_map]; exact Nat.le_refl _)] at hD
      refine ⟨.ref D, rfl, .ref D, rfl, D, _, rfl, SqL.of hD, by unfold standsO; rw [List.length_map]; omega, fun zs L hp hs nL => ?_⟩
      have s2 := same_new (o := .lst (zs.map V.int)) nL
      refine ⟨_, _, dp_lst (s2 _ _ hD), dp_lst upd_same, (Sh.lst _).shaped (by decide), (Sh.lst _).shaped (by decide), ?_⟩
      rw [eqv_lst]
      have e : decide (standsO row o = zs) = keepsR row o := by
        unfold keepsR
        refine decide_eq_decide.mpr ⟨fun e => ?_, fun h => ?_⟩
        · rw [e]
          exact hs
        · exact sort_same hp.symm h hs
      rw [e]
      exact q _ (s1.trans s2)
end
section
variable {P : Program} {w : World} {K : PySem.W.Frag} {mg : Str → Option Value} {base : Heap} {C : Addr}
/-! ### _first_breaking, keeps_order, first_order -/
theorem scFb : FnScope ["chain", "order", "number", "_", "whither"] ["chain", "order"] (defScope sFirstBreaking) := ⟨rfl, rfl, rfl, by decide +kernel, rfl, by decide +kernel, by decide +kernel⟩
def spFb (C : Addr) : Sp := fun vs H Q _ => ∃ (x l : Addr) (many : Nat) (ms : List Mv) (o : List Int), vs = [.ref x, .ref l] ∧ ChainAt C H x many ms ∧ Good many ms ∧ H l = some (.lst (o.map V.int)) ∧ isOrd many o ∧ ∀ H', Same H H' → Q (fbV ms o) H'
theorem findIdx_none {α : Type} {l : List α} {p : α → Bool} (h : ∀ x ∈ l, p x = false) : l.findIdx? p = none := List.findIdx?_eq_none_iff.mpr h
theorem findIdx_at {α : Type} {l : List α} {p : α → Bool} {i : Nat} {x : α} (e : l[i]? = some x) (hp : p x = true) (hb : ∀ j y, j < i → l[j]? = some y → p y = false) : l.findIdx? p = some i := by
  obtain ⟨lt, e2⟩ := List.getElem?_eq_some_iff.mp e
  refine List.findIdx?_eq_some_iff_getElem.mpr ⟨lt, by rw [e2]; exact hp, fun j hj => ?_⟩
  rw [hb j _ hj (List.getElem?_eq_getElem (by omega))]
  exact Bool.false_ne_true
theorem ok_fb {f fK fP fT : Addr} {fd fdK fdP fdT : FuncData} (F : Fun K "_first_breaking" "_first_breaking" sFirstBreaking f fd) (DK : Df K mg "_keeps" sKeeps ["whither", "order"] fK fdK) (T : ChM K C fP fT fdP fdT) (ms' : mg "sorted" = none) (mL : mg "list" = none) (mr : mg "range" = none) (mE : mg "enumerate" = none) : FnOk P w K mg base CX0 2 f fd ["chain", "order"] (spFb C) := by
  have GK : FnOk P w K mg base CX0 1 fK fdK ["whither", "order"] spKe := ok_keeps DK.F ms'
  have GT : FnOk P w K mg base CX0 1 fT fdT ["self"] (spTold C) := ok_told T.FT T.cl T.nV mL
  have GP : FnOk P w K mg base CX0 1 fP fdP ["self"] (spPlaces C) := ok_places T.FP T.cl T.nM
  refine F.ok scFb (fun vs H Q E h => ?_) (fun cdv A outer s H vs Q E hr h => ?_)
  · obtain ⟨x, l, many, ms, o, rfl, _⟩ := h
    rfl
  · obtain ⟨x, l, many, ms, o, rfl, hC, G, hl, ho, q⟩ := h
    have hu := hu64 hr
    have r1 : Room 1 _ := hr.mono (by decide)
    refine ⟨_, (pss_cons (ps_if (pt_cmpR (op_neD hu) (pe_callB cr_sorted (by rfl) ms' (by decide +kernel) (pa_cons (pv 1) pa_nil)) (pe_listRg rfl (by rfl) mL (prg_1 (by rfl) mr (pe_meth0 (pv 0) T.cl T.hP GP r1 T.bP .nil pass0))) (nomark _)) pss_never pss_nil)
      (pss_cons (ps_for PassesOwn.never rfl (pi_enum (by rfl) mE (pa_cons (pe_meth0 (pv 0) T.cl T.hT GT r1 T.bT .nil pass0) pa_nil)) (pg_tup rfl (pgs_cons (pg_name (i := 2) scFb.nd rfl (.inl rfl)) (pgs_cons (pg_tup rfl (pgs_cons (pg_name (i := 3) scFb.nd rfl (.inl rfl)) (pgs_cons (pg_name (i := 4) scFb.nd rfl (.inl rfl)) pgs_nil))) pgs_nil))) (pss_one (ps_if (pt_not (pt_val (pe_call GK hr (by rfl) DK.g DK.F.kp DK.b .nil pass0 (pa_cons (pv 4) (pa_cons (pv 1) pa_nil))))) (pss_one (ps_ret (pv 2))) pss_nil)))
      (pss_one (ps_ret pe_non)))), ?_⟩
    have m1 := G.m1
    have m6 := G.m6
    have l8 := G.l8
    have lo := ho.len
    refine ⟨.ref l, rfl, l, _, rfl, SqL.of hl, by omega, fun zs L hp hs nL => ?_⟩
    have s1 := same_new (o := .lst (zs.map V.int)) nL
    have hL1 : (upd H L (.lst (zs.map V.int))) L = some (.lst (zs.map V.int)) := upd_same
    generalize upd H L (.lst (zs.map V.int)) = H1 at s1 hL1 ⊢
    have hC1 := hC.same s1
    obtain ⟨dx, a0, ws, h1, h2, h3⟩ := id hC1
    refine ⟨.ref x, rfl, x, dx, _, rfl, h1, ch_no, x, many, ms, rfl, hC1, _, rfl, RgOk.of_le (by omega) (by omega) (by omega) (by omega), fun L2 nL2 => ?_⟩
    rw [rg_ends]
    have s2 := same_new (o := .lst (((List.range many).map fun (i : Nat) => (i : Int)).map V.int)) nL2
    have e1 : zs = (List.range many).map fun (i : Nat) => (i : Int) := (sorted_ids hp hs).mpr ho
    refine ne_same (d := .list (zs.map PyData.int)) (dp_lst (s2 _ _ hL1)) (by rw [e1]; exact dp_lst upd_same) (Sh.lst _) (by decide) ⟨false, rfl, iteF ?_⟩
    have s12 := s1.trans s2
    have hC2 := hC1.same s2
    have hl2 := s12 _ _ hl
    generalize upd H1 L2 (.lst (((List.range many).map fun (i : Nat) => (i : Int)).map V.int)) = H2 at s12 hC2 hl2 ⊢
    obtain ⟨dx, a0, ws, h1, h2, h3⟩ := id hC2
    refine ⟨.ref x, rfl, x, dx, _, rfl, h1, ch_noT, x, many, ms, rfl, hC2, fun m wl nm hM => ?_⟩
    have s3 := s12.trans (same_new (o := .lst wl) nm)
    have hm3 : (upd H2 m (.lst wl)) m = some (.lst wl) := upd_same
    generalize upd H2 m (.lst wl) = H3 at s3 hM hm3 ⊢
    refine ⟨m, wl, rfl, SqL.of hm3, for_it (walk_enum (K := K) (a := m) (xs := wl)) (fun i σ H' => ∃ y2 y3 y4, σ = [some (.ref x), some (.ref l), y2, y3, y4] ∧ Same H3 H' ∧ ∀ j mv, j < i → ms[j]? = some mv → keepsR mv.2 o = true) ⟨none, none, none, rfl, Same.refl _, fun j mv h => absurd h (Nat.not_lt_zero _)⟩ (fun i σ H' hi ⟨_, _, _, _, s, _⟩ => SqL.of (s _ _ hm3)) ?_ ?_⟩
    · rintro i z σ H4 H5 hi ⟨y2, y3, y4, rfl, s4, hbef⟩ ⟨Tp, u, v, rfl, nT, rfl, eu, ev⟩
      have eu' : u = .int (i : Int) := (Option.some.inj eu).symm
      subst eu'
      obtain ⟨mv, emv, hmv⟩ := hM.get' ev
      have sT := s4.trans (same_new (o := .tup [.int (i : Int), v]) nT)
      obtain ⟨ta, tb, rfl, hta, htb⟩ := hmv.same (Same.tups sT)
      have gm := G.mv mv (List.mem_of_getElem? emv)
      refine ⟨Tp, [.int (i : Int), .ref ta], rfl, SqT.of upd_same, rfl, .int (i : Int), [.ref ta], rfl, .ref ta, [], rfl, ?_⟩
      refine ⟨ta, [.int mv.1, .ref tb], rfl, SqT.of hta, rfl, .int mv.1, [.ref tb], rfl, .ref tb, [], rfl, rfl, rfl, ?_⟩
      refine ⟨.ref tb, rfl, .ref l, rfl, tb, l, many, mv.2, o, rfl, htb, (s3.trans sT) _ _ hl, m6, gm.2.2, ho, fun H6 s6 => ?_⟩
      cases hk : keepsR mv.2 o with
      | true =>
        refine ⟨true, rfl, ?_⟩
        refine ⟨some (.int (i : Int)), some (.int mv.1), some (.ref tb), rfl, sT.trans s6, fun j mv' hj e => ?_⟩
        by_cases c : j < i
        · exact hbef j mv' c e
        · have ej : j = i := by omega
          rw [ej, emv] at e
          cases e
          exact hk
      | false =>
        refine ⟨false, rfl, iteT ⟨.int (i : Int), rfl, ?_⟩⟩
        have e2 : fbV ms o = .int (i : Int) := by
          unfold fbV fbN
          rw [findIdx_at (p := fun mv => !keepsR mv.2 o) emv (by rw [hk]; rfl) (fun j y hj e => by rw [hbef j y hj e]; rfl)]
        have := q H6 ((s3.trans sT).trans s6)
        rw [e2] at this
        exact this
    · rintro σ H4 ⟨y2, y3, y4, rfl, s4, hbef⟩
      have e2 : fbV ms o = .non := by
        unfold fbV fbN
        rw [findIdx_none fun mv hmv => ?_]
        obtain ⟨j, hj, e⟩ := List.getElem_of_mem hmv
        rw [hbef j mv (by rw [hM.length]; exact hj) (by rw [← e]; exact List.getElem?_eq_getElem hj)]
        rfl
      have := q H4 (s3.trans s4)
      rw [e2] at this
      exact this
/-! keeps_order -/
theorem scKo : FnScope ["chain", "order"] ["chain", "order"] (defScope sKeepsOrder) := ⟨rfl, rfl, rfl, by decide +kernel, rfl, by decide +kernel, by decide +kernel⟩
def spKo (C : Addr) : Sp := fun vs H Q _ => ∃ (x l : Addr) (many : Nat) (ms : List Mv) (o : List Int), vs = [.ref x, .ref l] ∧ ChainAt C H x many ms ∧ Good many ms ∧ H l = some (.lst (o.map V.int)) ∧ isOrd many o ∧ ∀ H', Same H H' → Q (.bl (decide (fbN ms o = none))) H'
theorem ok_ko {f fB : Addr} {fd fdB : FuncData} (F : Fun K "keeps_order" "keeps_order" sKeepsOrder f fd) (DB : Df K mg "_first_breaking" sFirstBreaking ["chain", "order"] fB fdB) (GB : FnOk P w K mg base CX0 2 fB fdB ["chain", "order"] (spFb C)) : FnOk P w K mg base CX0 3 f fd ["chain", "order"] (spKo C) := by
  refine F.ok scKo (fun vs H Q E h => ?_) (fun cdv A outer s H vs Q E hr h => ?_)
  · obtain ⟨x, l, many, ms, o, rfl, _⟩ := h
    rfl
  · obtain ⟨x, l, many, ms, o, rfl, hC, G, hl, ho, q⟩ := h
    refine ⟨_, pss_one (ps_ret (pe_cmpR op_isN (pe_call GB hr (by rfl) DB.g DB.F.kp DB.b .nil pass0 (pa_cons (pv 0) (pa_cons (pv 1) pa_nil))) pe_non (nomark _))), ?_⟩
    refine ⟨.ref x, rfl, .ref l, rfl, x, l, many, ms, o, rfl, hC, G, hl, ho, fun H1 s1 => ⟨rfl, ?_⟩⟩
    have e : decide (fbV ms o = .non) = decide (fbN ms o = none) := by
      unfold fbV
      cases fbN ms o with
      | none => rfl
      | some k => rw [decide_eq_false (by simp), decide_eq_false (by simp)]
    rw [e]
    exact q H1 s1
/-! first_order -/
theorem scFo : FnScope ["chain", "places", "order"] ["chain"] (defScope sFirstOrder) := ⟨rfl, rfl, rfl, by decide +kernel, rfl, by decide +kernel, by decide +kernel⟩
/-- all orders, the least ones first -/
def ordsL (many : Nat) : List (List Int) := (Pm.permsN many).map fun ns => (ns.take many).map fun (j : Nat) => (j : Int)
def foL (many : Nat) (ms : List Mv) : Option (List Int) := (ordsL many).find? fun o => decide (fbN ms o = none)
theorem ordsL_ok : ∀ many, many ≤ 6 → ((ordsL many).all fun o => o.isPerm (ids many)) = true := by
  intro n hn
  match n, hn with
  | 0, _ => decide +kernel
  | 1, _ => decide +kernel
  | 2, _ => decide +kernel
  | 3, _ => decide +kernel
  | 4, _ => decide +kernel
  | 5, _ => decide +kernel
  | 6, _ => decide +kernel
theorem ordsL_ord {many : Nat} (m6 : many ≤ 6) {o : List Int} (h : o ∈ ordsL many) : isOrd many o := List.isPerm_iff.mp (List.all_eq_true.mp (ordsL_ok many m6) o h)
def ListOr (H : Hp) (v : V) (r : Option (List Int)) : Prop := match r with
  | none => v = .non
  | some o => ∃ a, v = .ref a ∧ H a = some (.lst (o.map V.int))
def spFo (C : Addr) : Sp := fun vs H Q _ => ∃ (x : Addr) (many : Nat) (ms : List Mv), vs = [.ref x] ∧ ChainAt C H x many ms ∧ Good many ms ∧ ∀ v H', Same H H' → ListOr H' v (foL many ms) → Q v H'
theorem ok_fo {f fK fP fT : Addr} {fd fdK fdP fdT : FuncData} (F : Fun K "first_order" "first_order" sFirstOrder f fd) (DKo : Df K mg "keeps_order" sKeepsOrder ["chain", "order"] fK fdK) (GKo : FnOk P w K mg base CX0 3 fK fdK ["chain", "order"] (spKo C)) (T : ChM K C fP fT fdP fdT) (mL : mg "list" = none) (mr : mg "range" = none) (mP : mg "permutations" = some (.type "itertools.permutations")) : FnOk P w K mg base CX0 4 f fd ["chain"] (spFo C) := by
  have GP : FnOk P w K mg base CX0 1 fP fdP ["self"] (spPlaces C) := ok_places T.FP T.cl T.nM
  refine F.ok scFo (fun vs H Q E h => ?_) (fun cdv A outer s H vs Q E hr h => ?_)
  · obtain ⟨x, many, ms, rfl, _⟩ := h
    rfl
  · obtain ⟨x, many, ms, rfl, hC, G, q⟩ := h
    have r1 : Room 1 _ := hr.mono (by decide)
    refine ⟨_, (pss_cons (ps_for PassesOwn.never rfl (pi_perm rfl (by rfl) mP (prg_1 (by rfl) mr (pe_meth0 (pv 0) T.cl T.hP GP r1 T.bP .nil pass0))) (pg_name (i := 1) scFo.nd rfl (.inl rfl)) (pss_cons (ps_set (i := 2) scFo.nd rfl (.inl rfl) (pe_callTy call_list_of (by rfl) mL (by decide +kernel) (pa_cons (pv 1) pa_nil)))
      (pss_one (ps_if (pt_val (pe_call GKo hr (by rfl) DKo.g DKo.F.kp DKo.b .nil pass0 (pa_cons (pv 0) (pa_cons (pv 2) pa_nil)))) (pss_one (ps_ret (pv 2))) pss_nil))))
      (pss_one (ps_ret pe_non))), ?_⟩
    have m6 := G.m6
    obtain ⟨dx, a0, ws, h1, h2, h3⟩ := id hC
    refine ⟨.ref x, rfl, x, dx, _, rfl, h1, ch_no, x, many, ms, rfl, hC, _, rfl, many, rfl, rfl, m6, ?_⟩
    have lenO : (ordsL many).length = (Pm.permsN many).length := by
      unfold ordsL
      rw [List.length_map]
    refine ⟨fun i m σ H' => m = (Pm.permsN many).length - i ∧ i ≤ (Pm.permsN many).length ∧ ∃ y1 y2, σ = [some (.ref x), y1, y2] ∧ Same H H' ∧ ∀ j o, j < i → (ordsL many)[j]? = some o → fbN ms o ≠ none, ⟨_, rfl, Nat.zero_le _, none, none, rfl, Same.refl _, fun j o h => absurd h (Nat.not_lt_zero _)⟩, ?_⟩
    rintro i m σ H1 ⟨rfl, hi, y1, y2, rfl, s1, hbef⟩
    by_cases lt : i < (Pm.permsN many).length
    · refine .inr ⟨lt, fun σ H' => i + 1 ≤ (Pm.permsN many).length ∧ ∃ y1 y2, σ = [some (.ref x), y1, y2] ∧ Same H H' ∧ ∀ j o, j < i + 1 → (ordsL many)[j]? = some o → fbN ms o ≠ none, fun σ' H' h => ⟨_, by omega, rfl, h⟩, ?_⟩
      rintro v H2 ⟨Tp, ns, rfl, nT, rfl, en⟩
      have eo : (ordsL many)[i]? = some ((ns.take many).map fun (j : Nat) => (j : Int)) := by
        unfold ordsL
        rw [List.getElem?_map, en]
        rfl
      have ho := ordsL_ord m6 (List.mem_of_getElem? eo)
      have em : (ns.take many).map (fun (j : Nat) => V.int j) = ((ns.take many).map fun (j : Nat) => (j : Int)).map V.int := by rw [List.map_map]; rfl
      rw [em]
      generalize (ns.take many).map (fun (j : Nat) => (j : Int)) = o at eo ho ⊢
      have s2 := s1.trans (same_new (o := .tup (o.map V.int)) nT)
      refine ⟨.ref Tp, rfl, Tp, _, rfl, .inr (SqT.of upd_same), fun L nL => ?_⟩
      have s3 := s2.trans (same_new (o := .lst (o.map V.int)) nL)
      refine ⟨.ref x, rfl, .ref L, rfl, x, L, many, ms, o, rfl, hC.same s3, G, upd_same, ho, fun H4 s4 => ⟨_, rfl, ?_⟩⟩
      by_cases c : fbN ms o = none
      · rw [decide_eq_true c]
        refine iteT ⟨.ref L, rfl, ?_⟩
        refine q _ _ (s3.trans s4) ?_
        have e : foL many ms = some o := by
          unfold foL
          rw [List.find?_eq_some_iff_getElem]
          obtain ⟨hl, e⟩ := List.getElem?_eq_some_iff.mp eo
          refine ⟨decide_eq_true c, i, hl, e, fun j hj => ?_⟩
          rw [decide_eq_false (hbef j _ hj (List.getElem?_eq_getElem (by omega)))]
          rfl
        rw [e]
        exact ⟨L, rfl, s4 _ _ upd_same⟩
      · rw [decide_eq_false c]
        refine iteF ⟨lt, _, _, rfl, s3.trans s4, fun j o' hj e => ?_⟩
        by_cases cj : j < i
        · exact hbef j o' cj e
        · have ej : j = i := by omega
          rw [ej, eo] at e
          cases e
          exact c
    · refine .inl ⟨by show (Pm.permsN many).length ≤ i; omega, ?_⟩
      refine q _ _ s1 ?_
      have e : foL many ms = none := by
        unfold foL
        refine List.find?_eq_none.mpr fun o ho => ?_
        obtain ⟨j, hj, e⟩ := List.getElem_of_mem ho
        rw [decide_eq_false (hbef j o (by omega) (by rw [← e]; exact List.getElem?_eq_getElem hj))]
        exact Bool.false_ne_true
      rw [e]
      exact rfl
end
section
variable {P : Program} {w : World} {K : PySem.W.Frag} {mg : Str → Option Value} {base : Heap} {C : Addr}
/-! ### what is no order is refused -/
theorem line400 {n : Nat} (h : n ≤ 400000) : n ≤ sizeLine := Nat.le_trans h (by decide)
theorem fitB {a b : Str} {m n : Nat} (h1 : a.length ≤ m) (h2 : b.length ≤ n) (h : m + n ≤ 400000) : (a ++ b).length ≤ sizeLine := Nat.le_trans (app_le h1 h2) (line400 h)
def NoOrd (many : Nat) (o : List Int) : Prop := ¬ isOrd many o ∧ o.length < 64 ∧ ∀ n ∈ o, n.natAbs ≤ 2000000
def spFbX (C CN : Addr) : Sp := fun vs H _ E => ∃ (x l : Addr) (many : Nat) (ms : List Mv) (o : List Int), vs = [.ref x, .ref l] ∧ ChainAt C H x many ms ∧ Good many ms ∧ H l = some (.lst (o.map V.int)) ∧ NoOrd many o ∧ ∀ H', Same H H' → E (.ref CN) none H'
theorem ok_fbX {f fP fT CN : Addr} {fd fdP fdT : FuncData} (F : Fun K "_first_breaking" "_first_breaking" sFirstBreaking f fd) (N : OwnE K mg "NoSuch" CN) (T : ChM K C fP fT fdP fdT) (ms' : mg "sorted" = none) (mL : mg "list" = none) (mr : mg "range" = none) : FnOk P w K mg base (L2.CX P w) 2 f fd ["chain", "order"] (spFbX C CN) := by
  have GP : FnOk P w K mg base CX0 1 fP fdP ["self"] (spPlaces C) := ok_places T.FP T.cl T.nM
  refine F.okX scFb (fun vs H Q E h => ?_) (fun cdv A outer s H vs Q E hr h => ?_)
  · obtain ⟨x, l, many, ms, o, rfl, _⟩ := h
    rfl
  · obtain ⟨x, l, many, ms, o, rfl, hC, G, hl, ⟨hno, h64, hsm⟩, q⟩ := h
    have hu := hu64 hr
    have r1 : Room 1 _ := hr.mono (by decide)
    refine ⟨_, pss_cons (ps_if (pt_cmpR (op_neD hu) (pe_callB cr_sorted (by rfl) ms' (by decide +kernel) (pa_cons (pv 1) pa_nil)) (pe_listRg rfl (by rfl) mL (prg_1 (by rfl) mr (pe_meth0 (pv 0) T.cl T.hP GP r1 T.bP .nil pass0))) (nomark _))
        (pss_one (ps_raise rfl (takes_of rfl rfl rfl rfl) (SkE.pmk_own1 PySem.F.excBase_ValueError N.x N.g N.k (raises_own N.b N.t) (by exact rfl) (pe_joined (.cons (pe_fmtL hr (pv 1)) (.cons pe_str (.cons (pe_fmt (pe_meth0 (pv 0) T.cl T.hP GP r1 T.bP .nil pass0)) (.cons pe_str .nil)))))))) pss_nil)
      pss_never, ?_⟩
    have m1 := G.m1
    have m6 := G.m6
    refine ⟨.ref l, rfl, l, _, rfl, SqL.of hl, h64, fun zs L hp hs nL => ?_⟩
    have s1 := same_new (o := .lst (zs.map V.int)) nL
    have hL1 : (upd H L (.lst (zs.map V.int))) L = some (.lst (zs.map V.int)) := upd_same
    generalize upd H L (.lst (zs.map V.int)) = H1 at s1 hL1 ⊢
    have hC1 := hC.same s1
    obtain ⟨dx, a0, ws, h1, h2, h3⟩ := id hC1
    refine ⟨.ref x, rfl, x, dx, _, rfl, h1, ch_no, x, many, ms, rfl, hC1, _, rfl, RgOk.of_le (by omega) (by omega) (by omega) (by omega), fun L2 nL2 => ?_⟩
    rw [rg_ends]
    have s2 := same_new (o := .lst (((List.range many).map fun (i : Nat) => (i : Int)).map V.int)) nL2
    have e1 : zs ≠ (List.range many).map fun (i : Nat) => (i : Int) := fun z => hno ((sorted_ids hp hs).mp z)
    refine ⟨_, _, dp_lst (s2 _ _ hL1), dp_lst upd_same, (Sh.lst _).shaped (by decide), (Sh.lst _).shaped (by decide), ?_⟩
    rw [eqv_lst, decide_eq_false e1]
    refine ⟨_, rfl, iteT ?_⟩
    have s12 := s1.trans s2
    have hC2 := hC1.same s2
    have hl2 := s12 _ _ hl
    generalize upd H1 L2 (.lst (((List.range many).map fun (i : Nat) => (i : Int)).map V.int)) = H2 at s12 hC2 hl2 ⊢
    obtain ⟨dx, a0, ws, h1, h2, h3⟩ := id hC2
    have hg : ((many : Nat) : Int).natAbs.log2 < 1920 := log_small (by omega)
    refine ⟨.ref l, rfl, l, o, rfl, SqL.of hl2, by omega, fun n hn => log_small (hsm n hn), fun m hm => ?_⟩
    refine ⟨m, rfl, Nat.le_trans (by show (Str.empty ++ m).length ≤ 0 + 200000; exact app_le (Nat.zero_le _) hm) (line400 (by decide)), ?_⟩
    have k0 : (Str.empty ++ m).length ≤ 200000 := by
      have := app_le (a := Str.empty) (b := m) (m := 0) (Nat.le_refl _) hm
      omega
    have k1 := app_le k0 (show (Str.ofString " is no order of ").length ≤ 100 by decide)
    refine ⟨_, rfl, line400 (Nat.le_trans k1 (by decide)), ?_⟩
    have k2 := app_le k1 (int_len hg)
    refine ⟨.ref x, rfl, x, dx, _, rfl, h1, ch_no, x, many, ms, rfl, hC2, .inr ⟨_, rfl, hg, _, rfl, line400 (Nat.le_trans k2 (by decide)), _, rfl, line400 (Nat.le_trans (app_le k2 (show (Str.ofString " places").length ≤ 100 by decide)) (by decide)), q _ s12⟩⟩
theorem ok_koX {f fB CN : Addr} {fd fdB : FuncData} (F : Fun K "keeps_order" "keeps_order" sKeepsOrder f fd) (DB : Df K mg "_first_breaking" sFirstBreaking ["chain", "order"] fB fdB) (GB : FnOk P w K mg base (L2.CX P w) 2 fB fdB ["chain", "order"] (spFbX C CN)) : FnOk P w K mg base (L2.CX P w) 3 f fd ["chain", "order"] (spFbX C CN) := by
  refine F.okX scKo (fun vs H Q E h => ?_) (fun cdv A outer s H vs Q E hr h => ?_)
  · obtain ⟨x, l, many, ms, o, rfl, _⟩ := h
    rfl
  · obtain ⟨x, l, many, ms, o, rfl, hC, G, hl, hno, q⟩ := h
    refine ⟨_, pss_one (ps_ret (pe_cmpR op_isN (pe_call GB hr (by rfl) DB.g DB.F.kp DB.b .nil (passes_call (takes_of rfl rfl rfl rfl) (fun _ _ _ _ h => h)) (pa_cons (pv 0) (pa_cons (pv 1) pa_nil))) pe_non (nomark _))), ?_⟩
    exact ⟨.ref x, rfl, .ref l, rfl, x, l, many, ms, o, rfl, hC, G, hl, hno, q⟩
/-! ### _law_refused -/
theorem scRf : FnScope ["_law_chain_here", "_law_order", "e"] ["_law_chain_here", "_law_order"] (defScope sLawRefused) := ⟨rfl, rfl, rfl, by decide +kernel, rfl, by decide +kernel, by decide +kernel⟩
def spRf (C : Addr) : Sp := fun vs H Q _ => ∃ (x l : Addr) (many : Nat) (ms : List Mv) (o : List Int), vs = [.ref x, .ref l] ∧ ChainAt C H x many ms ∧ Good many ms ∧ H l = some (.lst (o.map V.int)) ∧ NoOrd many o ∧ ∀ H', Q (.bl true) H'
theorem ok_refused {f fK CL CE c1 c2 c3 c4 c5 c6 : Addr} {fd fdK : FuncData} (F : Fun K "_law_refused" "_law_refused" sLawRefused f fd) (R : RefG K mg "NoSuch" "BadChain" "BadText" "NeverOne" "NotOne" "NotOrdered" "TooMany" CL CE c1 c2 c3 c4 c5 c6)
    (kK : PySem.W.keepIn K (.ref fK) = true) (bK : Binds K fdK ["chain", "order"] []) (gK : mg "keeps_order" = some (.ref fK)) (GK : FnOk P w K mg base (L2.CX P w) 3 fK fdK ["chain", "order"] (spFbX C CE)) :
    FnOk P w K mg base CX0 4 f fd ["_law_chain_here", "_law_order"] (spRf C) := by
  refine F.ok scRf (fun vs H Q E h => ?_) (fun cdv A outer s H vs Q E hr h => ?_)
  · obtain ⟨x, l, many, ms, o, rfl, _⟩ := h
    rfl
  · obtain ⟨x, l, many, ms, o, rfl, hC, G, hl, hno, q⟩ := h
    refine ⟨_, pss_cons (ps_try_as (i := 2) (tb := fun W => tDrop (tCallS (spFbX C CE) (WE W) (tCons (tVar 0) (tCons (tVar 1) tNil))))
        (ts := fun a cls d D σ H => (cls = .ref CE ∧ d = none) ∧ t_suiteG K 2 CE c1 c2 c3 c4 c5 c6 a D σ H) (Wout := fun _ _ _ _ => False) rfl rfl scRf.nd rfl rfl ⟨rfl, by decide, .inl R.gL⟩ takes0
        (fun W pn xe tk _ => pss_one (ps_expr (by exact (pe_callS GK hr (by rfl) gK kK bK (fun σ => passAt tk σ) (by exact (pa_cons (pv 0) (pa_cons (pv 1) pa_nil)))))))
        (fun a oe cls d pn hz hf => pss_given fun hp => by
          obtain ⟨rfl, rfl⟩ := hp
          exact (pss_cons (ps_if (pt_val (pe_callB (call_exT R.E hz hf) (by rfl) R.mi (by decide +kernel) (pa_cons (pv 2) (pa_cons (pe_tup (pa_cons (pe_glob (v := .ref c1) (by rfl) R.g1 rfl) (pa_cons (pe_glob (v := .ref c2) (by rfl) R.g2 rfl) (pa_cons (pe_glob (v := .ref c3) (by rfl) R.g3 rfl) (pa_cons (pe_glob (v := .ref c4) (by rfl) R.g4 rfl) (pa_cons (pe_glob (v := .ref c5) (by rfl) R.g5 rfl) (pa_cons (pe_glob (v := .ref c6) (by rfl) R.g6 rfl) pa_nil))))))) pa_nil)))) (pss_one (ps_ret pe_bl)) pss_nil)
            (pss_one (ps_ret (pe_and (pe_callB (call_isE R.E hz hf) (by rfl) R.mi (by decide +kernel) (pa_cons (pv 2) (pa_cons (pe_glob (v := .ref CE) (by rfl) R.N.g rfl) pa_nil))) (pe_one (pe_callB (call_isE R.E hz hf) (by rfl) R.mi (by decide +kernel) (pa_cons (pv 2) (pa_cons (pe_bltn (v := .ty "ValueError") (by rfl) R.mv (by decide +kernel) rfl) pa_nil))))))))))
      (pss_one (ps_ret pe_bl)), ?_⟩
    refine ⟨.ref x, rfl, .ref l, rfl, x, l, many, ms, o, rfl, hC, G, hl, hno, fun H' s' => ?_⟩
    refine ⟨true, R.ex, fun _ a na => ⟨⟨rfl, rfl⟩, ?_⟩, fun z => nomatch z⟩
    exact suiteG R rfl fun p o np => q _
/-! ### _law_orders -/
def lawOrd (many : Nat) : Nat → List (List Int)
  | 0 => [[]]
  | t + 1 => (lawOrd many t).flatMap fun o => ((ids many).filter fun p => decide (p ∉ o)).map fun p => o ++ [p]
theorem lawOrd_ok : ∀ many, many ≤ 6 → lawOrd many many = ordsL many ∧ ((List.range (many + 1)).all fun t => decide ((lawOrd many t).length ≤ 720) && (lawOrd many t).all fun o => decide (o.length ≤ 6)) = true := by
  intro n hn
  match n, hn with
  | 0, _ => decide +kernel
  | 1, _ => decide +kernel
  | 2, _ => decide +kernel
  | 3, _ => decide +kernel
  | 4, _ => decide +kernel
  | 5, _ => decide +kernel
  | 6, _ => decide +kernel
theorem lawOrd_len {many t : Nat} (m6 : many ≤ 6) (ht : t ≤ many) : (lawOrd many t).length ≤ 720 ∧ ∀ o ∈ lawOrd many t, o.length ≤ 6 := by
  have h := List.all_eq_true.mp (lawOrd_ok many m6).2 t (List.mem_range.mpr (by omega))
  rw [Bool.and_eq_true, decide_eq_true_iff] at h
  exact ⟨h.1, fun o ho => of_decide_eq_true (List.all_eq_true.mp h.2 o ho)⟩
end
section
variable {P : Program} {w : World} {K : PySem.W.Frag} {mg : Str → Option Value} {base : Heap} {C : Addr}
theorem scOr : FnScope ["_law_many", "_law_found", "_law_turn", "_law_more", "_law_order", "_law_place"] ["_law_many"] (defScope sLawOrders) := ⟨rfl, rfl, rfl, by decide +kernel, rfl, by decide +kernel, by decide +kernel⟩
def spOr : Sp := fun vs H Q _ => ∃ many : Nat, vs = [.int (many : Int)] ∧ many ≤ 6 ∧ ∀ L H', Same H H' → H L = none → ListsAt H' L (lawOrd many many) → Q (.ref L) H'
def stepO (many : Nat) (o : List Int) : List (List Int) := ((ids many).filter fun p => decide (p ∉ o)).map fun p => o ++ [p]
theorem flatMap_take_le {α β : Type} (f : α → List β) (l : List α) (j : Nat) : ((l.take j).flatMap f).length ≤ (l.flatMap f).length := by
  have e : l.flatMap f = (l.take j).flatMap f ++ (l.drop j).flatMap f := by rw [← List.flatMap_append, List.take_append_drop]
  rw [e, List.length_append]
  omega
theorem inV_ints (o : List Int) (p : Int) : inV (.int p) (o.map V.int) = decide (p ∈ o) := by
  unfold inV
  induction o with
  | nil => rfl
  | cons a r ih =>
    rw [List.map_cons, List.any_cons, ih]
    by_cases c : p = a
    · subst c
      rw [decide_eq_true (List.mem_cons_self)]
      show ((p == p) || _) = true
      rw [beq_self_eq_true, Bool.true_or]
    · show ((a == p) || _) = _
      rw [beq_eq_false_iff_ne.mpr (Ne.symm c), Bool.false_or]
      exact decide_eq_decide.mpr ⟨fun h => List.mem_cons_of_mem _ h, fun h => (List.mem_cons.mp h).resolve_left c⟩
theorem ok_orders {k : Nat} {f : Addr} {fd : FuncData} (F : Fun K "_law_orders" "_law_orders" sLawOrders f fd) (mr : mg "range" = none) : FnOk P w K mg base CX0 (k + 1) f fd ["_law_many"] spOr := by
  refine F.ok scOr (fun vs H Q E h => ?_) (fun cdv A outer s H vs Q E hr h => ?_)
  · obtain ⟨many, rfl, _⟩ := h
    rfl
  · obtain ⟨many, rfl, m6, q⟩ := h
    refine ⟨_, (pss_cons (ps_set (i := 1) scOr.nd rfl (.inl rfl) (pe_lst (pa_cons (pe_lst pa_nil) pa_nil)))
      (pss_cons (ps_for PassesOwn.never rfl (pi_range1 (by rfl) mr (pa_cons (pv 0) pa_nil)) (pg_name (i := 2) scOr.nd rfl (.inl rfl)) (pss_cons (ps_set (i := 3) scOr.nd rfl (.inl rfl) (pe_lst pa_nil))
      (pss_cons (ps_for PassesOwn.never rfl (pi_list (pv 1)) (pg_name (i := 4) scOr.nd rfl (.inr rfl)) (pss_one (ps_set (i := 3) scOr.nd rfl (.inl rfl) (pe_op op_cat (pv 3) (pe_lc (own := [("_law_place", 5)]) (g := gName 5) (tt := (tTest (tOp (rIn K true) (tVar 5) (tVar 4)))) (te := (tOp rCat (tVar 4) (tLst (tCons (tVar 5) tNil)))) rfl scOr.nd (pi_range1 (by rfl) mr (pa_cons (pv 0) pa_nil)) (blkOk_by (N := ["_law_many", "_law_found", "_law_turn", "_law_more", "_law_order", "_law_place"]) (sc := defScope sLawOrders) (by decide +kernel)) (fun _ _ _ _ _ => by exact (pg_name (i := 5) scOr.nd rfl (.inl rfl))) (fun _ _ _ _ _ => by exact (pts_one (pt_cmpR op_notIn_seq (pv 5) (pv 4) (by with_unfolding_all rfl)))) (fun _ _ _ _ _ => by exact (pe_op op_cat (pv 4) (pe_lst (pa_cons (pv 5) pa_nil)))))))))
      (pss_one (ps_set (i := 1) scOr.nd rfl (.inl rfl) (pv 3))))))
      (pss_one (ps_ret (pv 1))))), ?_⟩
    have lid : (ids many).length = many := by
      unfold ids
      rw [List.length_map, List.length_range]
    refine ⟨Nat.zero_le _, fun e0 ne0 => ⟨(by show 1 ≤ sizeLine; decide), fun F0 nF => ?_⟩⟩
    have s0 := (same_new (o := .lst []) ne0).trans (same_new (o := .lst [.ref e0]) nF)
    have f0 : ListsAt (upd (upd H e0 (.lst [])) F0 (.lst [.ref e0])) F0 (lawOrd many 0) := ⟨_, upd_same, .cons ⟨e0, rfl, same_new nF _ _ upd_same⟩ .nil⟩
    refine ⟨.int (many : Int), rfl, _, rfl, by omega, by omega, ?_⟩
    refine for_range (lo := 0) (n := ((many : Nat) : Int).toNat) (fun i σ H' => ∃ y2 y3 y4 Fi, σ = [some (.int (many : Int)), some (.ref Fi), y2, y3, y4, none] ∧ Same H H' ∧ H Fi = none ∧ ListsAt H' Fi (lawOrd many i)) ⟨none, none, none, F0, rfl, s0, (same_new (o := .lst []) ne0).free nF, f0⟩ ?_ ?_
    · rintro i σ H1 hi ⟨y2, y3, y4, Fi, rfl, s1, nFi, hF⟩
      have im : i + 1 ≤ many := by omega
      obtain ⟨l720, l6⟩ := lawOrd_len m6 (show i ≤ many by omega)
      obtain ⟨l720', _⟩ := lawOrd_len m6 im
      obtain ⟨vf, hvf, hpf⟩ := id hF
      refine ⟨Nat.zero_le _, fun M0 nM => ?_⟩
      have s2 : Same H1 (upd H1 M0 (.lst [])) := same_new nM
      have nM0 := s1.free nM
      refine ⟨.ref Fi, rfl, Fi, rfl, ⟨_, SqL.of (s2 _ _ hvf)⟩, ?_⟩
      refine for_list (K := K) (a := Fi) (xs := vf) (fun j σ H' => ∃ y4 M', σ = [some (.int (many : Int)), some (.ref Fi), some (.int (0 + (i : Int))), some (.ref M'), y4, none] ∧ Same H1 H' ∧ H M' = none ∧ ListsAt H' M' (((lawOrd many i).take j).flatMap (stepO many))) ⟨y4, M0, rfl, s2, nM0, [], upd_same, .nil⟩ (fun j σ H' _ ⟨_, _, _, s, _⟩ => SqL.of (s _ _ hvf)) ?_ ?_
      · rintro j v σ H2 hv ⟨y4, M', rfl, s3, nM', hM'⟩
        obtain ⟨o, eo, oa, rfl, hoa⟩ : ∃ o, (lawOrd many i)[j]? = some o ∧ LstOf H1 v o := by
          have : ∀ {vs : List V} {gs : List (List Int)} {i : Nat} {v : V}, Paired (LstOf H1) vs gs → vs[i]? = some v → ∃ g, gs[i]? = some g ∧ LstOf H1 v g := by
            intro vs gs i v h
            induction h generalizing i with
            | nil => intro e; simp at e
            | @cons a b as bs hab t ih =>
              intro e
              cases i with
              | zero =>
                simp at e
                subst e
                exact ⟨b, rfl, hab⟩
              | succ i => simpa using ih (by simpa using e)
          exact this hpf hv
        have ho2 := s3 _ _ hoa
        have lo6 := l6 o (List.mem_of_getElem? eo)
        refine ⟨.ref M', rfl, .int (many : Int), rfl, _, rfl, by omega, by omega, fun D nD => ?_⟩
        refine lc_range (lo := 0) (n := ((many : Nat) : Int).toNat) (fun e H' => Same H2 H' ∧ ListsIn H' D ((((ids many).take e).filter fun p => decide (p ∉ o)).map fun p => o ++ [p])) ⟨same_new nD, [], upd_same, .nil⟩ ?_ ?_
        · rintro e H3 he ⟨s4, vs, hD, hpD⟩
          have eid : (ids many)[e]? = some (0 + (e : Int)) := by
            unfold ids
            rw [List.getElem?_map, List.getElem?_range (by omega), Int.zero_add]
            rfl
          have tk := filter_snoc (F := fun p => decide (p ∉ o)) eid
          have ho3 := s4 _ _ ho2
          refine ⟨rfl, .int (0 + (e : Int)), rfl, .ref oa, rfl, oa, _, rfl, .inl (SqL.of ho3), rfl, flat_ints o, ?_⟩
          rw [inV_ints]
          refine ⟨_, rfl, ?_⟩
          by_cases c : (0 + (e : Int)) ∈ o
          · rw [decide_eq_true c]
            refine iteF ?_
            refine ⟨s4, ?_⟩
            rw [tk, if_neg (by rw [decide_eq_false (fun z => z c)]; exact Bool.false_ne_true), List.append_nil]
            exact ⟨vs, hD, hpD⟩
          · rw [decide_eq_false c]
            refine iteT ?_
            refine ⟨.ref oa, rfl, .int (0 + (e : Int)), rfl, (by show 1 ≤ sizeLine; decide), fun c1 nc1 => ?_⟩
            refine ⟨oa, c1, _, _, rfl, rfl, same_new nc1 _ _ ho3, upd_same, le1k (by rw [List.length_map]; show o.length + 1 ≤ 1000; omega), fun c2 nc2 => ?_⟩
            have er : o.map V.int ++ [V.int (0 + (e : Int))] = (o ++ [0 + (e : Int)]).map V.int := by rw [List.map_append]; rfl
            rw [er]
            have s5 := (same_new (o := .lst [.int (0 + (e : Int))]) nc1).trans (same_new (o := .lst ((o ++ [0 + (e : Int)]).map V.int)) nc2)
            have hc2 : (upd (upd H3 c1 (.lst [.int (0 + (e : Int))])) c2 (.lst ((o ++ [0 + (e : Int)]).map V.int))) c2 = some (.lst ((o ++ [0 + (e : Int)]).map V.int)) := upd_same
            have nc2D : c2 ≠ D := fun z => by
              have := same_new (o := .lst [.int (0 + (e : Int))]) nc1 _ _ hD
              rw [← z, nc2] at this
              cases this
            generalize upd (upd H3 c1 (.lst [.int (0 + (e : Int))])) c2 (.lst ((o ++ [0 + (e : Int)]).map V.int)) = H4 at s5 hc2 ⊢
            have hD4 := s5 _ _ hD
            have lv : vs.length ≤ 6 := by
              rw [hpD.length, List.length_map]
              refine Nat.le_trans (List.length_filter_le _ _) ?_
              rw [List.length_take]
              omega
            refine ⟨vs, hD4, lt1k (by omega), fun b u eb => by rw [upd_ne (ne_of_none eb nD)]; exact s5 _ _ (s4 _ _ eb), ?_⟩
            rw [tk, if_pos (decide_eq_true c), List.map_append]
            exact ⟨_, upd_same, paired_end ⟨c2, rfl, nc2D, by rw [upd_ne nc2D]; exact hc2⟩ (L2.Paired.mapP hpD fun v xs ⟨a, h1, h2, h3⟩ => ⟨a, h1, h2, by rw [upd_ne h2]; exact s5 _ _ h3⟩)⟩
        · rintro H3 ⟨s4, hDD⟩
          rw [Int.toNat_natCast, List.take_of_length_le (by rw [lid]; exact Nat.le_refl _)] at hDD
          obtain ⟨vm, hvm, hpm⟩ := hM'.same s4
          obtain ⟨vd, hvd, hpd⟩ := hDD.at
          have lenT : ((lawOrd many i).take (j + 1)).flatMap (stepO many) = ((lawOrd many i).take j).flatMap (stepO many) ++ stepO many o := by
            rw [take_snoc eo, List.flatMap_append]
            simp
          have le := flatMap_take_le (stepO many) (lawOrd many i) (j + 1)
          have le720 : ((lawOrd many i).flatMap (stepO many)).length ≤ 720 := l720'
          have lenV : vm.length + vd.length ≤ 720 := by
            rw [hpm.length, hpd.length]
            rw [lenT, List.length_append] at le
            have : (((ids many).filter fun p => decide (p ∉ o)).map fun p => o ++ [p]).length = (stepO many o).length := rfl
            omega
          refine ⟨M', D, _, _, rfl, rfl, hvm, hvd, le1k (by omega), fun N nN => ?_⟩
          have s5 := same_new (o := .lst (vm ++ vd)) nN
          refine ⟨some (.ref oa), N, rfl, (s3.trans s4).trans s5, (s1.trans (s3.trans s4)).free nN, ?_⟩
          rw [lenT]
          exact ⟨_, upd_same, L2.Paired.mapP (paired_app hpm hpd) fun v xs ⟨a, h1, h2⟩ => ⟨a, h1, s5 _ _ h2⟩⟩
      · rintro σ H2 ⟨y4, M', rfl, s3, nM', hM'⟩
        refine ⟨.ref M', rfl, _, _, _, M', rfl, s1.trans s3, nM', ?_⟩
        rw [hpf.length, List.take_length] at hM'
        exact hM'
    · rintro σ H1 ⟨y2, y3, y4, Fi, rfl, s1, nFi, hF⟩
      rw [Int.toNat_natCast] at hF
      exact ⟨.ref Fi, rfl, q Fi H1 s1 nFi hF⟩
end
section
variable {P : Program} {w : World} {K : PySem.W.Frag} {mg : Str → Option Value} {base : Heap} {C : Addr}
/-! ### _law_keeps -/
theorem scLk : FnScope ["_law_told", "_law_order", "_law_move", "_law_k", "_law_ends"] ["_law_told", "_law_order"] (defScope sLawKeeps) := ⟨rfl, rfl, rfl, by decide +kernel, rfl, by decide +kernel, by decide +kernel⟩
theorem chain_le : ∀ {xs : List Int}, (∀ (k : Nat) (a b : Int), xs[k]? = some a → xs[k + 1]? = some b → a ≤ b) → xs.Pairwise (· ≤ ·)
  | [], _ => .nil
  | [x], _ => List.pairwise_singleton _ _
  | x :: y :: r, h => by
    have ih := chain_le (xs := y :: r) fun k a b h1 h2 => h (k + 1) a b h1 h2
    refine List.pairwise_cons.mpr ⟨fun z hz => ?_, ih⟩
    have xy := h 0 x y rfl rfl
    rcases List.mem_cons.mp hz with e | hz
    · rw [e]
      exact xy
    · exact Int.le_trans xy ((List.pairwise_cons.mp ih).1 z hz)
theorem fbN_none {ms : List Mv} {o : List Int} : fbN ms o = none ↔ ∀ mv ∈ ms, keepsR mv.2 o = true := by
  unfold fbN
  rw [List.findIdx?_eq_none_iff]
  constructor
  · intro h mv hm
    have := h mv hm
    cases hk : keepsR mv.2 o with
    | true => rfl
    | false =>
      rw [hk] at this
      cases this
  · intro h mv hm
    rw [h mv hm]
    rfl
def spLk : Sp := fun vs H Q _ => ∃ (t l m : Addr) (many : Nat) (ws : List V) (ms : List Mv) (o : List Int), vs = [.ref t, .ref l] ∧ ToldAt H t m many ws ms ∧ Good many ms ∧ H l = some (.lst (o.map V.int)) ∧ isOrd many o ∧ ∀ H', Same H H' → Q (.bl (decide (fbN ms o = none))) H'
theorem standsO_at {row o : List Int} {k : Nat} {p : Int} (h : o[k]? = some p) : (standsO row o)[k]? = some (rankO o (goK row p)) := by
  unfold standsO
  rw [List.getElem?_map, h]
  rfl
theorem ok_lawkeeps {k : Nat} {f : Addr} {fd : FuncData} (F : Fun K "_law_keeps" "_law_keeps" sLawKeeps f fd) (mr : mg "range" = none) (ml : mg "len" = none) : FnOk P w K mg base CX0 (k + 1) f fd ["_law_told", "_law_order"] spLk := by
  refine F.ok scLk (fun vs H Q E h => ?_) (fun cdv A outer s H vs Q E hr h => ?_)
  · obtain ⟨t, l, m, many, ws, ms, o, rfl, _⟩ := h
    rfl
  · obtain ⟨t, l, m, many, ws, ms, o, rfl, hT, G, hl, ho, q⟩ := h
    refine ⟨_, (pss_cons (ps_for PassesOwn.never rfl (pi_list (pe_ix ix_tup (pv 0) pe_int (fun _ _ => rfl))) (pg_name (i := 2) scLk.nd rfl (.inl rfl)) (pss_one (ps_for PassesOwn.never rfl (pi_range1 (by rfl) mr (pa_cons (pe_op op_sub (pe_callB call_len_seq (by rfl) ml PySem.boot_len (pa_cons (pv 1) pa_nil)) pe_int) pa_nil)) (pg_name (i := 3) scLk.nd rfl (.inl rfl)) (pss_cons (ps_set (i := 4) scLk.nd rfl (.inl rfl) (pe_lst (pa_cons (pe_ix ix_tup (pe_ix ix_tup (pv 2) pe_int (fun _ _ => rfl)) (pe_ix ix_list (pv 1) (pv 3) (fun _ _ => rfl)) (fun _ _ => rfl)) (pa_cons (pe_ix ix_tup (pe_ix ix_tup (pv 2) pe_int (fun _ _ => rfl)) (pe_ix ix_list (pv 1) (pe_op op_add (pv 3) pe_int) (fun _ _ => rfl)) (fun _ _ => rfl)) pa_nil))))
      (pss_one (ps_if (pt_cmpR op_gt (pe_bm PySem.F.plainAttrs_list PySem.F.slot_list_index PySem.F.type_list_index mt_index (pv 1) (pa_cons (pe_ix ix_list (pv 4) pe_int (fun _ _ => rfl)) pa_nil)) (pe_bm PySem.F.plainAttrs_list PySem.F.slot_list_index PySem.F.type_list_index mt_index (pv 1) (pa_cons (pe_ix ix_list (pv 4) pe_int (fun _ _ => rfl)) pa_nil)) (nomark _)) (pss_one (ps_ret pe_bl)) pss_nil))))))
      (pss_one (ps_ret pe_bl))), ?_⟩
    have m1 := G.m1
    have m6 := G.m6
    have lo := ho.len
    refine ⟨.ref t, rfl, t, _, 1, _, rfl, rfl, SqT.of hT.1, atI_nat (j := 1) rfl, m, rfl, ⟨_, SqL.of hT.2.1⟩, ?_⟩
    refine for_list (K := K) (a := m) (xs := ws) (fun i σ H' => ∃ y2 y3 y4, σ = [some (.ref t), some (.ref l), y2, y3, y4] ∧ Same H H' ∧ ∀ j mv, j < i → ms[j]? = some mv → keepsR mv.2 o = true) ⟨none, none, none, rfl, Same.refl _, fun j mv h => absurd h (Nat.not_lt_zero _)⟩ (fun i σ H' _ ⟨_, _, _, _, s, _⟩ => SqL.of (s _ _ hT.2.1)) ?_ ?_
    · rintro i v σ H1 hv ⟨y2, y3, y4, rfl, s1, hbef⟩
      obtain ⟨mv, emv, hmv⟩ := hT.2.2.get' hv
      obtain ⟨ta, tb, rfl, hta, htb⟩ := hmv.same (Same.tups s1)
      have gm := G.mv mv (List.mem_of_getElem? emv)
      have hl1 := s1 _ _ hl
      refine ⟨.ref l, rfl, l, _, rfl, .inl (SqL.of hl1), _, _, rfl, rfl, _, rfl, ?_, ?_, ?_⟩
      · rw [List.length_map]; omega
      · rw [List.length_map]; omega
      rw [List.length_map]
      refine for_range (lo := 0) (n := (((o.length : Nat) : Int) - 1).toNat) (fun k σ H' => ∃ y3 y4, σ = [some (.ref t), some (.ref l), some (.ref ta), y3, y4] ∧ Same H1 H' ∧ ∀ (j : Nat) (a b : Int), j < k → (standsO mv.2 o)[j]? = some a → (standsO mv.2 o)[j + 1]? = some b → a ≤ b) ⟨y3, y4, rfl, Same.refl _, fun j a b h => absurd h (Nat.not_lt_zero _)⟩ ?_ ?_
      · rintro k σ H2 hk ⟨y3, y4, rfl, s2, hin⟩
        have hl2 := s2 _ _ hl1
        have hta2 := s2 _ _ hta
        have htb2 := s2 _ _ htb
        obtain ⟨pa, hpa⟩ : ∃ pa, o[k]? = some pa := ⟨_, List.getElem?_eq_getElem (by omega)⟩
        obtain ⟨pb, hpb⟩ : ∃ pb, o[k + 1]? = some pb := ⟨_, List.getElem?_eq_getElem (by omega)⟩
        have ma := List.mem_of_getElem? hpa
        have mb := List.mem_of_getElem? hpb
        obtain ⟨a0, a1⟩ := ho.mem.mp ma
        obtain ⟨b0, b1⟩ := ho.mem.mp mb
        have ga := goK_ord gm.2.2 ho ma
        have gb := goK_ord gm.2.2 ho mb
        have lr := gm.2.2.1
        refine ⟨.ref ta, rfl, ta, _, 1, _, rfl, rfl, SqT.of hta2, atI_nat (j := 1) rfl, .ref l, rfl, .int (0 + (k : Int)), rfl, l, _, _, _, rfl, rfl, SqL.of hl2, at_of (show (0 + (k : Int)) = ((k : Nat) : Int) by omega) (show (o.map V.int)[k]? = some (.int pa) by rw [List.getElem?_map, hpa]; rfl), tb, _, pa, _, rfl, rfl, SqT.of htb2, at_of (show pa = ((pa.toNat : Nat) : Int) by omega) (at_goK a0 (by omega)), ?_⟩
        refine ⟨.ref ta, rfl, ta, _, 1, _, rfl, rfl, SqT.of hta2, atI_nat (j := 1) rfl, .ref l, rfl, .int (0 + (k : Int)), rfl, _, _, rfl, rfl, l, _, _, _, rfl, rfl, SqL.of hl2, at_of (show (0 + (k : Int)) + 1 = ((k + 1 : Nat) : Int) by omega) (show (o.map V.int)[k + 1]? = some (.int pb) by rw [List.getElem?_map, hpb]; rfl), tb, _, pb, _, rfl, rfl, SqT.of htb2, at_of (show pb = ((pb.toNat : Nat) : Int) by omega) (at_goK b0 (by omega)), (by show 2 ≤ sizeLine; decide), fun L nL => ?_⟩
        have s3 := same_new (o := .lst [.int (goK mv.2 pa), .int (goK mv.2 pb)]) nL
        have hl3 := s3 _ _ hl2
        have hL : (upd H2 L (.lst [.int (goK mv.2 pa), .int (goK mv.2 pb)])) L = some (.lst [.int (goK mv.2 pa), .int (goK mv.2 pb)]) := upd_same
        generalize upd H2 L (.lst [.int (goK mv.2 pa), .int (goK mv.2 pb)]) = H3 at s3 hl3 hL ⊢
        refine ⟨.ref l, rfl, .inl ⟨rfl, _, SqL.of hl3⟩, .ref L, rfl, L, _, 0, _, rfl, rfl, SqL.of hL, atI_nat (j := 0) rfl, l, _, .int (goK mv.2 pa), o.idxOf (goK mv.2 pa), _, rfl, rfl, SqL.of hl3, rfl, flat_ints o, ix_at ga, beq_self_eq_true _, fun m z hm e => ix_before hm e, ?_⟩
        refine ⟨.ref l, rfl, .inl ⟨rfl, _, SqL.of hl3⟩, .ref L, rfl, L, _, 1, _, rfl, rfl, SqL.of hL, atI_nat (j := 1) rfl, l, _, .int (goK mv.2 pb), o.idxOf (goK mv.2 pb), _, rfl, rfl, SqL.of hl3, rfl, flat_ints o, ix_at gb, beq_self_eq_true _, fun m z hm e => ix_before hm e, _, _, rfl, rfl, _, rfl, ?_⟩
        by_cases c : ((o.idxOf (goK mv.2 pb) : Nat) : Int) < ((o.idxOf (goK mv.2 pa) : Nat) : Int)
        · rw [decide_eq_true c]
          refine iteT ?_
          have hk' : keepsR mv.2 o = false := by
            unfold keepsR
            rw [decide_eq_false_iff_not]
            intro hp
            have h1 := standsO_at (row := mv.2) hpa
            have h2 := standsO_at (row := mv.2) hpb
            obtain ⟨l1, e1⟩ := List.getElem?_eq_some_iff.mp h1
            obtain ⟨l2, e2⟩ := List.getElem?_eq_some_iff.mp h2
            have := List.pairwise_iff_getElem.mp hp k (k + 1) l1 l2 (by omega)
            rw [e1, e2] at this
            unfold rankO at this
            omega
          have e : decide (fbN ms o = none) = false := decide_eq_false fun z => by
            rw [fbN_none.mp z mv (List.mem_of_getElem? emv)] at hk'
            cases hk'
          have := q H3 ((s1.trans s2).trans s3)
          rw [e] at this
          exact this
        · rw [decide_eq_false c]
          refine iteF ⟨_, _, rfl, s2.trans s3, fun j a b hj h1 h2 => ?_⟩
          by_cases cj : j < k
          · exact hin j a b cj h1 h2
          · have ej : j = k := by omega
            subst ej
            rw [standsO_at hpa] at h1
            rw [standsO_at hpb] at h2
            cases h1
            cases h2
            unfold rankO
            omega
      · rintro σ H2 ⟨y3, y4, rfl, s2, hin⟩
        refine ⟨_, _, _, rfl, s1.trans s2, fun j mv' hj e => ?_⟩
        by_cases cj : j < i
        · exact hbef j mv' cj e
        · have ej : j = i := by omega
          rw [ej, emv] at e
          cases e
          unfold keepsR
          refine decide_eq_true (chain_le fun k a b h1 h2 => hin k a b ?_ h1 h2)
          have := (List.getElem?_eq_some_iff.mp h2).1
          unfold standsO at this
          rw [List.length_map] at this
          omega
    · rintro σ H1 ⟨y2, y3, y4, rfl, s1, hbef⟩
      have e : decide (fbN ms o = none) = true := decide_eq_true (fbN_none.mpr fun mv hm => by
        obtain ⟨j, hj, e⟩ := List.getElem_of_mem hm
        exact hbef j mv (by rw [hT.2.2.length]; exact hj) (by rw [← e]; exact List.getElem?_eq_getElem hj))
      have := q H1 s1
      rw [e] at this
      exact this
end
theorem ordsL_len : ∀ many, many ≤ 6 → 1 ≤ (ordsL many).length ∧ (ordsL many).length ≤ 720 := by
  intro n hn
  match n, hn with
  | 0, _ => decide +kernel
  | 1, _ => decide +kernel
  | 2, _ => decide +kernel
  | 3, _ => decide +kernel
  | 4, _ => decide +kernel
  | 5, _ => decide +kernel
  | 6, _ => decide +kernel
section
variable {P : Program} {w : World} {K : PySem.W.Frag} {mg : Str → Option Value} {base : Heap} {C : Addr}
theorem scLaw : FnScope ["_law_script", "_law_told", "_law_chain_here", "_law_d", "_law_every", "_law_order", "_law_handed", "_law_found", "_law_due", "_law_odd", "_law_one"] ["_law_script"] (defScope sLaw) := ⟨rfl, rfl, rfl, by decide +kernel, rfl, by decide +kernel, by decide +kernel⟩
theorem paired_left {α β : Type} {F : α → β → Prop} : ∀ {l₁ : List α} {l₂ : List β} {i : Nat} {a : α}, Paired F l₁ l₂ → l₁[i]? = some a → ∃ b, l₂[i]? = some b ∧ F a b
  | _, _, _, _, .nil, e => by simp at e
  | _, _, 0, a, .cons (b := b) h _, e => by
    simp at e
    subst e
    exact ⟨b, rfl, h⟩
  | _, _, i + 1, a, .cons _ t, e => by
    have := paired_left t (i := i) (a := a) (by simpa using e)
    simpa using this
theorem listsAt_gr {d l L : Addr} {ns : List Int} {H H' : Hp} {xss : List (List Int)} (hd : Dc K l ns H d) (g : Gr d H H') (h : ListsAt H L xss) : ListsAt H' L xss := by
  obtain ⟨vs, e, p⟩ := h
  have nd : ∀ s0 l k big, HO.lst vs ≠ .lst (dl s0 l k big) := fun s0 l k big z => by
    injection z with z
    rw [z] at p
    cases p with
    | cons h _ =>
      obtain ⟨a, ea, _⟩ := h
      cases ea
  exact ⟨vs, g _ _ (hd.ne_of e nd) e, L2.Paired.mapP p fun v xs ⟨a, h1, h2⟩ => ⟨a, h1, g _ _ (hd.ne_of h2 fun s0 l k big z => by injection z with z; exact map_int_dl z) h2⟩⟩
theorem not_ord_len {many : Nat} {o : List Int} (h : o.length ≠ many) : ¬ isOrd many o := fun z => h z.len
theorem ok_law {f fc fd' fo fh fm fOr fKo fLk fFo ff tM : Addr} {fd fdc fdd fdo fdh fdm fdOr fdKo fdLk fdFo fdf : FuncData} (F : Fun K "law" "law" sLaw f fd) (T : LawTxt K mg fc fd' fo fdc fdd fdo) (Dh : Df K mg "_law_chain" sChain ["_law_d", "_law_most"] fh fdh)
    (DM : Df K mg "_law_made" sMade ["_law_told"] fm fdm) (DOr : Df K mg "_law_orders" sLawOrders ["_law_many"] fOr fdOr) (DKo : Df K mg "keeps_order" sKeepsOrder ["chain", "order"] fKo fdKo) (DLk : Df K mg "_law_keeps" sLawKeeps ["_law_told", "_law_order"] fLk fdLk) (DFo : Df K mg "first_order" sFirstOrder ["chain"] fFo fdFo) (Df : Df K mg "_law_refused" sLawRefused ["_law_chain_here", "_law_order"] ff fdf)
    (GM : FnOk P w K mg base CX0 4 fm fdm ["_law_told"] (spMade C tM)) (GKo : FnOk P w K mg base CX0 3 fKo fdKo ["chain", "order"] (spKo C)) (GFo : FnOk P w K mg base CX0 4 fFo fdFo ["chain"] (spFo C)) (GF : FnOk P w K mg base CX0 4 ff fdf ["_law_chain_here", "_law_order"] (spRf C))
    (mL : mg "list" = none) (mI : mg "isinstance" = none) (mb : mg "bool" = none) : FnOk P w K mg base CX0 5 f fd ["_law_script"] (spLaw K tM) := by
  have GC : FnOk P w K mg base CX0 1 fc fdc ["_law_script", "_law_k"] (spCell K) := ok_cell T.FC T.ml
  have GD' : FnOk P w K mg base CX0 2 fd' fdd ["_law_script", "_law_k"] (spDice K) := T.dice
  have GO : FnOk P w K mg base CX0 2 fo fdo ["_law_d", "_law_most"] (spOff K) := T.off
  have GH : FnOk P w K mg base CX0 3 fh fdh ["_law_d", "_law_most"] (spChain K) := ok_chain Dh.F T
  have GOr : FnOk P w K mg base CX0 1 fOr fdOr ["_law_many"] spOr := ok_orders DOr.F T.mr
  have GLk : FnOk P w K mg base CX0 1 fLk fdLk ["_law_told", "_law_order"] spLk := ok_lawkeeps DLk.F T.mr T.ml
  refine F.ok scLaw (fun vs H Q E h => ?_) (fun cdv A outer s H vs Q E hr h => ?_)
  · obtain ⟨a, ns, rfl, _⟩ := h
    rfl
  · obtain ⟨a, ns, rfl, hS, hl, hTM, q⟩ := h
    have hu := hu64 hr
    have r1 : Room 1 _ := hr.mono (by decide)
    have r2 : Room 2 _ := hr.mono (by decide)
    have r3 : Room 3 _ := hr.mono (by decide)
    have r4 : Room 4 _ := hr.mono (by decide)
    refine ⟨_, (pss_cons (ps_set (i := 1) scLaw.nd rfl (.inr rfl) (pe_call GH r3 (by rfl) Dh.g Dh.F.kp Dh.b .nil pass0 (pa_cons (pe_call GD' r2 (by rfl) T.gD T.FD.kp T.bD .nil pass0 (pa_cons (pv 0) (pa_cons pe_int pa_nil))) (pa_cons (pe_ix ix_list (pe_lst (pa_cons pe_int (pa_cons pe_int pa_nil))) (pe_callTy call_int1 (by rfl) T.mi (by decide +kernel) (pa_cons (pe_cmpR op_eq (pe_op op_mod (pe_callB call_abs (by rfl) T.ma (by decide +kernel) (pa_cons (pe_call GC r1 (by rfl) T.gC T.FC.kp T.bC .nil pass0 (pa_cons (pv 0) (pa_cons pe_int pa_nil))) pa_nil)) pe_int) pe_int (nomark _)) pa_nil)) (fun _ _ => rfl)) pa_nil))))
      (pss_cons (ps_set (i := 2) scLaw.nd rfl (.inl rfl) (pe_call GM r4 (by rfl) DM.g DM.F.kp DM.b .nil pass0 (pa_cons (pv 1) pa_nil)))
      (pss_cons (ps_set (i := 3) scLaw.nd rfl (.inl rfl) (pe_call GD' r2 (by rfl) T.gD T.FD.kp T.bD .nil pass0 (pa_cons (pv 0) (pa_cons pe_int pa_nil))))
      (pss_cons (ps_set (i := 4) scLaw.nd rfl (.inl rfl) (pe_call GOr r1 (by rfl) DOr.g DOr.F.kp DOr.b .nil pass0 (pa_cons (pe_ix ix_tup (pv 1) pe_int (fun _ _ => rfl)) pa_nil)))
      (pss_cons (ps_set (i := 5) scLaw.nd rfl (.inl rfl) (pe_ix ix_list (pv 4) (pe_call GO r2 (by rfl) T.gO T.FO.kp T.bO .nil pass0 (pa_cons (pv 3) (pa_cons (pe_callB call_len_seq (by rfl) T.ml PySem.boot_len (pa_cons (pv 4) pa_nil)) pa_nil))) (fun _ _ => rfl)))
      (pss_cons (ps_set (i := 6) scLaw.nd rfl (.inl rfl) (pe_callTy call_list_of (by rfl) mL (by decide +kernel) (pa_cons (pv 5) pa_nil)))
      (pss_cons (ps_set (i := 7) scLaw.nd rfl (.inl rfl) (pe_call GKo r3 (by rfl) DKo.g DKo.F.kp DKo.b .nil pass0 (pa_cons (pv 2) (pa_cons (pv 6) pa_nil))))
      (pss_cons (ps_if (PW.pt (pw_or (pt_not (pt_val (pe_callB call_isi (by rfl) mI (by decide +kernel) (pa_cons (pv 7) (pa_cons (pe_bltn (v := .ty "bool") (by rfl) mb (by decide +kernel) rfl) pa_nil))))) (pw_or (pt_cmpR op_ne (pv 7) (pe_call GLk r1 (by rfl) DLk.g DLk.F.kp DLk.b .nil pass0 (pa_cons (pv 1) (pa_cons (pv 5) pa_nil))) (nomark _)) (pw_or1 (pt_cmpR (op_neD hu) (pv 6) (pv 5) (nomark _)))))) (pss_one (ps_ret pe_bl)) pss_nil)
      (pss_cons (ps_set (i := 8) scLaw.nd rfl (.inl rfl) (pe_ix ix_list (pe_op op_cat (pe_lc (own := [("_law_one", 10)]) (g := gName 10) (tt := (tB (tCall spLk [] E0 (tCons (tVar 1) (tCons (tVar 10) tNil))))) (te := (tVar 10)) rfl scLaw.nd (pi_list (pv 4)) (blkOk_by (N := ["_law_script", "_law_told", "_law_chain_here", "_law_d", "_law_every", "_law_order", "_law_handed", "_law_found", "_law_due", "_law_odd", "_law_one"]) (sc := defScope sLaw) (by decide +kernel)) (fun _ _ _ _ _ => by exact (pg_name (i := 10) scLaw.nd rfl (.inl rfl))) (fun _ _ _ _ _ => by exact (pts_one (pt_val (pe_call GLk r1 (by rfl) DLk.g DLk.F.kp DLk.b .nil pass0 (pa_cons (pv 1) (pa_cons (pv 10) pa_nil)))))) (fun _ _ _ _ _ => by exact (pv 10))) (pe_lst (pa_cons pe_non pa_nil))) pe_int (fun _ _ => rfl)))
      (pss_cons (ps_if (pt_cmpR (op_neD hu) (pe_call GFo r4 (by rfl) DFo.g DFo.F.kp DFo.b .nil pass0 (pa_cons (pv 2) pa_nil)) (pv 8) (nomark _)) (pss_one (ps_ret pe_bl)) pss_nil)
      (pss_cons (ps_set (i := 9) scLaw.nd rfl (.inl rfl) (pe_lst (pa_cons (pe_op op_cat (pv 5) (pe_slice sl_list (pv 5) po_none (po_some pe_int))) (pa_cons (pe_slice sl_list (pv 5) (po_some pe_int) po_none) (pa_cons (pe_op op_cat (pe_slice sl_list (pv 5) (po_some pe_int) po_none) (pe_lst (pa_cons (pe_ix ix_tup (pv 1) pe_int (fun _ _ => rfl)) pa_nil))) (pa_cons (pe_op op_cat (pe_slice sl_list (pv 5) (po_some pe_int) po_none) (pe_lst (pa_cons (pe_un un_neg pe_int) pa_nil))) pa_nil))))))
      (pss_one (ps_ret (pe_call GF hr (by rfl) Df.g Df.F.kp Df.b .nil pass0 (pa_cons (pv 2) (pa_cons (pe_ix ix_list (pv 9) (pe_call GO r2 (by rfl) T.gO T.FO.kp T.bO .nil pass0 (pa_cons (pv 3) (pa_cons pe_int pa_nil))) (fun _ _ => rfl)) pa_nil)))))))))))))))), ?_⟩
    -- told
    refine ⟨.ref a, rfl, a, ns, 0, rfl, hS, hl, by decide, fun H1 d1 s1 nd1 hD1 => ?_⟩
    refine ⟨(by show 2 ≤ sizeLine; decide), fun L0 nL0 => ?_⟩
    have hD1' := hD1.new (o := .lst [.int 5, .int 6]) nL0
    have s1' := s1.trans (same_new (o := .lst [.int 5, .int 6]) nL0)
    refine ⟨.ref a, rfl, a, ns, 3, rfl, hD1'.seq, by decide, fun z => ?_⟩
    refine ⟨_, rfl, _, _, rfl, rfl, (by show (0 : Int) < 9; decide), rfl, .inr ⟨_, rfl, ?_⟩⟩
    generalize decide (V.int ((fun i j : Int => i % j) (if z < 0 then -z else z) 9) = V.int 1) = bz
    obtain ⟨most, j, em, ej, h1, h6⟩ : ∃ (most j : Nat), ([V.int 5, V.int 6])[j]? = some (.int (most : Int)) ∧ (if bz = true then (1 : Int) else 0) = (j : Int) ∧ 1 ≤ most ∧ most ≤ 6 := by
      cases bz with
      | true => exact ⟨6, 1, rfl, rfl, by decide, by decide⟩
      | false => exact ⟨5, 0, rfl, rfl, by decide, by decide⟩
    refine ⟨L0, _, _, _, rfl, rfl, SqL.of upd_same, at_of ej em, ?_⟩
    have hTM1 := tab_same s1' hTM
    generalize upd H1 L0 (.lst [.int 5, .int 6]) = H1' at hD1' s1' hTM1 ⊢
    refine ⟨d1, a, ns, most, rfl, hD1', h1, h6, fun t m many ws ms H2 G _ hT hD2 g2 => ?_⟩
    have hM2 := tab_gr hD1' g2 hTM1
    have m1 := G.m1
    have m6 := G.m6
    -- the chain
    refine ⟨.ref t, rfl, t, m, many, ws, ms, rfl, hT, G, hM2, fun H3 x hC nx g3 hM3 => ?_⟩
    have hT3 := hT.tab hM2 g3
    have hD3 := hD2.tabT hM2 g3
    -- d
    refine ⟨.ref a, rfl, a, ns, 1, rfl, hD3.seq, hl, by decide, fun H4 d s4 nd hD4 => ?_⟩
    have hT4 := hT3.same s4
    have hC4 := hC.same s4
    -- every
    refine ⟨.ref t, rfl, t, _, 0, _, rfl, rfl, SqT.of hT4.1, atI_nat (j := 0) rfl, many, rfl, m6, fun Ev H5 s5 nEv hEv => ?_⟩
    rw [(lawOrd_ok many m6).1] at hEv
    have hT5 := hT4.same s5
    have hC5 := hC4.same s5
    have hD5 := hD4.same s5
    obtain ⟨vE, hvE, hpE⟩ := id hEv
    obtain ⟨n1, n720⟩ := ordsL_len many m6
    have lenE : vE.length = (ordsL many).length := hpE.length
    -- order
    refine ⟨.ref Ev, rfl, .ref d, rfl, .ref Ev, rfl, Ev, _, rfl, .inl (SqL.of hvE), d, a, ns, _, rfl, hD5, by omega, by omega, fun r H6 hr6 hD6 o6 => ?_⟩
    have hr' : r < vE.length := by omega
    have g6 : Gr d H5 H6 := (Gr.refl d H5).off o6
    have hT6 := hT5.gr hD5 g6
    have hC6 := hC5.gr hD5 g6
    have hEv6 := listsAt_gr hD5 g6 hEv
    obtain ⟨vE6, hvE6, hpE6⟩ := id hEv6
    have lenE6 : vE6.length = (ordsL many).length := hpE6.length
    obtain ⟨o, eo, oa, eoa, hoa⟩ := paired_left hpE6 (i := r) (List.getElem?_eq_getElem (show r < vE6.length by omega))
    have ho := ordsL_ord m6 (List.mem_of_getElem? eo)
    have lo := ho.len
    refine ⟨Ev, _, _, _, rfl, rfl, SqL.of hvE6, atI_nat (List.getElem?_eq_getElem (show r < vE6.length by omega)), ?_⟩
    rw [eoa]
    -- handed
    refine ⟨.ref oa, rfl, oa, _, rfl, .inl (SqL.of hoa), fun Hd nHd => ?_⟩
    have s7 := same_new (o := .lst (o.map V.int)) nHd
    have hHd : (upd H6 Hd (.lst (o.map V.int))) Hd = some (.lst (o.map V.int)) := upd_same
    have hT7 := hT6.same s7
    have hC7 := hC6.same s7
    have hD7 := hD6.same s7
    have hEv7 := hEv6.same s7
    have hoa7 := s7 _ _ hoa
    generalize upd H6 Hd (.lst (o.map V.int)) = H7 at s7 hHd hT7 hC7 hD7 hEv7 hoa7 ⊢
    -- found
    refine ⟨.ref x, rfl, .ref Hd, rfl, x, Hd, many, ms, o, rfl, hC7, G, hHd, ho, fun H8 s8 => ?_⟩
    refine ⟨.bl (decide (fbN ms o = none)), rfl, .bl (decide (fbN ms o = none)), .ty "bool", .type "bool", .type "bool", true, rfl, .ty _, .base (.bl _), kit_ty (by decide +kernel), true, rfl, ?_⟩
    refine ⟨.bl (decide (fbN ms o = none)), rfl, .ref t, rfl, .ref oa, rfl, t, oa, m, many, ws, ms, o, rfl, hT7.same s8, G, s8 _ _ hoa7, ho, fun H9 s9 => ?_⟩
    have s79 := s8.trans s9
    refine ⟨rfl, false, by simp, iteF ?_⟩
    refine ⟨.ref Hd, rfl, .ref oa, rfl, ?_⟩
    refine ne_same (dp_lst (s79 _ _ hHd)) (dp_lst (s79 _ _ hoa7)) (Sh.lst _) (by decide) ⟨false, rfl, iteF ?_⟩
    have hT9 := hT7.same s79
    have hC9 := hC7.same s79
    have hD9 := hD7.same s79
    have hEv9 := hEv7.same s79
    have hoa9 := s79 _ _ hoa7
    -- due
    obtain ⟨vE9, hvE9, hpE9⟩ := id hEv9
    have lenE9 : vE9.length = (ordsL many).length := hpE9.length
    refine ⟨.ref Ev, rfl, Ev, rfl, ⟨_, SqL.of hvE9⟩, fun D nD => ?_⟩
    refine lc_list (K := K) (a := Ev) (xs := vE9) (fun e H' => Same H9 H' ∧ ∃ vs, H' D = some (.lst vs) ∧ Paired (LstOf H9) vs (((ordsL many).take e).filter fun o => decide (fbN ms o = none))) ⟨same_new nD, [], upd_same, .nil⟩ (fun e H' _ h => SqL.of (h.1 _ _ hvE9)) ?_ ?_
    · rintro e v H10 hv ⟨s10, vs, hDl, hpD⟩
      obtain ⟨oe, eoe, oea, rfl, hoea⟩ := paired_left hpE9 hv
      have hoe := ordsL_ord m6 (List.mem_of_getElem? eoe)
      refine ⟨rfl, .ref t, rfl, .ref oea, rfl, t, oea, m, many, ws, ms, oe, rfl, hT9.same s10, G, s10 _ _ hoea, hoe, fun H11 s11 => ⟨_, rfl, ?_⟩⟩
      have tk : ((ordsL many).take (e + 1)).filter (fun o => decide (fbN ms o = none)) = ((ordsL many).take e).filter (fun o => decide (fbN ms o = none)) ++ (if decide (fbN ms oe = none) = true then [oe] else []) := by
        rw [take_snoc eoe, List.filter_append]
        cases hk : decide (fbN ms oe = none) with
        | true => simp [of_decide_eq_true hk]
        | false => simp [of_decide_eq_false hk]
      have hD11 := s11 _ _ hDl
      by_cases c : fbN ms oe = none
      · rw [decide_eq_true c]
        refine iteT ?_
        have lv : vs.length ≤ 720 := by
          rw [hpD.length]
          refine Nat.le_trans (List.length_filter_le _ _) ?_
          rw [List.length_take]
          omega
        refine ⟨.ref oea, rfl, vs, hD11, lt1k (by omega), fun b u eb => by rw [upd_ne (ne_of_none eb nD)]; exact s11 _ _ (s10 _ _ eb), vs ++ [.ref oea], upd_same, ?_⟩
        rw [tk, if_pos (decide_eq_true c)]
        exact paired_end (F := LstOf H9) ⟨oea, rfl, hoea⟩ hpD
      · rw [decide_eq_false c]
        refine iteF ?_
        refine ⟨s10.trans s11, vs, hD11, ?_⟩
        rw [tk, if_neg (by rw [decide_eq_false c]; exact Bool.false_ne_true), List.append_nil]
        exact hpD
    rintro H10 ⟨s10, vs, hDl, hpD⟩
    rw [lenE9, List.take_length] at hpD
    have lv : vs.length ≤ 720 := by
      rw [hpD.length]
      refine Nat.le_trans (List.length_filter_le _ _) ?_
      omega
    refine ⟨(by show 1 ≤ sizeLine; decide), fun L1 nL1 => ?_⟩
    have s11 := same_new (o := .lst [.non]) nL1
    refine ⟨D, L1, _, _, rfl, rfl, s11 _ _ hDl, upd_same, le1k (by show vs.length + 1 ≤ 1000; omega), fun L2 nL2 => ?_⟩
    have s12 := s10.trans (s11.trans (same_new (o := .lst (vs ++ [.non])) nL2))
    obtain ⟨dv, edv, hdv⟩ : ∃ dv, (vs ++ [V.non])[0]? = some dv ∧ ListOr H9 dv (foL many ms) := by
      have ef : foL many ms = ((ordsL many).filter fun o => decide (fbN ms o = none)).head? := by
        unfold foL
        rw [List.head?_filter]
      rw [ef]
      generalize (ordsL many).filter (fun o => decide (fbN ms o = none)) = fl at hpD
      cases hpD with
      | nil => exact ⟨.non, rfl, rfl⟩
      | cons h t =>
        obtain ⟨a', e1, e2⟩ := h
        exact ⟨_, rfl, a', e1, e2⟩
    have hL2 : (upd (upd H10 L1 (.lst [.non])) L2 (.lst (vs ++ [.non]))) L2 = some (.lst (vs ++ [.non])) := upd_same
    generalize upd (upd H10 L1 (.lst [.non])) L2 (.lst (vs ++ [.non])) = H12 at s12 hL2 ⊢
    refine ⟨L2, _, _, _, rfl, rfl, SqL.of hL2, atI_nat (j := 0) edv, ?_⟩
    -- first_order
    refine ⟨.ref x, rfl, x, many, ms, rfl, hC9.same s12, G, fun v H13 s13 hv => ?_⟩
    have s913 := s12.trans s13
    refine ⟨dv, rfl, ?_⟩
    have cmp : ∀ {q : VK}, q (.bl false) H13 → rNeD K v dv H13 q := by
      intro q hq
      unfold ListOr at hv hdv
      cases hf : foL many ms with
      | none =>
        rw [hf] at hv hdv
        rw [hv, hdv]
        exact ne_same (n := 1) .non .non Sh.none (by decide) hq
      | some o' =>
        rw [hf] at hv hdv
        obtain ⟨a1, e1, e2⟩ := hv
        obtain ⟨a2, e3, e4⟩ := hdv
        rw [e1, e3]
        exact ne_same (dp_lst e2) (dp_lst (s913 _ _ e4)) (Sh.lst _) (by decide) hq
    refine cmp ⟨false, rfl, iteF ?_⟩
    have hT13 := hT9.same s913
    have hC13 := hC9.same s913
    have hD13 := hD9.same s913
    have hoa13 := s913 _ _ hoa9
    have onE : (1 : Nat) ≤ sizeLine := by decide
    have ct : cutV (o.map V.int) none (some 1) = (o.take 1).map V.int := by
      rw [show (some (1 : Int)) = some ((1 : Nat) : Int) from rfl, cut_to _ 1 (by rw [List.length_map]; omega), List.map_take]
    have cf : cutV (o.map V.int) (some 1) none = (o.drop 1).map V.int := by
      rw [show (some (1 : Int)) = some ((1 : Nat) : Int) from rfl, cut_from _ 1 (by rw [List.length_map]; omega), List.map_drop]
    have small : ∀ n ∈ o, n.natAbs ≤ 2000000 := fun n hn => by
      have := ho.mem.mp hn
      omega
    have lt1 : (o.take 1).length = 1 := by rw [List.length_take]; omega
    have ld1 : (o.drop 1).length = many - 1 := by rw [List.length_drop]; omega
    -- the odd ones
    refine ⟨.ref oa, rfl, .ref oa, rfl, 1, rfl, oa, _, rfl, SqL.of hoa13, fun p1 np1 => ?_⟩
    rw [ct]
    have t1 := same_new (o := .lst ((o.take 1).map V.int)) np1
    refine ⟨oa, p1, _, _, rfl, rfl, t1 _ _ hoa13, upd_same, le1k (by rw [List.length_map, List.length_map, lt1]; omega), fun a1 na1 => ?_⟩
    have t2 := t1.trans (same_new (o := .lst (o.map V.int ++ (o.take 1).map V.int)) na1)
    have ha1 : (upd (upd H13 p1 (.lst ((o.take 1).map V.int))) a1 (.lst (o.map V.int ++ (o.take 1).map V.int))) a1 = some (.lst ((o ++ o.take 1).map V.int)) := by rw [upd_same, List.map_append]
    generalize upd (upd H13 p1 (.lst ((o.take 1).map V.int))) a1 (.lst (o.map V.int ++ (o.take 1).map V.int)) = H14 at t2 ha1 ⊢
    refine ⟨.ref oa, rfl, 1, rfl, oa, _, rfl, SqL.of (t2 _ _ hoa13), fun a2 na2 => ?_⟩
    rw [cf]
    have u2 := same_new (o := .lst ((o.drop 1).map V.int)) na2
    have t3 := t2.trans u2
    have ha2 : (upd H14 a2 (.lst ((o.drop 1).map V.int))) a2 = some (.lst ((o.drop 1).map V.int)) := upd_same
    have ha1 := u2 _ _ ha1
    generalize upd H14 a2 (.lst ((o.drop 1).map V.int)) = H15 at t3 ha1 ha2 ⊢
    refine ⟨.ref oa, rfl, 1, rfl, oa, _, rfl, SqL.of (t3 _ _ hoa13), fun p3 np3 => ?_⟩
    rw [cf]
    have u3 := same_new (o := .lst ((o.drop 1).map V.int)) np3
    refine ⟨.ref t, rfl, t, _, 0, _, rfl, rfl, SqT.of (u3 _ _ (t3 _ _ hT13.1)), atI_nat (j := 0) rfl, onE, fun q3 nq3 => ?_⟩
    have v3 := same_new (o := .lst [.int (many : Int)]) nq3
    refine ⟨p3, q3, _, _, rfl, rfl, v3 _ _ upd_same, upd_same, le1k (by rw [List.length_map, ld1]; show _ + 1 ≤ 1000; omega), fun a3 na3 => ?_⟩
    have w3 := (u3.trans v3).trans (same_new (o := .lst ((o.drop 1).map V.int ++ [.int (many : Int)])) na3)
    have t4 := t3.trans w3
    have ha3 : (upd (upd (upd H15 p3 (.lst ((o.drop 1).map V.int))) q3 (.lst [.int (many : Int)])) a3 (.lst ((o.drop 1).map V.int ++ [.int (many : Int)]))) a3 = some (.lst ((o.drop 1 ++ [(many : Int)]).map V.int)) := by rw [upd_same, List.map_append]; rfl
    have ha1 := w3 _ _ ha1
    have ha2 := w3 _ _ ha2
    generalize upd (upd (upd H15 p3 (.lst ((o.drop 1).map V.int))) q3 (.lst [.int (many : Int)])) a3 (.lst ((o.drop 1).map V.int ++ [.int (many : Int)])) = H16 at t4 ha1 ha2 ha3 ⊢
    refine ⟨.ref oa, rfl, 1, rfl, oa, _, rfl, SqL.of (t4 _ _ hoa13), fun p4 np4 => ?_⟩
    rw [cf]
    have u4 := same_new (o := .lst ((o.drop 1).map V.int)) np4
    refine ⟨1, rfl, onE, fun q4 nq4 => ?_⟩
    have v4 := same_new (o := .lst [.int (-1)]) nq4
    refine ⟨p4, q4, _, _, rfl, rfl, v4 _ _ upd_same, upd_same, le1k (by rw [List.length_map, ld1]; show _ + 1 ≤ 1000; omega), fun a4 na4 => ?_⟩
    have w4 := (u4.trans v4).trans (same_new (o := .lst ((o.drop 1).map V.int ++ [.int (-1)])) na4)
    have t5 := t4.trans w4
    have ha4 : (upd (upd (upd H16 p4 (.lst ((o.drop 1).map V.int))) q4 (.lst [.int (-1)])) a4 (.lst ((o.drop 1).map V.int ++ [.int (-1)]))) a4 = some (.lst ((o.drop 1 ++ [(-1 : Int)]).map V.int)) := by rw [upd_same, List.map_append]; rfl
    have ha1 := w4 _ _ ha1
    have ha2 := w4 _ _ ha2
    have ha3 := w4 _ _ ha3
    generalize upd (upd (upd H16 p4 (.lst ((o.drop 1).map V.int))) q4 (.lst [.int (-1)])) a4 (.lst ((o.drop 1).map V.int ++ [.int (-1)])) = H17 at t5 ha1 ha2 ha3 ha4 ⊢
    refine ⟨(by show 4 ≤ sizeLine; decide), fun Od nOd => ?_⟩
    have u5 := same_new (o := .lst [.ref a1, .ref a2, .ref a3, .ref a4]) nOd
    have t6 := t5.trans u5
    have hOd : (upd H17 Od (.lst [.ref a1, .ref a2, .ref a3, .ref a4])) Od = some (.lst [.ref a1, .ref a2, .ref a3, .ref a4]) := upd_same
    have ha1 := u5 _ _ ha1
    have ha2 := u5 _ _ ha2
    have ha3 := u5 _ _ ha3
    have ha4 := u5 _ _ ha4
    have hD18 := hD13.same t6
    have hC18 := hC13.same t6
    generalize upd H17 Od (.lst [.ref a1, .ref a2, .ref a3, .ref a4]) = H18 at hOd ha1 ha2 ha3 ha4 hD18 hC18 ⊢
    refine ⟨.ref x, rfl, .ref Od, rfl, .ref d, rfl, d, a, ns, _, rfl, hD18, by decide, by decide, fun r2 H19 hr2 hD19 o19 => ?_⟩
    have g19 : Gr d H18 H19 := (Gr.refl d H18).off o19
    have nod : ∀ {b : Addr} {xs : List Int}, H18 b = some (.lst (xs.map V.int)) → H19 b = some (.lst (xs.map V.int)) := fun {b xs} e => g19 _ _ (hD18.ne_of e fun s0 l k big z => by injection z with z; exact map_int_dl z) e
    have hOd19 : H19 Od = some (.lst [.ref a1, .ref a2, .ref a3, .ref a4]) := g19 _ _ (hD18.ne_of hOd fun s0 l k big z => by injection z with z; injection z with z; cases z) hOd
    obtain ⟨la, o', ev, hla, hno⟩ : ∃ (la : Addr) (o' : List Int), ([V.ref a1, V.ref a2, V.ref a3, V.ref a4])[r2]? = some (.ref la) ∧ H19 la = some (.lst (o'.map V.int)) ∧ NoOrd many o' := by
      have h4 : r2 < 4 := by omega
      match r2, h4 with
      | 0, _ =>
        refine ⟨a1, _, rfl, nod ha1, not_ord_len (by rw [List.length_append, lt1]; omega), by rw [List.length_append, lt1]; omega, fun n hn => ?_⟩
        rcases List.mem_append.mp hn with hn | hn
        · exact small n hn
        · exact small n (List.mem_of_mem_take hn)
      | 1, _ => exact ⟨a2, _, rfl, nod ha2, not_ord_len (by omega), by omega, fun n hn => small n (List.mem_of_mem_drop hn)⟩
      | 2, _ =>
        refine ⟨a3, _, rfl, nod ha3, fun z => ?_, by rw [List.length_append, ld1]; show _ + 1 < 64; omega, fun n hn => ?_⟩
        · have := z.mem.mp (List.mem_append.mpr (.inr (List.mem_singleton_self (many : Int))))
          omega
        · rcases List.mem_append.mp hn with hn | hn
          · exact small n (List.mem_of_mem_drop hn)
          · rw [List.mem_singleton.mp hn]
            omega
      | 3, _ =>
        refine ⟨a4, _, rfl, nod ha4, fun z => ?_, by rw [List.length_append, ld1]; show _ + 1 < 64; omega, fun n hn => ?_⟩
        · have := z.mem.mp (List.mem_append.mpr (.inr (List.mem_singleton_self (-1 : Int))))
          omega
        · rcases List.mem_append.mp hn with hn | hn
          · exact small n (List.mem_of_mem_drop hn)
          · rw [List.mem_singleton.mp hn]
            decide
    exact ⟨Od, _, _, _, rfl, rfl, SqL.of hOd19, atI_nat ev, x, la, many, ms, o', rfl, hC18.gr hD18 g19, G, hla, hno, fun H' => q H'⟩
end
/-! ### the end: the table of the generator's def -/
def TabOf (nm : Str) (mg : Str → Option Value) (h : Heap) : Prop := ∃ (a' : Addr) (o' : Obj) (fd' : FuncData) (c' P' : Addr) (oc : Obj) (vc : Array Value), mg nm = some (.ref a') ∧ h.get? a' = some o' ∧ o'.data = .func fd' ∧ fd'.code = .ref c' ∧
  h.get? c' = some oc ∧ oc.data = .fields vc ∧ vc[11]? = some (.ref P') ∧ h.get? P' = some { cls := .none, data := .fields #[] }
theorem walk_tab {l : PySem.W.OpenLaw} {n k : Nat} {q : Program} {loose : List Str} {XP : (Str → Option Value) → Heap → Prop} {YP : World → Heap → Prop} {d : DefRec} {K : Params → PySem.W.Frag} {CX : World → CXT} {x : Str} (nm : Str)
    (hn : l.most = some n) (hn2 : n ≤ sizeLine) (hdf : d.params.defaults = []) (hr : Room k callerA) (hrec : ((recsOf q).any fun e => e.name == nm) = true) (hY : ∀ (w : World) (h : Heap), YP w h → (K w.params).In h)
    (F : ∀ (w : World) (mg : Str → Option Value) (fa : Addr) (h : Heap), (K w.params).In h → h.Ns mainGlobals mg → mg d.name = some (.ref fa) → TabOf nm mg h → LamX.LawAtS l w (K w.params) (CX w) k n x mg fa h)
    (hCX : ∀ (w : World) (H : Hp) (s : Shared) (e : Value) (s' : Shared), CX w [] H s (fun _ _ _ => False) e s' → False) :
    PySem.W.WalkO q loose XP YP l.row.toRowW d [] (fun f vs => PySem.call f vs) := by
  refine Att.attach_callB hn hdf fun w s₀ s₁ mg mb fa o pm cd doc a vs ns G Y ho hd hcd hmg hobj hints hlen hbits hg => ?_
  obtain ⟨dL, m1, m2⟩ := List.any_eq_true.mp hrec
  obtain ⟨a', o', fd', c', P', g1, g2, g3, g4, _, ⟨oc, vc, e1, e2, e3, e4⟩, e5⟩ := G.T.tab dL m1
  rw [beq_iff_eq.mp m2] at g1
  have TO : TabOf nm mg s₁.heap := ⟨a', o', fd', c', P', oc, vc, g1, g2, g3, g4, e1, e3, e4, e5⟩
  obtain ⟨fd, cs, sp, hT, nT, Cd, hb, hsp, hF⟩ := F w mg fa _ (hY w _ Y) G.T.g hmg TO
  exact LamX.law_callTs (hY w _ Y) G.T.g G.T.b G.T.builtins G.T.nolimit hg hT nT Cd G.T.bmain hobj hints (Nat.le_trans hlen hn2) hr hF hb (fun H hH hS => hsp H a ns hlen hbits hH hS) fun H e s' => hCX w H s₁ e s'
theorem walk_tab2 {l : PySem.W.OpenLaw} {n k : Nat} {q : Program} {loose : List Str} {XP : (Str → Option Value) → Heap → Prop} {YP : World → Heap → Prop} {d : DefRec} {K : Params → PySem.W.Frag} {CX : World → CXT} {x : Str} (nm nm2 : Str)
    (hn : l.most = some n) (hn2 : n ≤ sizeLine) (hdf : d.params.defaults = []) (hr : Room k callerA) (hrec : ((recsOf q).any fun e => e.name == nm) = true) (hrec2 : ((recsOf q).any fun e => e.name == nm2) = true) (hY : ∀ (w : World) (h : Heap), YP w h → (K w.params).In h)
    (F : ∀ (w : World) (mg : Str → Option Value) (fa : Addr) (h : Heap), (K w.params).In h → h.Ns mainGlobals mg → mg d.name = some (.ref fa) → TabOf nm mg h → TabOf nm2 mg h → LamX.LawAtS l w (K w.params) (CX w) k n x mg fa h)
    (hCX : ∀ (w : World) (H : Hp) (s : Shared) (e : Value) (s' : Shared), CX w [] H s (fun _ _ _ => False) e s' → False) :
    PySem.W.WalkO q loose XP YP l.row.toRowW d [] (fun f vs => PySem.call f vs) := by
  refine Att.attach_callB hn hdf fun w s₀ s₁ mg mb fa o pm cd doc a vs ns G Y ho hd hcd hmg hobj hints hlen hbits hg => ?_
  have tabs : ∀ {z : Str}, ((recsOf q).any fun e => e.name == z) = true → TabOf z mg s₁.heap := fun {z} hz => by
    obtain ⟨dL, m1, m2⟩ := List.any_eq_true.mp hz
    obtain ⟨a', o', fd', c', P', g1, g2, g3, g4, _, ⟨oc, vc, e1, e2, e3, e4⟩, e5⟩ := G.T.tab dL m1
    rw [beq_iff_eq.mp m2] at g1
    exact ⟨a', o', fd', c', P', oc, vc, g1, g2, g3, g4, e1, e3, e4, e5⟩
  obtain ⟨fd, cs, sp, hT, nT, Cd, hb, hsp, hF⟩ := F w mg fa _ (hY w _ Y) G.T.g hmg (tabs hrec) (tabs hrec2)
  exact LamX.law_callTs (hY w _ Y) G.T.g G.T.b G.T.builtins G.T.nolimit hg hT nT Cd G.T.bmain hobj hints (Nat.le_trans hlen hn2) hr hF hb (fun H hH hS => hsp H a ns hlen hbits hH hS) fun H e s' => hCX w H s₁ e s'
/-! ### what the top has written -/
set_option maxHeartbeats 0 in
theorem all_mk {l : PySem.W.OpenLaw} {w : World} {K : PySem.W.Frag} {h : Heap} {mg : Str → Option Value} {fa : Addr} (X : K.In h) (G : h.Ns mainGlobals mg) (hfa : mg "law" = some (.ref fa)) (TO_is_move : TabOf "_is_move" mg h)
    {f_keeps_order : Addr} {od_keeps_order an_keeps_order : Option Addr} {sl_keeps_order : Array (Option Value)} {oc_keeps_order kV_keeps_order dc_keeps_order pm_keeps_order ct_keeps_order cd_keeps_order : Value}
    {f_first_order : Addr} {od_first_order an_first_order : Option Addr} {sl_first_order : Array (Option Value)} {oc_first_order kV_first_order dc_first_order pm_first_order ct_first_order cd_first_order : Value}
    {f_first_breaking : Addr} {od_first_breaking an_first_breaking : Option Addr} {sl_first_breaking : Array (Option Value)} {oc_first_breaking kV_first_breaking dc_first_breaking pm_first_breaking ct_first_breaking cd_first_breaking : Value}
    {f_keeps : Addr} {od_keeps an_keeps : Option Addr} {sl_keeps : Array (Option Value)} {oc_keeps kV_keeps dc_keeps pm_keeps ct_keeps cd_keeps : Value}
    {f_is_move : Addr} {od_is_move an_is_move : Option Addr} {sl_is_move : Array (Option Value)} {oc_is_move kV_is_move dc_is_move pm_is_move ct_is_move : Value}
    {cM_is_move tM_is_move : Addr} {eM_is_move : Value} {ddM_is_move : Option Addr} {vsM_is_move : Array Value} {slM_is_move : Array (Option Value)}
    {f_law_cell : Addr} {od_law_cell an_law_cell : Option Addr} {sl_law_cell : Array (Option Value)} {oc_law_cell kV_law_cell dc_law_cell pm_law_cell ct_law_cell cd_law_cell : Value}
    {f_law_dice : Addr} {od_law_dice an_law_dice : Option Addr} {sl_law_dice : Array (Option Value)} {oc_law_dice kV_law_dice dc_law_dice pm_law_dice ct_law_dice cd_law_dice : Value}
    {f_law_off : Addr} {od_law_off an_law_off : Option Addr} {sl_law_off : Array (Option Value)} {oc_law_off kV_law_off dc_law_off pm_law_off ct_law_off cd_law_off : Value}
    {f_law_chain : Addr} {od_law_chain an_law_chain : Option Addr} {sl_law_chain : Array (Option Value)} {oc_law_chain kV_law_chain dc_law_chain pm_law_chain ct_law_chain cd_law_chain : Value}
    {f_law_made : Addr} {od_law_made an_law_made : Option Addr} {sl_law_made : Array (Option Value)} {oc_law_made kV_law_made dc_law_made pm_law_made ct_law_made cd_law_made : Value}
    {f_law_orders : Addr} {od_law_orders an_law_orders : Option Addr} {sl_law_orders : Array (Option Value)} {oc_law_orders kV_law_orders dc_law_orders pm_law_orders ct_law_orders cd_law_orders : Value}
    {f_law_keeps : Addr} {od_law_keeps an_law_keeps : Option Addr} {sl_law_keeps : Array (Option Value)} {oc_law_keeps kV_law_keeps dc_law_keeps pm_law_keeps ct_law_keeps cd_law_keeps : Value}
    {f_law_refused : Addr} {od_law_refused an_law_refused : Option Addr} {sl_law_refused : Array (Option Value)} {oc_law_refused kV_law_refused dc_law_refused pm_law_refused ct_law_refused cd_law_refused : Value}
    {f_law : Addr} {od_law an_law : Option Addr} {sl_law : Array (Option Value)} {oc_law kV_law dc_law pm_law ct_law cd_law : Value}
    {C : Addr}
    {f_minit : Addr} {od_minit an_minit : Option Addr} {sl_minit : Array (Option Value)} {oc_minit kV_minit dc_minit pm_minit cd_minit ct_minit : Value}
    {f_mplaces : Addr} {od_mplaces an_mplaces : Option Addr} {sl_mplaces : Array (Option Value)} {oc_mplaces kV_mplaces dc_mplaces pm_mplaces cd_mplaces ct_mplaces : Value}
    {f_mtold : Addr} {od_mtold an_mtold : Option Addr} {sl_mtold : Array (Option Value)} {oc_mtold kV_mtold dc_mtold pm_mtold cd_mtold ct_mtold : Value}
    {tMOST_PLACES : Tok}
    {tMOST_MOVES : Tok}
    {tMOST_WEIGHT : Tok}
    {ALongError : Addr}
    {ABadChain : Addr}
    {ABadText : Addr}
    {ANoSuch : Addr}
    {ANotOne : Addr}
    {ANeverOne : Addr}
    {ANotOrdered : Addr}
    {ATooMany : Addr}
    (a_keeps_order : PySem.W.nsIn K mainGlobals "keeps_order" = some (some (.ref f_keeps_order)))
    (l_keeps_order : K.lookup f_keeps_order = some ⟨oc_keeps_order, od_keeps_order, .func (PySem.W.fnOf "keeps_order" "keeps_order" (defArgs sKeepsOrder) (defBody sKeepsOrder) (defScope sKeepsOrder) .none kV_keeps_order dc_keeps_order pm_keeps_order an_keeps_order cd_keeps_order ct_keeps_order), sl_keeps_order⟩)
    (c_keeps_order : PySem.W.codeIn K cd_keeps_order "keeps_order" = true)
    (k_keeps_order : PySem.W.keepIn K (.ref f_keeps_order) = true)
    (a_first_order : PySem.W.nsIn K mainGlobals "first_order" = some (some (.ref f_first_order)))
    (l_first_order : K.lookup f_first_order = some ⟨oc_first_order, od_first_order, .func (PySem.W.fnOf "first_order" "first_order" (defArgs sFirstOrder) (defBody sFirstOrder) (defScope sFirstOrder) .none kV_first_order dc_first_order pm_first_order an_first_order cd_first_order ct_first_order), sl_first_order⟩)
    (c_first_order : PySem.W.codeIn K cd_first_order "first_order" = true)
    (k_first_order : PySem.W.keepIn K (.ref f_first_order) = true)
    (a_first_breaking : PySem.W.nsIn K mainGlobals "_first_breaking" = some (some (.ref f_first_breaking)))
    (l_first_breaking : K.lookup f_first_breaking = some ⟨oc_first_breaking, od_first_breaking, .func (PySem.W.fnOf "_first_breaking" "_first_breaking" (defArgs sFirstBreaking) (defBody sFirstBreaking) (defScope sFirstBreaking) .none kV_first_breaking dc_first_breaking pm_first_breaking an_first_breaking cd_first_breaking ct_first_breaking), sl_first_breaking⟩)
    (c_first_breaking : PySem.W.codeIn K cd_first_breaking "_first_breaking" = true)
    (k_first_breaking : PySem.W.keepIn K (.ref f_first_breaking) = true)
    (a_keeps : PySem.W.nsIn K mainGlobals "_keeps" = some (some (.ref f_keeps)))
    (l_keeps : K.lookup f_keeps = some ⟨oc_keeps, od_keeps, .func (PySem.W.fnOf "_keeps" "_keeps" (defArgs sKeeps) (defBody sKeeps) (defScope sKeeps) .none kV_keeps dc_keeps pm_keeps an_keeps cd_keeps ct_keeps), sl_keeps⟩)
    (c_keeps : PySem.W.codeIn K cd_keeps "_keeps" = true)
    (k_keeps : PySem.W.keepIn K (.ref f_keeps) = true)
    (a_is_move : PySem.W.nsIn K mainGlobals "_is_move" = some (some (.ref f_is_move)))
    (l_is_move : K.lookup f_is_move = some ⟨oc_is_move, od_is_move, .func (PySem.W.fnOf "_is_move" "_is_move" (defArgs sIsMove) (defBody sIsMove) (defScope sIsMove) .none kV_is_move dc_is_move pm_is_move an_is_move (.ref cM_is_move) ct_is_move), sl_is_move⟩)
    (c_is_move : PySem.W.codeIn K (.ref cM_is_move) "_is_move" = true)
    (k_is_move : PySem.W.keepIn K (.ref f_is_move) = true)
    (a_law_cell : PySem.W.nsIn K mainGlobals "_law_cell" = some (some (.ref f_law_cell)))
    (l_law_cell : K.lookup f_law_cell = some ⟨oc_law_cell, od_law_cell, .func (PySem.W.fnOf "_law_cell" "_law_cell" (defArgs sCell) (defBody sCell) (defScope sCell) .none kV_law_cell dc_law_cell pm_law_cell an_law_cell cd_law_cell ct_law_cell), sl_law_cell⟩)
    (c_law_cell : PySem.W.codeIn K cd_law_cell "_law_cell" = true)
    (k_law_cell : PySem.W.keepIn K (.ref f_law_cell) = true)
    (a_law_dice : PySem.W.nsIn K mainGlobals "_law_dice" = some (some (.ref f_law_dice)))
    (l_law_dice : K.lookup f_law_dice = some ⟨oc_law_dice, od_law_dice, .func (PySem.W.fnOf "_law_dice" "_law_dice" (defArgs sDice) (defBody sDice) (defScope sDice) .none kV_law_dice dc_law_dice pm_law_dice an_law_dice cd_law_dice ct_law_dice), sl_law_dice⟩)
    (c_law_dice : PySem.W.codeIn K cd_law_dice "_law_dice" = true)
    (k_law_dice : PySem.W.keepIn K (.ref f_law_dice) = true)
    (a_law_off : PySem.W.nsIn K mainGlobals "_law_off" = some (some (.ref f_law_off)))
    (l_law_off : K.lookup f_law_off = some ⟨oc_law_off, od_law_off, .func (PySem.W.fnOf "_law_off" "_law_off" (defArgs sOff) (defBody sOff) (defScope sOff) .none kV_law_off dc_law_off pm_law_off an_law_off cd_law_off ct_law_off), sl_law_off⟩)
    (c_law_off : PySem.W.codeIn K cd_law_off "_law_off" = true)
    (k_law_off : PySem.W.keepIn K (.ref f_law_off) = true)
    (a_law_chain : PySem.W.nsIn K mainGlobals "_law_chain" = some (some (.ref f_law_chain)))
    (l_law_chain : K.lookup f_law_chain = some ⟨oc_law_chain, od_law_chain, .func (PySem.W.fnOf "_law_chain" "_law_chain" (defArgs sChain) (defBody sChain) (defScope sChain) .none kV_law_chain dc_law_chain pm_law_chain an_law_chain cd_law_chain ct_law_chain), sl_law_chain⟩)
    (c_law_chain : PySem.W.codeIn K cd_law_chain "_law_chain" = true)
    (k_law_chain : PySem.W.keepIn K (.ref f_law_chain) = true)
    (a_law_made : PySem.W.nsIn K mainGlobals "_law_made" = some (some (.ref f_law_made)))
    (l_law_made : K.lookup f_law_made = some ⟨oc_law_made, od_law_made, .func (PySem.W.fnOf "_law_made" "_law_made" (defArgs sMade) (defBody sMade) (defScope sMade) .none kV_law_made dc_law_made pm_law_made an_law_made cd_law_made ct_law_made), sl_law_made⟩)
    (c_law_made : PySem.W.codeIn K cd_law_made "_law_made" = true)
    (k_law_made : PySem.W.keepIn K (.ref f_law_made) = true)
    (a_law_orders : PySem.W.nsIn K mainGlobals "_law_orders" = some (some (.ref f_law_orders)))
    (l_law_orders : K.lookup f_law_orders = some ⟨oc_law_orders, od_law_orders, .func (PySem.W.fnOf "_law_orders" "_law_orders" (defArgs sLawOrders) (defBody sLawOrders) (defScope sLawOrders) .none kV_law_orders dc_law_orders pm_law_orders an_law_orders cd_law_orders ct_law_orders), sl_law_orders⟩)
    (c_law_orders : PySem.W.codeIn K cd_law_orders "_law_orders" = true)
    (k_law_orders : PySem.W.keepIn K (.ref f_law_orders) = true)
    (a_law_keeps : PySem.W.nsIn K mainGlobals "_law_keeps" = some (some (.ref f_law_keeps)))
    (l_law_keeps : K.lookup f_law_keeps = some ⟨oc_law_keeps, od_law_keeps, .func (PySem.W.fnOf "_law_keeps" "_law_keeps" (defArgs sLawKeeps) (defBody sLawKeeps) (defScope sLawKeeps) .none kV_law_keeps dc_law_keeps pm_law_keeps an_law_keeps cd_law_keeps ct_law_keeps), sl_law_keeps⟩)
    (c_law_keeps : PySem.W.codeIn K cd_law_keeps "_law_keeps" = true)
    (k_law_keeps : PySem.W.keepIn K (.ref f_law_keeps) = true)
    (a_law_refused : PySem.W.nsIn K mainGlobals "_law_refused" = some (some (.ref f_law_refused)))
    (l_law_refused : K.lookup f_law_refused = some ⟨oc_law_refused, od_law_refused, .func (PySem.W.fnOf "_law_refused" "_law_refused" (defArgs sLawRefused) (defBody sLawRefused) (defScope sLawRefused) .none kV_law_refused dc_law_refused pm_law_refused an_law_refused cd_law_refused ct_law_refused), sl_law_refused⟩)
    (c_law_refused : PySem.W.codeIn K cd_law_refused "_law_refused" = true)
    (k_law_refused : PySem.W.keepIn K (.ref f_law_refused) = true)
    (a_law : PySem.W.nsIn K mainGlobals "law" = some (some (.ref f_law)))
    (l_law : K.lookup f_law = some ⟨oc_law, od_law, .func (PySem.W.fnOf "law" "law" (defArgs sLaw) (defBody sLaw) (defScope sLaw) .none kV_law dc_law pm_law an_law cd_law ct_law), sl_law⟩)
    (c_law : PySem.W.codeIn K cd_law "law" = true)
    (k_law : PySem.W.keepIn K (.ref f_law) = true)
    (aC : PySem.W.nsIn K mainGlobals "Chain" = some (some (.ref C)))
    (a_minit : PySem.W.findIn K (.ref C) "__init__" = some (some (.ref f_minit)))
    (i_minit : PySem.W.isFn K (.ref f_minit) = true)
    (l_minit : K.lookup f_minit = some ⟨oc_minit, od_minit, .func (PySem.W.fnOf "__init__" "Chain.__init__" (defArgs (inClass cChain 0)) (defBody (inClass cChain 0)) (defScope (inClass cChain 0)) .none kV_minit dc_minit pm_minit an_minit cd_minit ct_minit), sl_minit⟩)
    (c_minit : PySem.W.codeIn K cd_minit "Chain.__init__" = true)
    (k_minit : PySem.W.keepIn K (.ref f_minit) = true)
    (a_mplaces : PySem.W.findIn K (.ref C) "places" = some (some (.ref f_mplaces)))
    (i_mplaces : PySem.W.isFn K (.ref f_mplaces) = true)
    (l_mplaces : K.lookup f_mplaces = some ⟨oc_mplaces, od_mplaces, .func (PySem.W.fnOf "places" "Chain.places" (defArgs (inClass cChain 1)) (defBody (inClass cChain 1)) (defScope (inClass cChain 1)) .none kV_mplaces dc_mplaces pm_mplaces an_mplaces cd_mplaces ct_mplaces), sl_mplaces⟩)
    (c_mplaces : PySem.W.codeIn K cd_mplaces "Chain.places" = true)
    (k_mplaces : PySem.W.keepIn K (.ref f_mplaces) = true)
    (a_mtold : PySem.W.findIn K (.ref C) "told" = some (some (.ref f_mtold)))
    (i_mtold : PySem.W.isFn K (.ref f_mtold) = true)
    (l_mtold : K.lookup f_mtold = some ⟨oc_mtold, od_mtold, .func (PySem.W.fnOf "told" "Chain.told" (defArgs (inClass cChain 2)) (defBody (inClass cChain 2)) (defScope (inClass cChain 2)) .none kV_mtold dc_mtold pm_mtold an_mtold cd_mtold ct_mtold), sl_mtold⟩)
    (c_mtold : PySem.W.codeIn K cd_mtold "Chain.told" = true)
    (k_mtold : PySem.W.keepIn K (.ref f_mtold) = true)
    (pg : PySem.W.plainGet K C Str.empty = true)
    (hd : PySem.W.hasDictIn K C = true)
    (po : PySem.W.plainOver K C = true)
    (sa : PySem.W.findIn K (.ref C) "__setattr__" = some (some (.builtin "object.__setattr__")))
    (mk : PySem.W.makesIn K C = true)
    (kc : PySem.W.keepIn K (.ref C) = true)
    (nM : PySem.W.findIn K (.ref C) "_many" = some none)
    (nV : PySem.W.findIn K (.ref C) "_moves" = some none)
    (gMOST_PLACES : PySem.W.nsIn K mainGlobals "MOST_PLACES" = some (some (.int 6 tMOST_PLACES)))
    (gMOST_MOVES : PySem.W.nsIn K mainGlobals "MOST_MOVES" = some (some (.int 8 tMOST_MOVES)))
    (gMOST_WEIGHT : PySem.W.nsIn K mainGlobals "MOST_WEIGHT" = some (some (.int 99 tMOST_WEIGHT)))
    (zlen : PySem.W.nsIn K mainGlobals "len" = some none)
    (zabs : PySem.W.nsIn K mainGlobals "abs" = some none)
    (zmax : PySem.W.nsIn K mainGlobals "max" = some none)
    (zmin : PySem.W.nsIn K mainGlobals "min" = some none)
    (zint : PySem.W.nsIn K mainGlobals "int" = some none)
    (zrange : PySem.W.nsIn K mainGlobals "range" = some none)
    (zsorted : PySem.W.nsIn K mainGlobals "sorted" = some none)
    (ztuple : PySem.W.nsIn K mainGlobals "tuple" = some none)
    (zisinstance : PySem.W.nsIn K mainGlobals "isinstance" = some none)
    (zall : PySem.W.nsIn K mainGlobals "all" = some none)
    (zenumerate : PySem.W.nsIn K mainGlobals "enumerate" = some none)
    (zlist : PySem.W.nsIn K mainGlobals "list" = some none)
    (zbool : PySem.W.nsIn K mainGlobals "bool" = some none)
    (zValueError : PySem.W.nsIn K mainGlobals "ValueError" = some none)
    (eLongError : PySem.W.nsIn K mainGlobals "LongError" = some (some (.ref ALongError)))
    (eBadChain : PySem.W.nsIn K mainGlobals "BadChain" = some (some (.ref ABadChain)))
    (eBadText : PySem.W.nsIn K mainGlobals "BadText" = some (some (.ref ABadText)))
    (eNoSuch : PySem.W.nsIn K mainGlobals "NoSuch" = some (some (.ref ANoSuch)))
    (eNotOne : PySem.W.nsIn K mainGlobals "NotOne" = some (some (.ref ANotOne)))
    (eNeverOne : PySem.W.nsIn K mainGlobals "NeverOne" = some (some (.ref ANeverOne)))
    (eNotOrdered : PySem.W.nsIn K mainGlobals "NotOrdered" = some (some (.ref ANotOrdered)))
    (eTooMany : PySem.W.nsIn K mainGlobals "TooMany" = some (some (.ref ATooMany)))
    (xkNoSuch : PySem.W.keepIn K (.ref ANoSuch) = true)
    (xxNoSuch : PySem.W.excIn K ANoSuch [.type "ValueError", .type "Exception", .type "BaseException", .type "object"] "ValueError.__new__" = true)
    (xbNoSuch : PySem.W.subIn K (.ref ANoSuch) (.type "BaseException") = some true)
    (xtNoSuch : PySem.W.typeIn K (.ref ANoSuch) = some (.type "type"))
    (xex : PySem.W.exmOne K (.ref ANoSuch) (.ref ALongError) = some true)
    (xg : PySem.W.findIn K (.ref ANoSuch) "__getattribute__" = some (some (.builtin "BaseException.__getattribute__")))
    (xh : PySem.W.findIn K (.ref ANoSuch) "__getattr__" = some none)
    (xd : PySem.W.hasDictIn K ANoSuch = true)
    (xa : PySem.W.findIn K (.ref ANoSuch) "__class__" = some (some (.builtin "object.__class__")))
    (xn : PySem.W.specialIn K (.builtin "object.__class__") "__get__" = some (some (.builtin "getset_descriptor.__get__")))
    (xs : PySem.W.takesIn K (.builtin "object.__class__") = some true)
    (xm : PySem.W.mroIn K ANoSuch (.type "object") = some true)
    (xno : PySem.W.kitAny K (.ref ANoSuch) [.ref ABadChain, .ref ABadText, .ref ANeverOne, .ref ANotOne, .ref ANotOrdered, .ref ATooMany] = some false)
    (xy : PySem.W.kitOne K (.ref ANoSuch) (.ref ANoSuch) = some true)
    (xv : PySem.W.kitOne K (.ref ANoSuch) (.type "ValueError") = some true)
    (gperm : PySem.W.nsIn K mainGlobals "permutations" = some (some (.type "itertools.permutations")))
    (lM_is_move : K.lookup cM_is_move = some ⟨eM_is_move, ddM_is_move, .fields vsM_is_move, slM_is_move⟩)
    (vM_is_move : vsM_is_move[11]? = some (.ref tM_is_move))
    (hM_is_move : PySem.W.codeHdIn K cM_is_move tM_is_move = true)
    (nT_is_move : K.lookup tM_is_move = none) :
    LamX.LawAtS l w K CX0 5 63 "_law_script" mg fa h := by
  have e := hfa.symm.trans (PySem.W.mg_of X G a_law)
  cases e
  have F_keeps_order := fun_mk (st := sKeepsOrder) l_keeps_order c_keeps_order k_keeps_order
  have b_keeps_order := F_keeps_order.binds (ps := ["chain", "order"]) fun _ _ _ _ _ _ us hl => match us, hl with | [_, _], _ => rfl
  have g_keeps_order := PySem.W.mg_of X G a_keeps_order
  have D_keeps_order : Df K mg "keeps_order" sKeepsOrder ["chain", "order"] f_keeps_order _ := ⟨F_keeps_order, b_keeps_order, g_keeps_order⟩
  have F_first_order := fun_mk (st := sFirstOrder) l_first_order c_first_order k_first_order
  have b_first_order := F_first_order.binds (ps := ["chain"]) fun _ _ _ _ _ _ us hl => match us, hl with | [_], _ => rfl
  have g_first_order := PySem.W.mg_of X G a_first_order
  have D_first_order : Df K mg "first_order" sFirstOrder ["chain"] f_first_order _ := ⟨F_first_order, b_first_order, g_first_order⟩
  have F_first_breaking := fun_mk (st := sFirstBreaking) l_first_breaking c_first_breaking k_first_breaking
  have b_first_breaking := F_first_breaking.binds (ps := ["chain", "order"]) fun _ _ _ _ _ _ us hl => match us, hl with | [_, _], _ => rfl
  have g_first_breaking := PySem.W.mg_of X G a_first_breaking
  have D_first_breaking : Df K mg "_first_breaking" sFirstBreaking ["chain", "order"] f_first_breaking _ := ⟨F_first_breaking, b_first_breaking, g_first_breaking⟩
  have F_keeps := fun_mk (st := sKeeps) l_keeps c_keeps k_keeps
  have b_keeps := F_keeps.binds (ps := ["whither", "order"]) fun _ _ _ _ _ _ us hl => match us, hl with | [_, _], _ => rfl
  have g_keeps := PySem.W.mg_of X G a_keeps
  have D_keeps : Df K mg "_keeps" sKeeps ["whither", "order"] f_keeps _ := ⟨F_keeps, b_keeps, g_keeps⟩
  have FM_is_move : FunT K "_is_move" "_is_move" sIsMove f_is_move _ cM_is_move := ⟨⟨_, _, _, _, _, _, _, _, rfl, l_is_move, c_is_move⟩, k_is_move⟩
  have F_is_move := fun_mk (st := sIsMove) l_is_move c_is_move k_is_move
  have b_is_move := F_is_move.binds (ps := ["many", "move"]) fun _ _ _ _ _ _ us hl => match us, hl with | [_, _], _ => rfl
  have g_is_move := PySem.W.mg_of X G a_is_move
  have D_is_move : Df K mg "_is_move" sIsMove ["many", "move"] f_is_move _ := ⟨F_is_move, b_is_move, g_is_move⟩
  have F_law_cell := fun_mk (st := sCell) l_law_cell c_law_cell k_law_cell
  have b_law_cell := F_law_cell.binds (ps := ["_law_script", "_law_k"]) fun _ _ _ _ _ _ us hl => match us, hl with | [_, _], _ => rfl
  have g_law_cell := PySem.W.mg_of X G a_law_cell
  have D_law_cell : Df K mg "_law_cell" sCell ["_law_script", "_law_k"] f_law_cell _ := ⟨F_law_cell, b_law_cell, g_law_cell⟩
  have F_law_dice := fun_mk (st := sDice) l_law_dice c_law_dice k_law_dice
  have b_law_dice := F_law_dice.binds (ps := ["_law_script", "_law_k"]) fun _ _ _ _ _ _ us hl => match us, hl with | [_, _], _ => rfl
  have g_law_dice := PySem.W.mg_of X G a_law_dice
  have D_law_dice : Df K mg "_law_dice" sDice ["_law_script", "_law_k"] f_law_dice _ := ⟨F_law_dice, b_law_dice, g_law_dice⟩
  have F_law_off := fun_mk (st := sOff) l_law_off c_law_off k_law_off
  have b_law_off := F_law_off.binds (ps := ["_law_d", "_law_most"]) fun _ _ _ _ _ _ us hl => match us, hl with | [_, _], _ => rfl
  have g_law_off := PySem.W.mg_of X G a_law_off
  have D_law_off : Df K mg "_law_off" sOff ["_law_d", "_law_most"] f_law_off _ := ⟨F_law_off, b_law_off, g_law_off⟩
  have F_law_chain := fun_mk (st := sChain) l_law_chain c_law_chain k_law_chain
  have b_law_chain := F_law_chain.binds (ps := ["_law_d", "_law_most"]) fun _ _ _ _ _ _ us hl => match us, hl with | [_, _], _ => rfl
  have g_law_chain := PySem.W.mg_of X G a_law_chain
  have D_law_chain : Df K mg "_law_chain" sChain ["_law_d", "_law_most"] f_law_chain _ := ⟨F_law_chain, b_law_chain, g_law_chain⟩
  have F_law_made := fun_mk (st := sMade) l_law_made c_law_made k_law_made
  have b_law_made := F_law_made.binds (ps := ["_law_told"]) fun _ _ _ _ _ _ us hl => match us, hl with | [_], _ => rfl
  have g_law_made := PySem.W.mg_of X G a_law_made
  have D_law_made : Df K mg "_law_made" sMade ["_law_told"] f_law_made _ := ⟨F_law_made, b_law_made, g_law_made⟩
  have F_law_orders := fun_mk (st := sLawOrders) l_law_orders c_law_orders k_law_orders
  have b_law_orders := F_law_orders.binds (ps := ["_law_many"]) fun _ _ _ _ _ _ us hl => match us, hl with | [_], _ => rfl
  have g_law_orders := PySem.W.mg_of X G a_law_orders
  have D_law_orders : Df K mg "_law_orders" sLawOrders ["_law_many"] f_law_orders _ := ⟨F_law_orders, b_law_orders, g_law_orders⟩
  have F_law_keeps := fun_mk (st := sLawKeeps) l_law_keeps c_law_keeps k_law_keeps
  have b_law_keeps := F_law_keeps.binds (ps := ["_law_told", "_law_order"]) fun _ _ _ _ _ _ us hl => match us, hl with | [_, _], _ => rfl
  have g_law_keeps := PySem.W.mg_of X G a_law_keeps
  have D_law_keeps : Df K mg "_law_keeps" sLawKeeps ["_law_told", "_law_order"] f_law_keeps _ := ⟨F_law_keeps, b_law_keeps, g_law_keeps⟩
  have F_law_refused := fun_mk (st := sLawRefused) l_law_refused c_law_refused k_law_refused
  have b_law_refused := F_law_refused.binds (ps := ["_law_chain_here", "_law_order"]) fun _ _ _ _ _ _ us hl => match us, hl with | [_, _], _ => rfl
  have g_law_refused := PySem.W.mg_of X G a_law_refused
  have D_law_refused : Df K mg "_law_refused" sLawRefused ["_law_chain_here", "_law_order"] f_law_refused _ := ⟨F_law_refused, b_law_refused, g_law_refused⟩
  have F_law := fun_mk (st := sLaw) l_law c_law k_law
  have g_law := PySem.W.mg_of X G a_law
  have F_minit := fun_mk (st := inClass cChain 0) l_minit c_minit k_minit
  have b_minit := F_minit.binds (ps := ["self", "many", "moves"]) fun _ _ _ _ _ _ us hl => match us, hl with | [_, _, _], _ => rfl
  have F_mplaces := fun_mk (st := inClass cChain 1) l_mplaces c_mplaces k_mplaces
  have b_mplaces := F_mplaces.binds (ps := ["self"]) fun _ _ _ _ _ _ us hl => match us, hl with | [_], _ => rfl
  have F_mtold := fun_mk (st := inClass cChain 2) l_mtold c_mtold k_mtold
  have b_mtold := F_mtold.binds (ps := ["self"]) fun _ _ _ _ _ _ us hl => match us, hl with | [_], _ => rfl
  have gC := PySem.W.mg_of X G aC
  have GMOST_PLACES := PySem.W.mg_of X G gMOST_PLACES
  have GMOST_MOVES := PySem.W.mg_of X G gMOST_MOVES
  have GMOST_WEIGHT := PySem.W.mg_of X G gMOST_WEIGHT
  have Zlen := PySem.W.mg_none_of X G zlen
  have Zabs := PySem.W.mg_none_of X G zabs
  have Zmax := PySem.W.mg_none_of X G zmax
  have Zmin := PySem.W.mg_none_of X G zmin
  have Zint := PySem.W.mg_none_of X G zint
  have Zrange := PySem.W.mg_none_of X G zrange
  have Zsorted := PySem.W.mg_none_of X G zsorted
  have Ztuple := PySem.W.mg_none_of X G ztuple
  have Zisinstance := PySem.W.mg_none_of X G zisinstance
  have Zall := PySem.W.mg_none_of X G zall
  have Zenumerate := PySem.W.mg_none_of X G zenumerate
  have Zlist := PySem.W.mg_none_of X G zlist
  have Zbool := PySem.W.mg_none_of X G zbool
  have ZValueError := PySem.W.mg_none_of X G zValueError
  have tabE_is_move : h.get? tM_is_move = some { cls := .none, data := .fields #[] } := by
    obtain ⟨a', o', fd', c', P', oc, vc, g1, g2, g3, g4, e1, e3, e4, e5⟩ := TO_is_move
    rw [g_is_move] at g1
    cases g1
    have q1 := X _ _ l_is_move
    rw [q1] at g2
    cases g2
    cases g3
    cases g4
    have q2 := X _ _ lM_is_move
    rw [q2] at e1
    cases e1
    cases e3
    rw [vM_is_move] at e4
    cases e4
    exact e5
  have LT : LawTxt K mg f_law_cell f_law_dice f_law_off _ _ _ := ⟨F_law_cell, b_law_cell, g_law_cell, F_law_dice, b_law_dice, g_law_dice, F_law_off, b_law_off, g_law_off, Zlen, Zabs, Zmax, Zmin, Zint, Zrange, Zsorted, Ztuple⟩
  have CL' : Cls K C := ⟨pg, hd, po, sa⟩
  have CH : ChTxt K mg f_is_move cM_is_move tM_is_move _ C f_minit _ := ⟨FM_is_move, b_is_move, g_is_move, F_minit, b_minit, ⟨mk, a_minit, i_minit, kc⟩, CL', nM, nV, gC, ⟨_, GMOST_PLACES⟩, ⟨_, GMOST_MOVES⟩, ⟨_, GMOST_WEIGHT⟩, Zlen, Zisinstance, Ztuple, Zrange, Zall, Zenumerate, Zlist⟩
  have CM : ChM K C f_mplaces f_mtold _ _ := ⟨F_mplaces, b_mplaces, ⟨a_mplaces, i_mplaces, k_mplaces⟩, F_mtold, b_mtold, ⟨a_mtold, i_mtold, k_mtold⟩, CL', nM, nV⟩
  have N_NoSuch : OwnE K mg "NoSuch" ANoSuch := ⟨PySem.W.mg_of X G eNoSuch, xkNoSuch, xxNoSuch, xbNoSuch, xtNoSuch⟩
  have R : RefG K mg "NoSuch" "BadChain" "BadText" "NeverOne" "NotOne" "NotOrdered" "TooMany" ALongError ANoSuch ABadChain ABadText ANeverOne ANotOne ANotOrdered ATooMany := ⟨PySem.W.mg_of X G eLongError, xex, N_NoSuch, ⟨xg, xh, xbNoSuch, xd, xa, xn, xs, xm⟩, PySem.W.mg_of X G eBadChain, PySem.W.mg_of X G eBadText, PySem.W.mg_of X G eNeverOne, PySem.W.mg_of X G eNotOne, PySem.W.mg_of X G eNotOrdered, PySem.W.mg_of X G eTooMany, xno, xy, xv, Zisinstance, ZValueError⟩
  refine ⟨PySem.W.fnOf "law" "law" (defArgs sLaw) (defBody sLaw) (defScope sLaw) .none kV_law dc_law pm_law an_law cd_law ct_law, [(cM_is_move, tM_is_move)], spLaw K tM_is_move, fun p hp => ?_, fun p hp => ?_, fun p hp => ?_, fun s v => .of_eq rfl, fun H a ns hl hbits hT hS => ?_, fun base hK hG hTB => ?_⟩
  · have e : p = (cM_is_move, tM_is_move) := by simpa using hp
    rw [e]
    exact tabE_is_move
  · have e : p = (cM_is_move, tM_is_move) := by simpa using hp
    rw [e]
    exact nT_is_move
  · have e : p = (cM_is_move, tM_is_move) := by simpa using hp
    rw [e]
    exact PySem.W.codeHd_of_K X hM_is_move
  · exact ⟨a, ns, rfl, hS, hl, ⟨#[], hT (cM_is_move, tM_is_move) (by simp), by simp [TriplesOk]⟩, fun _ => rfl⟩
  · have TBx := hTB (cM_is_move, tM_is_move) (by simp)
    have TB : GxR.TabB base mg cM_is_move tM_is_move := ⟨TBx.code, TBx.bm, TBx.gP⟩
    have GB : FnOk l.prog w K mg base CX0 2 f_first_breaking _ ["chain", "order"] (spFb C) := ok_fb F_first_breaking D_keeps CM Zsorted Zlist Zrange Zenumerate
    have GKo : FnOk l.prog w K mg base CX0 3 f_keeps_order _ ["chain", "order"] (spKo C) := ok_ko F_keeps_order D_first_breaking GB
    have GFo : FnOk l.prog w K mg base CX0 4 f_first_order _ ["chain"] (spFo C) := ok_fo F_first_order D_keeps_order GKo CM Zlist Zrange (PySem.W.mg_of X G gperm)
    have GBX : FnOk l.prog w K mg base (L2.CX l.prog w) 2 f_first_breaking _ ["chain", "order"] (spFbX C ANoSuch) := ok_fbX F_first_breaking N_NoSuch CM Zsorted Zlist Zrange
    have GKX : FnOk l.prog w K mg base (L2.CX l.prog w) 3 f_keeps_order _ ["chain", "order"] (spFbX C ANoSuch) := ok_koX F_keeps_order D_first_breaking GBX
    have GF : FnOk l.prog w K mg base CX0 4 f_law_refused _ ["_law_chain_here", "_law_order"] (spRf C) := ok_refused F_law_refused R F_keeps_order.kp b_keeps_order g_keeps_order GKX
    have GM : FnOk l.prog w K mg base CX0 4 f_law_made _ ["_law_told"] (spMade C tM_is_move) := ok_made F_law_made CH TB
    exact ok_law F_law LT D_law_chain D_law_made D_law_orders D_keeps_order D_law_keeps D_first_order D_law_refused GM GKo GFo GF Zlist Zisinstance Zbool
end Lg
open PySem PySem.W PyProof.Rows
set_option maxRecDepth 100000 in
set_option maxHeartbeats 0 in
theorem PySem.Challenge.cw_longago_k09_orders_kept_holds : PySem.Challenge.rw_longago_k09_orders_kept.Holds := by
  w_on; o_law; k_head; (case hw => w_witness2)
  k_fill
  refine Lg.walk_tab (l := PySem.Challenge.rw_longago_k09_orders_kept) (n := 63) (k := 5) (x := "_law_script") (CX := fun _ => L2.CX0) "_is_move" rfl (by decide) rfl ⟨rfl, by decide, by decide⟩ (by decide +kernel) (fun w h Y => PySem.W.kIn_of Y) ?F (fun _ _ _ _ _ z => z)
  case F =>
    intro w mg fa h KX G hmg TO0
    refine' Lg.all_mk KX G hmg TO0 ?a_keeps_order ?l_keeps_order ?c_keeps_order ?k_keeps_order ?a_first_order ?l_first_order ?c_first_order ?k_first_order ?a_first_breaking ?l_first_breaking ?c_first_breaking ?k_first_breaking ?a_keeps ?l_keeps ?c_keeps ?k_keeps ?a_is_move ?l_is_move ?c_is_move ?k_is_move ?a_law_cell ?l_law_cell ?c_law_cell ?k_law_cell ?a_law_dice ?l_law_dice ?c_law_dice ?k_law_dice ?a_law_off ?l_law_off ?c_law_off ?k_law_off ?a_law_chain ?l_law_chain ?c_law_chain ?k_law_chain ?a_law_made ?l_law_made ?c_law_made ?k_law_made ?a_law_orders ?l_law_orders ?c_law_orders ?k_law_orders ?a_law_keeps ?l_law_keeps ?c_law_keeps ?k_law_keeps ?a_law_refused ?l_law_refused ?c_law_refused ?k_law_refused ?a_law ?l_law ?c_law ?k_law ?aC ?a_minit ?i_minit ?l_minit ?c_minit ?k_minit ?a_mplaces ?i_mplaces ?l_mplaces ?c_mplaces ?k_mplaces ?a_mtold ?i_mtold ?l_mtold ?c_mtold ?k_mtold ?pg ?hd ?po ?sa ?mk ?kc ?nM ?nV ?gMOST_PLACES ?gMOST_MOVES ?gMOST_WEIGHT ?zlen ?zabs ?zmax ?zmin ?zint ?zrange ?zsorted ?ztuple ?zisinstance ?zall ?zenumerate ?zlist ?zbool ?zValueError ?eLongError ?eBadChain ?eBadText ?eNoSuch ?eNotOne ?eNeverOne ?eNotOrdered ?eTooMany ?xkNoSuch ?xxNoSuch ?xbNoSuch ?xtNoSuch ?xex ?xg ?xh ?xd ?xa ?xn ?xs ?xm ?xno ?xy ?xv ?gperm ?lM_is_move ?vM_is_move ?hM_is_move ?nT_is_move
    (case a_keeps_order => k_is)
    (case l_keeps_order => k_is)
    (case c_keeps_order => k_is)
    (case k_keeps_order => k_is)
    (case a_first_order => k_is)
    (case l_first_order => k_is)
    (case c_first_order => k_is)
    (case k_first_order => k_is)
    (case a_first_breaking => k_is)
    (case l_first_breaking => k_is)
    (case c_first_breaking => k_is)
    (case k_first_breaking => k_is)
    (case a_keeps => k_is)
    (case l_keeps => k_is)
    (case c_keeps => k_is)
    (case k_keeps => k_is)
    (case a_is_move => k_is)
    (case l_is_move => k_is)
    (case c_is_move => k_is)
    (case k_is_move => k_is)
    (case a_law_cell => k_is)
    (case l_law_cell => k_is)
    (case c_law_cell => k_is)
    (case k_law_cell => k_is)
    (case a_law_dice => k_is)
    (case l_law_dice => k_is)
    (case c_law_dice => k_is)
    (case k_law_dice => k_is)
    (case a_law_off => k_is)
    (case l_law_off => k_is)
    (case c_law_off => k_is)
    (case k_law_off => k_is)
    (case a_law_chain => k_is)
    (case l_law_chain => k_is)
    (case c_law_chain => k_is)
    (case k_law_chain => k_is)
    (case a_law_made => k_is)
    (case l_law_made => k_is)
    (case c_law_made => k_is)
    (case k_law_made => k_is)
    (case a_law_orders => k_is)
    (case l_law_orders => k_is)
    (case c_law_orders => k_is)
    (case k_law_orders => k_is)
    (case a_law_keeps => k_is)
    (case l_law_keeps => k_is)
    (case c_law_keeps => k_is)
    (case k_law_keeps => k_is)
    (case a_law_refused => k_is)
    (case l_law_refused => k_is)
    (case c_law_refused => k_is)
    (case k_law_refused => k_is)
    (case a_law => k_is)
    (case l_law => k_is)
    (case c_law => k_is)
    (case k_law => k_is)
    (case aC => k_is)
    (case a_minit => k_is)
    (case i_minit => k_is)
    (case l_minit => k_is)
    (case c_minit => k_is)
    (case k_minit => k_is)
    (case a_mplaces => k_is)
    (case i_mplaces => k_is)
    (case l_mplaces => k_is)
    (case c_mplaces => k_is)
    (case k_mplaces => k_is)
    (case a_mtold => k_is)
    (case i_mtold => k_is)
    (case l_mtold => k_is)
    (case c_mtold => k_is)
    (case k_mtold => k_is)
    (case pg => k_is)
    (case hd => k_is)
    (case po => k_is)
    (case sa => k_is)
    (case mk => k_is)
    (case kc => k_is)
    (case nM => k_is)
    (case nV => k_is)
    (case gMOST_PLACES => k_is)
    (case gMOST_MOVES => k_is)
    (case gMOST_WEIGHT => k_is)
    (case zlen => k_is)
    (case zabs => k_is)
    (case zmax => k_is)
    (case zmin => k_is)
    (case zint => k_is)
    (case zrange => k_is)
    (case zsorted => k_is)
    (case ztuple => k_is)
    (case zisinstance => k_is)
    (case zall => k_is)
    (case zenumerate => k_is)
    (case zlist => k_is)
    (case zbool => k_is)
    (case zValueError => k_is)
    (case eLongError => first | k_is | rfl | decide +kernel)
    (case eBadChain => first | k_is | rfl | decide +kernel)
    (case eBadText => first | k_is | rfl | decide +kernel)
    (case eNoSuch => first | k_is | rfl | decide +kernel)
    (case eNotOne => first | k_is | rfl | decide +kernel)
    (case eNeverOne => first | k_is | rfl | decide +kernel)
    (case eNotOrdered => first | k_is | rfl | decide +kernel)
    (case eTooMany => first | k_is | rfl | decide +kernel)
    (case xkNoSuch => first | k_is | rfl | decide +kernel)
    (case xxNoSuch => k_exc)
    (case xbNoSuch => first | k_is | rfl | decide +kernel)
    (case xtNoSuch => first | k_is | rfl | decide +kernel)
    (case xex => first | k_is | rfl | decide +kernel)
    (case xg => first | k_is | rfl | decide +kernel)
    (case xh => first | k_is | rfl | decide +kernel)
    (case xd => first | k_is | rfl | decide +kernel)
    (case xa => first | k_is | rfl | decide +kernel)
    (case xn => first | k_is | rfl | decide +kernel)
    (case xs => first | k_is | rfl | decide +kernel)
    (case xm => first | k_is | rfl | decide +kernel)
    (case xno => first | k_is | rfl | decide +kernel)
    (case xy => first | k_is | rfl | decide +kernel)
    (case xv => first | k_is | rfl | decide +kernel)
    (case gperm => k_is)
    (case lM_is_move => k_is)
    (case vM_is_move => first | rfl | k_is)
    (case hM_is_move => first | k_is | rfl | decide +kernel)
    (case nT_is_move => first | k_is | rfl | decide +kernel)

