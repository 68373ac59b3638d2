import PyProof.Rows.All
import Wide.All
import OpenK.AllK
import Wide.FinOn
import PyProof.EqAt
import PyProof.EqKinds
import PyProof.TupleCall
import HandS.ForMost
import HandS.Conv
import HandS.Codes
import HandS.AnyAll
import HandS.Sort
import HandS.Zip
import HandS.Walk
import HandS.WordsExc
import HandS.ExcOwn
import HandS.RaiseMore
import HandS.FStr
import HandS.TupMul
import HandS.TupAny
import KE.KEqSeq
import HandS.ExcIs
import HandS.IsInst
import HandS.EndTab
import PySem.Challenge.RW_longago_k01_what_is_no_chain
set_option Elab.async false
set_option linter.all false
set_option maxRecDepth 100000
set_option maxHeartbeats 4000000
namespace Lg
open PySem PySem.Spec PyProof.Rows L2
def topS (i : Nat) : Stmt := PySem.Challenge.pw_longago_k01_what_is_no_chain.main.body.getD i (.Pass ⟨0, 0, 0, 0⟩)
abbrev cLongError : Stmt := topS 1
abbrev cBadChain : Stmt := topS 2
abbrev cBadText : Stmt := topS 3
abbrev cNoSuch : Stmt := topS 4
abbrev cNotOne : Stmt := topS 5
abbrev cNeverOne : Stmt := topS 6
abbrev cNotOrdered : Stmt := topS 7
abbrev cTooMany : Stmt := topS 8
abbrev cChain : Stmt := topS 13
abbrev sIsMove : Stmt := topS 14
abbrev sCell : Stmt := topS 16
abbrev sDice : Stmt := topS 17
abbrev sOff : Stmt := topS 18
abbrev sChain : Stmt := topS 19
abbrev sMade : Stmt := topS 20
abbrev sNumbers : Stmt := topS 21
abbrev sLawWrong : Stmt := topS 22
abbrev sLawRefused : Stmt := topS 23
abbrev sLaw : Stmt := topS 24
/-! ### what is the same in all these texts: heaps -/
/-- all that is tracked, but at d, is as it was -/
def Gr (d : Addr) (H H' : Hp) : Prop := ∀ b o, b ≠ d → H b = some o → H' b = some o
theorem Gr.refl (d : Addr) (H : Hp) : Gr d H H := fun _ _ _ e => e
theorem Gr.trans {d : Addr} {H H1 H2 : Hp} (a : Gr d H H1) (b : Gr d H1 H2) : Gr d H H2 := fun c o n e => b c o n (a c o n e)
theorem Gr.new {d : Addr} {H H1 : Hp} {p : Addr} {o : HO} (a : Gr d H H1) (h : H1 p = none) : Gr d H (upd H1 p o) := fun b u n e => by
  have q := a b u n e
  rw [upd_ne (ne_of_none q h)]
  exact q
theorem Gr.off {d : Addr} {H H1 H2 : Hp} (a : Gr d H H1) (h : ∀ b, b ≠ d → H2 b = H1 b) : Gr d H H2 := fun b u n e => by
  rw [h b n]
  exact a b u n e
theorem same_new {H : Hp} {p : Addr} {o : HO} (h : H p = none) : Same H (upd H p o) := fun b x e => by
  rw [upd_ne (ne_of_none e h)]
  exact e
theorem Gr.of_same {d : Addr} {H H' : Hp} (s : Same H H') : Gr d H H' := fun b o _ e => s b o e
/-- the dice at d -/
def dl (s0 : Int) (l : Addr) (k big : Int) : List V := [.int s0, .ref l, .int k, .int big]
theorem map_int_dl {ns : List Int} {s0 k big : Int} {l : Addr} : ns.map V.int ≠ dl s0 l k big := by
  intro e
  have h : (ns.map V.int)[1]? = some (V.ref l) := by rw [e]; rfl
  rw [List.getElem?_map] at h
  cases q : ns[1]? with
  | none => rw [q] at h; cases h
  | some z => rw [q] at h; cases h
/-- a list that is known ahead of p's making, and p's writing -/
theorem seq_put {K : PySem.W.Frag} {H0 H : Hp} {l p : Addr} {xs : List V} {o : HO} (h0 : SqL K H0 l xs) (n0 : H0 p = none) (h : SqL K H l xs) : SqL K (upd H p o) l xs := by
  have ne : Rd H0 l (.lst xs) → l ≠ p := fun r => by
    rcases r with r | ⟨o', r⟩
    · exact ne_of_none r n0
    · exact ne_of_none r n0
  rcases h0 with r0 | k
  · have n := ne r0
    rcases h with (h | ⟨o', h⟩) | h
    · exact .inl (.inl (by rw [upd_ne n]; exact h))
    · exact .inl (.inr ⟨o', by rw [upd_ne n]; exact h⟩)
    · exact .inr h
  · exact .inr k
/-- the script stands when the dice turns -/
theorem seq_turn {K : PySem.W.Frag} {H H' : Hp} {d l l' : Addr} {ns : List Int} {s0 k big : Int} (hd : H d = some (.lst (dl s0 l' k big))) (h : SqL K H l (ns.map V.int)) (q : ∀ b, b ≠ d → H' b = H b) : SqL K H' l (ns.map V.int) := by
  rcases h with (h | ⟨o, h⟩) | h
  · refine .inl (.inl ?_)
    rw [q]
    · exact h
    · intro z
      rw [z, hd] at h
      injection h with h
      injection h with h
      exact map_int_dl h.symm
  · refine .inl (.inr ⟨o, ?_⟩)
    rw [q]
    · exact h
    · intro z
      rw [z, hd] at h
      cases h
  · exact .inr h
def Dc (K : PySem.W.Frag) (l : Addr) (ns : List Int) (H : Hp) (d : Addr) : Prop := ∃ (s0 k big : Int), H d = some (.lst (dl s0 l k big)) ∧ SqL K H l (ns.map V.int) ∧ ns.length ≤ 63 ∧ 0 ≤ s0 ∧ s0 < 2147483647 ∧ 0 ≤ k ∧ 0 ≤ big
theorem Dc.same {K : PySem.W.Frag} {H H' : Hp} {l d : Addr} {ns : List Int} (s : Same H H') (h : Dc K l ns H d) : Dc K l ns H' d := by
  obtain ⟨s0, k, big, h1, h2, h3⟩ := h
  exact ⟨s0, k, big, s _ _ h1, s.seq h2, h3⟩
theorem Dc.seq {K : PySem.W.Frag} {H : Hp} {l d : Addr} {ns : List Int} (h : Dc K l ns H d) : SqL K H l (ns.map V.int) := by
  obtain ⟨s0, k, big, h1, h2, h3⟩ := h
  exact h2
theorem Dc.new {K : PySem.W.Frag} {H : Hp} {l d p : Addr} {ns : List Int} {o : HO} (h : Dc K l ns H d) (n : H p = none) : Dc K l ns (upd H p o) d := h.same (same_new n)
theorem Dc.some {K : PySem.W.Frag} {H : Hp} {l d : Addr} {ns : List Int} (h : Dc K l ns H d) : ∃ s0 k big, H d = Option.some (HO.lst (dl s0 l k big)) := by
  obtain ⟨s0, k, big, h1, _⟩ := h
  exact ⟨s0, k, big, h1⟩
theorem Dc.ne {K : PySem.W.Frag} {H : Hp} {l d p : Addr} {ns : List Int} (h : Dc K l ns H d) (n : H p = none) : p ≠ d := by
  obtain ⟨s0, k, big, e⟩ := h.some
  exact (ne_of_none e n).symm
/-- the dice is a list that begins with an int and a ref: no other list that we know -/
theorem Dc.ne_of {K : PySem.W.Frag} {H : Hp} {l d p : Addr} {ns : List Int} {u : HO} (h : Dc K l ns H d) (n : H p = Option.some u) (q : ∀ s0 l k big, u ≠ .lst (dl s0 l k big)) : p ≠ d := by
  obtain ⟨s0, k, big, e⟩ := h.some
  intro z
  rw [z, e] at n
  exact q _ _ _ _ (Option.some.inj n).symm
/-- another list is written, one that is newer than the script -/
theorem Dc.turn {K : PySem.W.Frag} {H0 H : Hp} {l d d0 p : Addr} {ns : List Int} {o : HO} (h : Dc K l ns H d) (h0 : Dc K l ns H0 d0) (n0 : H0 p = none) (n : p ≠ d) : Dc K l ns (upd H p o) d := by
  obtain ⟨s0, k, big, h1, h2, h3⟩ := h
  refine ⟨s0, k, big, ?_, seq_put h0.seq n0 h2, h3⟩
  rw [upd_ne n.symm]
  exact h1
/-! ### a chain's data -/
abbrev Mv := Int × List Int
def GoodRow (many : Nat) (row : List Int) : Prop := row.length = many ∧ ∀ x ∈ row, 0 ≤ x ∧ x < (many : Int)
def GoodMv (many : Nat) (m : Mv) : Prop := 1 ≤ m.1 ∧ m.1 ≤ 99 ∧ GoodRow many m.2
structure Good (many : Nat) (ms : List Mv) : Prop where
  m1 : 1 ≤ many
  m6 : many ≤ 6
  l1 : 1 ≤ ms.length
  l8 : ms.length ≤ 8
  mv : ∀ m ∈ ms, GoodMv many m
def MoveAt (H : Hp) (v : V) (m : Mv) : Prop := ∃ a q, v = .ref a ∧ H a = some (.tup [.int m.1, .ref q]) ∧ H q = some (.tup (m.2.map V.int))
abbrev MovesAt (H : Hp) : List V → List Mv → Prop := Paired (MoveAt H)
theorem MoveAt.same {H H' : Hp} {v : V} {m : Mv} (s : ∀ b xs, H b = some (.tup xs) → H' b = some (.tup xs)) (h : MoveAt H v m) : MoveAt H' v m := by
  obtain ⟨a, q, e, h1, h2⟩ := h
  exact ⟨a, q, e, s _ _ h1, s _ _ h2⟩
theorem MovesAt.same {H H' : Hp} (s : ∀ b xs, H b = some (.tup xs) → H' b = some (.tup xs)) : ∀ {vs : List V} {ms : List Mv}, MovesAt H vs ms → MovesAt H' vs ms
  | _, _, .nil => .nil
  | _, _, .cons h t => .cons (h.same s) (MovesAt.same s t)
theorem MovesAt.snoc {H : Hp} {v : V} {m : Mv} (h : MoveAt H v m) : ∀ {vs : List V} {ms : List Mv}, MovesAt H vs ms → MovesAt H (vs ++ [v]) (ms ++ [m])
  | _, _, .nil => .cons h .nil
  | _, _, .cons q t => .cons q (MovesAt.snoc h t)
theorem MovesAt.get {H : Hp} : ∀ {vs : List V} {ms : List Mv} {i : Nat} {m : Mv}, MovesAt H vs ms → ms[i]? = some m → ∃ v, vs[i]? = some v ∧ MoveAt H v m
  | _, _, _, _, .nil, e => by simp at e
  | _, _, 0, _, .cons h _, e => by
    simp at e
    subst e
    exact ⟨_, rfl, h⟩
  | _, _, i + 1, m, .cons _ t, e => by
    obtain ⟨v, h1, h2⟩ := MovesAt.get (i := i) (m := m) t (by simpa using e)
    exact ⟨v, by simpa using h1, h2⟩
theorem MovesAt.get' {H : Hp} : ∀ {vs : List V} {ms : List Mv} {i : Nat} {v : V}, MovesAt H vs ms → vs[i]? = some v → ∃ m, ms[i]? = some m ∧ MoveAt H v m
  | _, _, _, _, .nil, e => by simp at e
  | _, _, 0, _, .cons h _, e => by
    simp at e
    subst e
    exact ⟨_, rfl, h⟩
  | _, _, i + 1, v, .cons _ t, e => by
    obtain ⟨m, h1, h2⟩ := MovesAt.get' (i := i) (v := v) t (by simpa using e)
    exact ⟨m, by simpa using h1, h2⟩
/-- a told chain: (many, moves) at t, the moves' list at m -/
def ToldAt (H : Hp) (t m : Addr) (many : Nat) (vs : List V) (ms : List Mv) : Prop := H t = some (.tup [.int (many : Int), .ref m]) ∧ H m = some (.lst vs) ∧ MovesAt H vs ms
theorem Gr.tups {d l : Addr} {ns : List Int} {H H' : Hp} {K : PySem.W.Frag} (hd : Dc K l ns H d) (g : Gr d H H') : ∀ b xs, H b = some (.tup xs) → H' b = some (.tup xs) := fun b xs e =>
  g b _ (hd.ne_of e fun _ _ _ _ q => nomatch q) e
theorem Same.tups {H H' : Hp} (g : Same H H') : ∀ b xs, H b = some (.tup xs) → H' b = some (.tup xs) := fun b xs e => g b _ e
theorem ifD {c A B : Prop} [Decidable c] (hc : c) (h : A) : if decide c = true then A else B := by
  rw [decide_eq_true hc]
  exact iteT h
theorem small8 {n : Nat} (h : n ≤ 8) : n < sizeLine := Nat.lt_of_le_of_lt h (by decide)
section
variable {P : Program} {w : World} {K : PySem.W.Frag} {mg : Str → Option Value} {base : Heap}
/-! ### _law_cell -/
theorem scCell : FnScope ["_law_script", "_law_k"] ["_law_script", "_law_k"] (defScope sCell) := ⟨rfl, rfl, rfl, by decide +kernel, rfl, by decide +kernel, by decide +kernel⟩
def spCell (K : PySem.W.Frag) : Sp := fun vs H Q _ => ∃ (l : Addr) (ns : List Int) (j : Int), vs = [.ref l, .int j] ∧ SqL K H l (ns.map V.int) ∧ 0 ≤ j ∧ ∀ x : Int, Q (.int x) H
theorem ok_cell {f : Addr} {fd : FuncData} {k : Nat} (F : Fun K "_law_cell" "_law_cell" sCell f fd) (ml : mg "len" = none) : FnOk P w K mg base CX0 (k + 1) f fd ["_law_script", "_law_k"] (spCell K) := by
  refine F.ok scCell (fun vs H Q E h => ?_) (fun cdv A outer s H vs Q E hr h => ?_)
  · obtain ⟨l, ns, j, rfl, _⟩ := h
    rfl
  · obtain ⟨l, ns, j, rfl, hS, hj, q⟩ := h
    refine ⟨_, pss_cons (ps_if (pt_cmpR op_lt (pv 1) (pe_callB call_len_seq (by rfl) ml PySem.boot_len (pa_cons (pv 0) pa_nil)) (nomark _))
        (pss_one (ps_ret (pe_ix ix_list (pv 0) (pv 1) (fun _ _ => rfl)))) pss_nil)
      (pss_one (ps_ret pe_int)), ?_⟩
    refine ⟨.int j, rfl, .ref l, rfl, l, ns.map V.int, rfl, .inl hS, j, _, rfl, rfl, _, rfl, ite2 (fun e => ?_) (fun e => ?_)⟩
    · have e1 : j < ((ns.map V.int).length : Int) := of_decide_eq_true e
      rw [List.length_map] at e1
      have hn : j.toNat < ns.length := by omega
      have ej : j = ((j.toNat : Nat) : Int) := by omega
      have g : (ns.map V.int)[j.toNat]? = some (.int ns[j.toNat]) := by
        rw [List.getElem?_map, List.getElem?_eq_getElem hn]
        rfl
      exact ⟨.ref l, rfl, .int j, rfl, l, _, j, _, rfl, rfl, hS, at_of ej g, q _⟩
    · exact q 0
/-! ### _law_dice -/
theorem scDice : FnScope ["_law_script", "_law_k", "_law_cell_here"] ["_law_script", "_law_k"] (defScope sDice) := ⟨rfl, rfl, rfl, by decide +kernel, rfl, by decide +kernel, by decide +kernel⟩
def spDice (K : PySem.W.Frag) : Sp := fun vs H Q _ => ∃ (l : Addr) (ns : List Int) (j : Int), vs = [.ref l, .int j] ∧ SqL K H l (ns.map V.int) ∧ ns.length ≤ 63 ∧ 0 ≤ j ∧ ∀ H' d, Same H H' → H d = none → Dc K l ns H' d → Q (.ref d) H'
theorem abs_nn (x : Int) : 0 ≤ (if x < 0 then -x else x) := by
  split <;> omega
theorem ok_dice {f fC : Addr} {fd fdC : FuncData} (F : Fun K "_law_dice" "_law_dice" sDice f fd) (FC : Fun K "_law_cell" "_law_cell" sCell fC fdC) (bC : Binds K fdC ["_law_script", "_law_k"] []) (gC : mg "_law_cell" = some (.ref fC))
    (ml : mg "len" = none) (ma : mg "abs" = none) (mi : mg "int" = none) : FnOk P w K mg base CX0 2 f fd ["_law_script", "_law_k"] (spDice K) := by
  have GC : FnOk P w K mg base CX0 1 fC fdC ["_law_script", "_law_k"] (spCell K) := ok_cell FC ml
  refine F.ok scDice (fun vs H Q E h => ?_) (fun cdv A outer s H vs Q E hr h => ?_)
  · obtain ⟨l, ns, j, rfl, _⟩ := h
    rfl
  · obtain ⟨l, ns, j, rfl, hS, hl, hj, q⟩ := h
    refine ⟨_, pss_cons (ps_set (i := 2) scDice.nd rfl (.inl rfl) (pe_callB call_abs (by rfl) ma (by decide +kernel) (pa_cons (pe_call GC hr (by rfl) gC FC.kp bC .nil pass0 (pa_cons (pv 0) (pa_cons (pv 1) pa_nil))) pa_nil)))
      (pss_one (ps_ret (pe_lst (pa_cons (pe_op op_mod (pv 2) pe_int) (pa_cons (pv 0) (pa_cons (pe_op op_add (pv 1) pe_int)
        (pa_cons (pe_op op_mul (pe_callTy call_int1 (by rfl) mi (by decide +kernel) (pa_cons (pe_cmpR op_ge (pv 2) (pe_op op_pow pe_int pe_int) (nomark _)) pa_nil)) (pv 2)) pa_nil))))))), ?_⟩
    refine ⟨.ref l, rfl, .int j, rfl, l, ns, j, rfl, hS, hj, fun x => ?_⟩
    refine ⟨x, rfl, ?_⟩
    have ha := abs_nn x
    generalize (if x < 0 then -x else x) = c at ha ⊢
    have m0 : 0 ≤ c % 2147483647 := Int.emod_nonneg _ (by decide)
    have m1 : c % 2147483647 < 2147483647 := Int.emod_lt_of_pos _ (by decide)
    refine ⟨.int c, rfl, c, 2147483647, rfl, rfl, (by show (0 : Int) < 2147483647; decide), .ref l, rfl, .int j, rfl, j, 1, rfl, rfl, ?_⟩
    refine ⟨.int c, rfl, 10, 18, rfl, rfl, ⟨by decide, by decide, by decide⟩, c, _, rfl, rfl, .inr ⟨_, rfl, ?_⟩⟩
    refine ⟨.int c, rfl, _, c, rfl, rfl, .inl ?_, ?_⟩
    · split <;> decide
    · refine ⟨by show 4 ≤ sizeLine; decide, fun d nd => ?_⟩
      refine q _ d (same_new nd) nd ⟨_, _, _, upd_same, (same_new nd).seq hS, hl, m0, m1, by omega, ?_⟩
      split
      · omega
      · omega
/-! ### _law_off -/
theorem scOff : FnScope ["_law_d", "_law_most", "_law_found", "_law_more"] ["_law_d", "_law_most"] (defScope sOff) := ⟨rfl, rfl, rfl, by decide +kernel, rfl, by decide +kernel, by decide +kernel⟩
def spOff (K : PySem.W.Frag) : Sp := fun vs H Q _ => ∃ (d l : Addr) (ns : List Int) (most : Int), vs = [.ref d, .int most] ∧ Dc K l ns H d ∧ 1 ≤ most ∧ most ≤ 1000000 ∧ ∀ (r : Nat) H', (r : Int) < most → Dc K l ns H' d → (∀ b, b ≠ d → H' b = H b) → Q (.int (r : Int)) H'
theorem max1 (x : Int) (h : 0 ≤ x) : 1 ≤ (if x > 1 then x else 1) := by
  split <;> omega
theorem ok_off {f fC : Addr} {fd fdC : FuncData} (F : Fun K "_law_off" "_law_off" sOff f fd) (FC : Fun K "_law_cell" "_law_cell" sCell fC fdC) (bC : Binds K fdC ["_law_script", "_law_k"] []) (gC : mg "_law_cell" = some (.ref fC))
    (ml : mg "len" = none) (ma : mg "abs" = none) (mm : mg "max" = none) : FnOk P w K mg base CX0 2 f fd ["_law_d", "_law_most"] (spOff K) := by
  have GC : FnOk P w K mg base CX0 1 fC fdC ["_law_script", "_law_k"] (spCell K) := ok_cell FC ml
  refine F.ok scOff (fun vs H Q E h => ?_) (fun cdv A outer s H vs Q E hr h => ?_)
  · obtain ⟨d, l, ns, most, rfl, _⟩ := h
    rfl
  · obtain ⟨d, l, ns, most, rfl, ⟨s0, k, big, hD, hS, hl, z0, z1, hk, hb⟩, hm1, hm2, q⟩ := h
    refine ⟨_, pss_cons (ps_if (pt_cmpR op_gt (pe_ix ix_list (pv 0) pe_int (fun _ _ => rfl)) pe_int (nomark _))
        (pss_cons (ps_set (i := 2) scOff.nd rfl (.inl rfl) (pe_op op_mod (pe_ix ix_list (pv 0) pe_int (fun _ _ => rfl)) (pv 1)))
          (pss_cons (ps_asg (pe_op op_fdiv (pe_ix ix_list (pv 0) pe_int (fun _ _ => rfl)) (pv 1)) (pg_sub (pv 0) pe_int set_list))
            (pss_one (ps_ret (pv 2))))) pss_nil)
      (pss_cons (ps_set (i := 3) scOff.nd rfl (.inl rfl) (pe_callB call_abs (by rfl) ma (by decide +kernel) (pa_cons (pe_call GC hr (by rfl) gC FC.kp bC .nil pass0
          (pa_cons (pe_ix ix_list (pv 0) pe_int (fun _ _ => rfl)) (pa_cons (pe_op op_mod (pe_ix ix_list (pv 0) pe_int (fun _ _ => rfl))
            (pe_callB (call_max2 rfl) (by rfl) mm (by decide +kernel) (pa_cons pe_int (pa_cons (pe_callB call_len_seq (by rfl) ml PySem.boot_len (pa_cons (pe_ix ix_list (pv 0) pe_int (fun _ _ => rfl)) pa_nil)) pa_nil)))) pa_nil))) pa_nil)))
      (pss_cons (ps_asg (pe_op op_add (pe_ix ix_list (pv 0) pe_int (fun _ _ => rfl)) pe_int) (pg_sub (pv 0) pe_int set_list))
      (pss_cons (ps_asg (pe_op op_mod (pe_op op_add (pe_op op_add (pe_op op_mul (pe_ix ix_list (pv 0) pe_int (fun _ _ => rfl)) pe_int) pe_int) (pv 3)) pe_int) (pg_sub (pv 0) pe_int set_list))
      (pss_one (ps_ret (pe_op op_mod (pe_op op_fdiv (pe_ix ix_list (pv 0) pe_int (fun _ _ => rfl)) pe_int) (pv 1)))))))
      , ?_⟩
    have hD0 : SqL K H d (dl s0 l k big) := SqL.of hD
    refine ⟨.ref d, rfl, d, _, 3, _, rfl, rfl, hD0, atI_nat (j := 3) rfl, big, 0, rfl, rfl, _, rfl, ite2 (fun e => ?_) (fun e => ?_)⟩
    · have e1 : 0 < big := of_decide_eq_true e
      refine ⟨.ref d, rfl, d, _, 3, _, rfl, rfl, hD0, atI_nat (j := 3) rfl, .int most, rfl, big, most, rfl, rfl, (by show 0 < most; omega), ?_⟩
      refine ⟨.ref d, rfl, d, _, 3, _, rfl, rfl, hD0, atI_nat (j := 3) rfl, .int most, rfl, big, most, rfl, rfl, ⟨by show 0 < most; omega, by show most < 1073741824; omega⟩, ?_⟩
      refine ⟨.ref d, rfl, d, _, 3, 3, rfl, rfl, hD, rfl, ?_⟩
      have r0 : 0 ≤ big % most := Int.emod_nonneg _ (by omega)
      have r1 : big % most < most := Int.emod_lt_of_pos _ (by omega)
      have er : big % most = (((big % most).toNat : Nat) : Int) := by omega
      refine ⟨.int (big % most), rfl, ?_⟩
      rw [er]
      refine q _ _ (by omega) ⟨s0, k, big / most, upd_same, seq_turn hD hS (fun b hb => upd_ne hb), hl, z0, z1, hk, Int.ediv_nonneg hb (by omega)⟩ (fun b hb => upd_ne hb)
    · refine ⟨.ref d, rfl, d, _, 1, _, rfl, rfl, hD0, atI_nat (j := 1) rfl, .ref d, rfl, d, _, 2, _, rfl, rfl, hD0, atI_nat (j := 2) rfl, ?_⟩
      refine ⟨.ref d, rfl, d, _, 1, _, rfl, rfl, hD0, atI_nat (j := 1) rfl, l, _, rfl, .inl hS, 1, _, rfl, ?_⟩
      have hx := max1 (((ns.map V.int).length : Nat) : Int) (by omega)
      generalize (if (((ns.map V.int).length : Nat) : Int) > 1 then (((ns.map V.int).length : Nat) : Int) else 1) = mx at hx ⊢
      refine ⟨k, mx, rfl, rfl, (by show 0 < mx; omega), l, ns, k % mx, rfl, hS, Int.emod_nonneg _ (by omega), fun x => ⟨x, rfl, ?_⟩⟩
      have ha := abs_nn x
      generalize (if x < 0 then -x else x) = c at ha ⊢
      -- d[2] = d[2] + 1
      refine ⟨.ref d, rfl, d, _, 2, _, rfl, rfl, hD0, atI_nat (j := 2) rfl, k, 1, rfl, rfl, .ref d, rfl, d, _, 2, 2, rfl, rfl, hD, rfl, ?_⟩
      have g1 : (upd H d (.lst (dl s0 l (k + 1) big))) d = some (.lst (dl s0 l (k + 1) big)) := upd_same
      have g2 : SqL K (upd H d (.lst (dl s0 l (k + 1) big))) d (dl s0 l (k + 1) big) := SqL.of g1
      refine ⟨.ref d, rfl, d, _, 0, _, rfl, rfl, g2, atI_nat (j := 0) rfl, s0, 48271, rfl, rfl, .inl ⟨by omega, by omega⟩, s0 * 48271, 11, rfl, rfl, .int c, rfl, s0 * 48271 + 11, c, rfl, rfl, s0 * 48271 + 11 + c, 2147483647, rfl, rfl, (by show (0 : Int) < 2147483647; decide), ?_⟩
      have m0 : 0 ≤ (s0 * 48271 + 11 + c) % 2147483647 := Int.emod_nonneg _ (by decide)
      have m1 : (s0 * 48271 + 11 + c) % 2147483647 < 2147483647 := Int.emod_lt_of_pos _ (by decide)
      refine ⟨.ref d, rfl, d, _, 0, 0, rfl, rfl, g1, rfl, ?_⟩
      rw [upd_upd]
      have g3 : (upd H d (.lst (dl ((s0 * 48271 + 11 + c) % 2147483647) l (k + 1) big))) d = some (.lst (dl ((s0 * 48271 + 11 + c) % 2147483647) l (k + 1) big)) := upd_same
      have g4 : SqL K (upd H d (.lst (dl ((s0 * 48271 + 11 + c) % 2147483647) l (k + 1) big))) d (dl ((s0 * 48271 + 11 + c) % 2147483647) l (k + 1) big) := SqL.of g3
      refine ⟨.ref d, rfl, d, _, 0, _, rfl, rfl, g4, atI_nat (j := 0) rfl, ((s0 * 48271 + 11 + c) % 2147483647), 64, rfl, rfl, ⟨by decide, by decide⟩, .int most, rfl, ((s0 * 48271 + 11 + c) % 2147483647) / 64, most, rfl, rfl, (by show 0 < most; omega), ?_⟩
      have r0 : 0 ≤ ((s0 * 48271 + 11 + c) % 2147483647) / 64 % most := Int.emod_nonneg _ (by omega)
      have r1 : ((s0 * 48271 + 11 + c) % 2147483647) / 64 % most < most := Int.emod_lt_of_pos _ (by omega)
      have er : ((s0 * 48271 + 11 + c) % 2147483647) / 64 % most = (((((s0 * 48271 + 11 + c) % 2147483647) / 64 % most).toNat : Nat) : Int) := by omega
      show Q (.int (((s0 * 48271 + 11 + c) % 2147483647) / 64 % most)) _
      rw [er]
      exact q _ _ (by omega) ⟨((s0 * 48271 + 11 + c) % 2147483647), k + 1, big, g3, seq_turn hD hS (fun b hb => upd_ne hb), hl, m0, m1, by omega, hb⟩ (fun b hb => upd_ne hb)
end
section
variable {P : Program} {w : World} {K : PySem.W.Frag} {mg : Str → Option Value} {base : Heap}
/-! ### _law_chain -/
def nChain : List Str := ["_law_d", "_law_most", "_law_many", "_law_way", "_law_moves", "_law_k", "_law_row", "_law_weight", "_law_place"]
theorem scChain : FnScope ["_law_d", "_law_most", "_law_many", "_law_way", "_law_moves", "_law_k", "_law_row", "_law_weight", "_law_place"] ["_law_d", "_law_most"] (defScope sChain) := ⟨rfl, rfl, rfl, by decide +kernel, rfl, by decide +kernel, by decide +kernel⟩
def spChain (K : PySem.W.Frag) : Sp := fun vs H Q _ => ∃ (d l : Addr) (ns : List Int) (most : Nat), vs = [.ref d, .int (most : Int)] ∧ Dc K l ns H d ∧ 1 ≤ most ∧ most ≤ 6 ∧
  ∀ (t m : Addr) (many : Nat) (ws : List V) (ms : List Mv) H', Good many ms → many ≤ most → ToldAt H' t m many ws ms → Dc K l ns H' d → Gr d H H' → Q (.ref t) H'
/-- what the law's texts call -/
structure LawTxt (K : PySem.W.Frag) (mg : Str → Option Value) (fC fD fO : Addr) (fdC fdD fdO : FuncData) : Prop where
  FC : Fun K "_law_cell" "_law_cell" sCell fC fdC
  bC : Binds K fdC ["_law_script", "_law_k"] []
  gC : mg "_law_cell" = some (.ref fC)
  FD : Fun K "_law_dice" "_law_dice" sDice fD fdD
  bD : Binds K fdD ["_law_script", "_law_k"] []
  gD : mg "_law_dice" = some (.ref fD)
  FO : Fun K "_law_off" "_law_off" sOff fO fdO
  bO : Binds K fdO ["_law_d", "_law_most"] []
  gO : mg "_law_off" = some (.ref fO)
  ml : mg "len" = none
  ma : mg "abs" = none
  mm : mg "max" = none
  mn : mg "min" = none
  mi : mg "int" = none
  mr : mg "range" = none
  ms : mg "sorted" = none
  mt : mg "tuple" = none
section
variable {fC fD fO : Addr} {fdC fdD fdO : FuncData}
theorem LawTxt.off (T : LawTxt K mg fC fD fO fdC fdD fdO) : FnOk P w K mg base CX0 2 fO fdO ["_law_d", "_law_most"] (spOff K) := ok_off T.FO T.FC T.bC T.gC T.ml T.ma T.mm
theorem LawTxt.dice (T : LawTxt K mg fC fD fO fdC fdD fdO) : FnOk P w K mg base CX0 2 fD fdD ["_law_script", "_law_k"] (spDice K) := ok_dice T.FD T.FC T.bC T.gC T.ml T.ma T.mi
theorem perm_row {many : Nat} {xs ys : List Int} (p : ys.Perm xs) (h : GoodRow many xs) : GoodRow many ys := ⟨p.length_eq.trans h.1, fun x hx => h.2 x (p.mem_iff.mp hx)⟩
theorem clamp (m x : Int) (h : 0 ≤ m) : 0 ≤ (if (if x < m then x else m) > 0 then (if x < m then x else m) else 0) ∧ (if (if x < m then x else m) > 0 then (if x < m then x else m) else 0) < m + 1 := by
  split <;> split at * <;> omega
theorem ok_chain {f : Addr} {fd : FuncData} (F : Fun K "_law_chain" "_law_chain" sChain f fd) (T : LawTxt K mg fC fD fO fdC fdD fdO) : FnOk P w K mg base CX0 3 f fd ["_law_d", "_law_most"] (spChain K) := by
  have GO : FnOk P w K mg base CX0 2 fO fdO ["_law_d", "_law_most"] (spOff K) := T.off
  refine F.ok scChain (fun vs H Q E h => ?_) (fun cdv A outer s H vs Q E hr h => ?_)
  · obtain ⟨d, l, ns, most, rfl, _⟩ := h
    rfl
  · obtain ⟨d, l, ns, most, rfl, hD, hm1, hm6, q⟩ := h
    refine ⟨_, pss_cons (ps_set (i := 2) scChain.nd rfl (.inr rfl) (pe_op op_add pe_int (pe_call GO hr (by rfl) T.gO T.FO.kp T.bO .nil pass0 (pa_cons (pv 0) (pa_cons (pv 1) pa_nil)))))
      (pss_cons (ps_set (i := 3) scChain.nd rfl (.inl rfl) (pe_call GO hr (by rfl) T.gO T.FO.kp T.bO .nil pass0 (pa_cons (pv 0) (pa_cons pe_int pa_nil))))
      (pss_cons (ps_set (i := 4) scChain.nd rfl (.inl rfl) (pe_lst pa_nil))
      (pss_cons (ps_for PassesOwn.never rfl (pi_range1 (by rfl) T.mr (pa_cons (pe_op op_add pe_int (pe_call GO hr (by rfl) T.gO T.FO.kp T.bO .nil pass0 (pa_cons (pv 0)
            (pa_cons (pe_ix ix_list (pe_lst (pa_cons pe_int (pa_cons pe_int (pa_cons pe_int pa_nil)))) (pe_call GO hr (by rfl) T.gO T.FO.kp T.bO .nil pass0 (pa_cons (pv 0) (pa_cons pe_int pa_nil))) (fun _ _ => rfl)) pa_nil)))) pa_nil))
          (pg_name (i := 5) scChain.nd rfl (.inl rfl))
          (pss_cons (ps_setLc (i := 6) (own := [("_law_place", 8)]) (g := gName 8) (tt := tYes) rfl scChain.nd rfl rfl (sw_true rfl rfl rfl (by decide +kernel)) (pi_range1 (by rfl) T.mr (pa_cons (pv 2) pa_nil)) (blkOk_by (N := nChain) (sc := defScope sChain) (by decide +kernel))
              (fun _ _ _ _ _ => pg_name (i := 8) scChain.nd rfl (.inl rfl)) (fun _ _ _ _ _ => pts_nil)
              (fun _ _ _ _ _ => pe_call GO hr (by rfl) T.gO T.FO.kp T.bO .nil pass0 (pa_cons (pv 0) (pa_cons (pv 2) pa_nil))))
          (C8.pss_cut (ps_if (pt_cmpR op_eq (pv 3) pe_int (nomark _)) (pss_one (ps_set (i := 6) scChain.nd rfl (.inl rfl) (pe_callB cr_sorted (by rfl) T.ms (by decide +kernel) (pa_cons (pv 6) pa_nil)))) pss_nil)
          (C8.pss_cut (ps_if (pt_cmpR op_eq (pv 3) pe_int (nomark _)) (pss_one
              (ps_setLc (i := 6) (own := [("_law_place", 8)]) (g := gName 8) (tt := tYes) rfl scChain.nd rfl rfl (sw_true rfl rfl rfl (by decide +kernel)) (pi_range1 (by rfl) T.mr (pa_cons (pv 2) pa_nil)) (blkOk_by (N := nChain) (sc := defScope sChain) (by decide +kernel))
              (fun _ _ _ _ _ => pg_name (i := 8) scChain.nd rfl (.inl rfl)) (fun _ _ _ _ _ => pts_nil)
              (fun _ _ _ _ _ => pe_callB (call_max2 rfl) (by rfl) T.mm (by decide +kernel) (pa_cons pe_int (pa_cons (pe_callB (call_min2 rfl) (by rfl) T.mn (by decide +kernel) (pa_cons (pe_op op_sub (pv 2) pe_int) (pa_cons
                (pe_op op_sub (pe_op op_add (pv 8) (pe_call GO hr (by rfl) T.gO T.FO.kp T.bO .nil pass0 (pa_cons (pv 0) (pa_cons pe_int pa_nil)))) pe_int) pa_nil))) pa_nil))))) pss_nil)
          (pss_cons (ps_set (i := 7) scChain.nd rfl (.inl rfl) (pe_ix ix_list (pe_lst (pa_cons pe_int (pa_cons (pe_op op_add pe_int (pe_call GO hr (by rfl) T.gO T.FO.kp T.bO .nil pass0 (pa_cons (pv 0) (pa_cons pe_int pa_nil))))
              (pa_cons (pe_op op_add pe_int (pe_call GO hr (by rfl) T.gO T.FO.kp T.bO .nil pass0 (pa_cons (pv 0) (pa_cons pe_int pa_nil)))) pa_nil)))) (pe_call GO hr (by rfl) T.gO T.FO.kp T.bO .nil pass0 (pa_cons (pv 0) (pa_cons pe_int pa_nil))) (fun _ _ => rfl)))
          (pss_one (ps_expr (pe_bm PySem.F.plainAttrs_list PySem.F.slot_list_append PySem.F.type_list_append mt_append (pv 4) (pa_cons (pe_tup (pa_cons (pv 7) (pa_cons (pe_callTy call_tuple_of (by rfl) T.mt (by decide +kernel) (pa_cons (pv 6) pa_nil)) pa_nil))) pa_nil)))))))))
      (pss_one (ps_ret (pe_tup (pa_cons (pv 2) (pa_cons (pv 4) pa_nil)))))))), ?_⟩
    -- many, way, moves
    refine ⟨.ref d, rfl, .int most, rfl, d, l, ns, _, rfl, hD, by omega, by omega, fun r H1 hr1 hD1 o1 => ?_⟩
    refine ⟨1, r, rfl, rfl, .ref d, rfl, d, l, ns, _, rfl, hD1, by omega, by omega, fun way H2 hr2 hD2 o2 => ?_⟩
    obtain ⟨many, em⟩ : ∃ many : Nat, many = 1 + r := ⟨_, rfl⟩
    have em2 : (1 : Int) + (r : Int) = (many : Int) := by omega
    have g2 : Gr d H H2 := ((Gr.refl d H).off o1).off o2
    refine ⟨Nat.zero_le _, fun m nm => ?_⟩
    have hD3 : Dc K l ns (upd H2 m (.lst [])) d := hD2.new nm
    have g3 : Gr d H (upd H2 m (.lst [])) := g2.new nm
    have hm3 : (upd H2 m (.lst [])) m = some (.lst []) := upd_same
    -- the loop's range
    refine ⟨.ref d, rfl, (by show 3 ≤ sizeLine; decide), fun L nL => ?_⟩
    have hD4 := hD3.new (o := .lst [.int 4, .int 4, .int 8]) nL
    have g4 : Gr d H (upd (upd H2 m (.lst [])) L (.lst [.int 4, .int 4, .int 8])) := g3.new nL
    have nLm : L ≠ m := fun z => by rw [z, upd_same] at nL; cases nL
    have hm4 : (upd (upd H2 m (.lst [])) L (.lst [.int 4, .int 4, .int 8])) m = some (.lst []) := by rw [upd_ne (Ne.symm nLm)]; exact hm3
    have hL4 : (upd (upd H2 m (.lst [])) L (.lst [.int 4, .int 4, .int 8])) L = some (.lst [.int 4, .int 4, .int 8]) := upd_same
    generalize (upd (upd H2 m (.lst [])) L (.lst [.int 4, .int 4, .int 8])) = H4 at hD4 g4 hm4 hL4 ⊢
    refine ⟨.ref d, rfl, d, l, ns, _, rfl, hD4, by omega, by omega, fun r3 H5 hr3 hD5 o5 => ?_⟩
    have nmd : m ≠ d := hD2.ne nm
    have nLd : L ≠ d := hD3.ne nL
    have hL5 : H5 L = some (.lst [.int 4, .int 4, .int 8]) := by rw [o5 _ nLd]; exact hL4
    have hm5 : H5 m = some (.lst []) := by rw [o5 _ nmd]; exact hm4
    have g5 : Gr d H H5 := g4.off o5
    obtain ⟨c, hc4, hc8, hc⟩ : ∃ c : Int, 4 ≤ c ∧ c ≤ 8 ∧ ([.int 4, .int 4, .int 8] : List V)[r3]? = some (.int c) := by
      have h3 : r3 < 3 := by omega
      match r3, h3 with
      | 0, _ => exact ⟨4, by decide, by decide, rfl⟩
      | 1, _ => exact ⟨4, by decide, by decide, rfl⟩
      | 2, _ => exact ⟨8, by decide, by decide, rfl⟩
    refine ⟨L, _, _, _, rfl, rfl, SqL.of hL5, atI_nat hc, d, l, ns, _, rfl, hD5, by omega, by omega, fun cnt H6 hr6 hD6 o6 => ?_⟩
    have hm6' : H6 m = some (.lst []) := by rw [o6 _ nmd]; exact hm5
    have g6 : Gr d H H6 := g5.off o6
    refine ⟨1, cnt, rfl, rfl, _, rfl, by omega, by omega, ?_⟩
    have en : ((1 : Int) + (cnt : Int)).toNat = 1 + cnt := by omega
    refine for_range (lo := 0) (n := ((1 : Int) + (cnt : Int)).toNat)
      (fun i σ H' => ∃ y5 y6 y7 ms ws, σ = [some (.ref d), some (.int (most : Int)), some (.int ((1 : Int) + (r : Int))), some (.int (way : Int)), some (.ref m), y5, y6, y7, none] ∧
        Dc K l ns H' d ∧ Gr d H H' ∧ H' m = some (.lst ws) ∧ MovesAt H' ws ms ∧ ms.length = i ∧ ∀ mv ∈ ms, GoodMv many mv)
      ⟨none, none, none, [], [], rfl, hD6, g6, hm6', .nil, rfl, fun _ z => nomatch z⟩ ?_ ?_
    · rintro i σ H7 hi ⟨y5, y6, y7, ms, ws, rfl, hD7, g7, hm7, hM7, hl7, hg7⟩
      rw [en] at hi
      -- row = [off(d, many) for place in range(many)]
      refine ⟨_, rfl, _, rfl, by omega, by omega, fun D nD => ?_⟩
      have nDd : D ≠ d := hD7.ne nD
      have er : ((1 : Int) + (r : Int)).toNat = many := by omega
      refine lc_range (lo := 0) (n := ((1 : Int) + (r : Int)).toNat)
        (fun j H' => ∃ row : List Int, H' D = some (.lst (row.map V.int)) ∧ row.length = j ∧ (∀ x ∈ row, 0 ≤ x ∧ x < (many : Int)) ∧ Dc K l ns H' d ∧ Gr d H7 H')
        ⟨[], upd_same, rfl, (fun _ z => nomatch z), hD7.new nD, (Gr.refl d H7).new nD⟩ ?_ ?_
      · rintro j H8 hj ⟨row, hrow, hrl, hrx, hD8, g8⟩
        refine ⟨rfl, .ref d, rfl, _, rfl, d, l, ns, _, rfl, hD8, by omega, by omega, fun x H9 hx hD9 o9 => ?_⟩
        have hrow9 : H9 D = some (.lst (row.map V.int)) := by rw [o9 _ nDd]; exact hrow
        refine ⟨_, hrow9, ?_, row ++ [(x : Int)], ?_, ?_, ?_, hD9.turn hD7 nD nDd, ?_⟩
        · rw [List.length_map, hrl]
          exact small8 (by omega)
        · rw [upd_same, List.map_append]
          rfl
        · rw [List.length_append, hrl]
          rfl
        · intro z hz
          rcases List.mem_append.mp hz with hz | hz
          · exact hrx z hz
          · have e : z = (x : Int) := by simpa using hz
            omega
        · intro b o nb e
          have e8 := g8.off o9 b o nb e
          rw [upd_ne (ne_of_none e nD)]
          exact e8
      · rintro H8 ⟨row, hrow, hrl, hrx, hD8, g8⟩
        have hR : GoodRow many row := ⟨hrl.trans er, hrx⟩
        let Mid : L2.St → Hp → Prop := fun σ H9 => ∃ D9 row, σ = [some (.ref d), some (.int (most : Int)), some (.int ((1 : Int) + (r : Int))), some (.int (way : Int)), some (.ref m), some (.int (0 + (i : Int))), some (.ref D9), y7, none] ∧
          H9 D9 = some (.lst (row.map V.int)) ∧ GoodRow many row ∧ Dc K l ns H9 d ∧ Gr d H7 H9
        have mid0 : Mid [some (.ref d), some (.int (most : Int)), some (.int ((1 : Int) + (r : Int))), some (.int (way : Int)), some (.ref m), some (.int (0 + (i : Int))), some (.ref D), y7, none] H8 := ⟨D, row, rfl, hrow, hR, hD8, g8⟩
        refine ⟨Mid, ⟨_, rfl, rfl, _, rfl, ite2 (fun e => ?_) (fun e => mid0)⟩, ?_⟩
        · -- row = sorted(row)
          refine ⟨_, rfl, D, row, rfl, SqL.of hrow, by omega, fun ns' p hp _ np => ?_⟩
          exact ⟨p, ns', rfl, upd_same, perm_row hp hR, hD8.new np, g8.new np⟩
        · rintro σ9 H9 ⟨D9, row9, rfl, hrow9, hR9, hD9, g9⟩
          refine ⟨Mid, ⟨_, rfl, rfl, _, rfl, ite2 (fun e => ?_) (fun e => ⟨D9, row9, rfl, hrow9, hR9, hD9, g9⟩)⟩, ?_⟩
          · -- row = [max(0, min(many - 1, ..)) ..]
            refine ⟨_, rfl, _, rfl, by omega, by omega, fun D' nD' => ?_⟩
            have nDd' : D' ≠ d := hD9.ne nD'
            refine lc_range (lo := 0) (n := ((1 : Int) + (r : Int)).toNat)
              (fun j H' => ∃ row : List Int, H' D' = some (.lst (row.map V.int)) ∧ row.length = j ∧ (∀ x ∈ row, 0 ≤ x ∧ x < (many : Int)) ∧ Dc K l ns H' d ∧ Gr d H9 H')
              ⟨[], upd_same, rfl, (fun _ z => nomatch z), hD9.new nD', (Gr.refl d H9).new nD'⟩ ?_ ?_
            · rintro j H10 hj ⟨row', hrow', hrl', hrx', hD10, g10⟩
              refine ⟨rfl, _, rfl, _, _, rfl, rfl, _, rfl, .ref d, rfl, d, l, ns, _, rfl, hD10, by omega, by omega, fun x H11 hx hD11 o11 => ?_⟩
              refine ⟨_, _, rfl, rfl, _, _, rfl, rfl, _, _, rfl, _, _, rfl, ?_⟩
              have cl := clamp ((1 : Int) + (r : Int) - 1) (0 + (j : Int) + (x : Int) - 1) (by omega)
              generalize (if (if 0 + (j : Int) + (x : Int) - 1 < (1 : Int) + (r : Int) - 1 then 0 + (j : Int) + (x : Int) - 1 else (1 : Int) + (r : Int) - 1) > 0 then
                (if 0 + (j : Int) + (x : Int) - 1 < (1 : Int) + (r : Int) - 1 then 0 + (j : Int) + (x : Int) - 1 else (1 : Int) + (r : Int) - 1) else 0) = z at cl ⊢
              have hrow9 : H11 D' = some (.lst (row'.map V.int)) := by rw [o11 _ nDd']; exact hrow'
              refine ⟨_, hrow9, ?_, row' ++ [z], ?_, ?_, ?_, hD11.turn hD9 nD' nDd', ?_⟩
              · rw [List.length_map, hrl']
                exact small8 (by omega)
              · rw [upd_same, List.map_append]
                rfl
              · rw [List.length_append, hrl']
                rfl
              · intro y hy
                rcases List.mem_append.mp hy with hy | hy
                · exact hrx' y hy
                · have e : y = z := by simpa using hy
                  omega
              · intro b o nb e
                have e8 := g10.off o11 b o nb e
                rw [upd_ne (ne_of_none e nD')]
                exact e8
            · rintro H10 ⟨row', hrow', hrl', hrx', hD10, g10⟩
              exact ⟨D', row', rfl, hrow', ⟨hrl'.trans er, hrx'⟩, hD10, g9.trans g10⟩
          · rintro σ10 H10 ⟨D10, row, rfl, hrow, hR, hD10, g10⟩
            -- weight = [1, 1 + off(d, 4), 1 + off(d, 99)][off(d, 3)]
            have g10' : Gr d H H10 := g7.trans g10
            refine ⟨.ref d, rfl, d, l, ns, _, rfl, hD10, by omega, by omega, fun x1 H11 hx1 hD11 o11 => ?_⟩
            refine ⟨1, x1, rfl, rfl, .ref d, rfl, d, l, ns, _, rfl, hD11, by omega, by omega, fun x2 H12 hx2 hD12 o12 => ?_⟩
            refine ⟨1, x2, rfl, rfl, (by show 3 ≤ sizeLine; decide), fun W nW => ?_⟩
            have hD13 := hD12.new (o := .lst [.int 1, .int (1 + (x1 : Int)), .int (1 + (x2 : Int))]) nW
            have nWd : W ≠ d := hD12.ne nW
            have g13 : Gr d H10 (upd H12 W (.lst [.int 1, .int (1 + (x1 : Int)), .int (1 + (x2 : Int))])) := (((Gr.refl d H10).off o11).off o12).new nW
            have hW13 : (upd H12 W (.lst [.int 1, .int (1 + (x1 : Int)), .int (1 + (x2 : Int))])) W = some (.lst [.int 1, .int (1 + (x1 : Int)), .int (1 + (x2 : Int))]) := upd_same
            refine ⟨.ref d, rfl, d, l, ns, _, rfl, hD13, by omega, by omega, fun x3 H14 hx3 hD14 o14 => ?_⟩
            have hW14 : H14 W = some (.lst [.int 1, .int (1 + (x1 : Int)), .int (1 + (x2 : Int))]) := by rw [o14 _ nWd]; exact hW13
            have g14 : Gr d H10 H14 := g13.off o14
            obtain ⟨wt, hw1, hw9, hw⟩ : ∃ c : Int, 1 ≤ c ∧ c ≤ 99 ∧ ([.int 1, .int (1 + (x1 : Int)), .int (1 + (x2 : Int))] : List V)[x3]? = some (.int c) := by
              have h3 : x3 < 3 := by omega
              match x3, h3 with
              | 0, _ => exact ⟨1, by decide, by decide, rfl⟩
              | 1, _ => exact ⟨1 + (x1 : Int), by omega, by omega, rfl⟩
              | 2, _ => exact ⟨1 + (x2 : Int), by omega, by omega, rfl⟩
            refine ⟨W, _, _, _, rfl, rfl, SqL.of hW14, atI_nat hw, ?_⟩
            -- moves.append((weight, tuple(row)))
            have nm' : ∀ {H'}, Dc K l ns H' d → H' m = H' m := fun _ => rfl
            have hm14 : H14 m = some (.lst ws) := (g10.trans g14) m _ nmd hm7
            have nD10 : D10 ≠ d := hD10.ne_of hrow fun s0 l k big z => by
              injection z with z
              exact map_int_dl z
            have hrow14 : H14 D10 = some (.lst (row.map V.int)) := g14 D10 _ nD10 hrow
            refine ⟨.ref m, rfl, .inl ⟨rfl, _, SqL.of hm14⟩, .int wt, rfl, .ref D10, rfl, D10, _, rfl, .inl ⟨SqL.of hrow14, fun tq ntq => ?_⟩⟩
            refine ⟨by show 2 ≤ sizeLine; decide, fun tp ntp => ?_⟩
            have g16 : Same H14 (upd (upd H14 tq (.tup (row.map V.int))) tp (.tup [.int wt, .ref tq])) := (same_new ntq).trans (same_new ntp)
            have htp : (upd (upd H14 tq (.tup (row.map V.int))) tp (.tup [.int wt, .ref tq])) tp = some (.tup [.int wt, .ref tq]) := upd_same
            have htq : (upd (upd H14 tq (.tup (row.map V.int))) tp (.tup [.int wt, .ref tq])) tq = some (.tup (row.map V.int)) := by
              rw [upd_ne (ne_of_none upd_same ntp)]
              exact upd_same
            have hD16 := hD14.same g16
            generalize (upd (upd H14 tq (.tup (row.map V.int))) tp (.tup [.int wt, .ref tq])) = H16 at g16 htp htq hD16 ⊢
            have hm16 := g16 m _ hm14
            have gt : Gr d H7 H16 := (g10.trans g14).trans (Gr.of_same g16)
            have hM16 : MovesAt H16 ws ms := hM7.same (gt.tups (K := K) hD7)
            have hl := hM16.length
            refine ⟨m, _, _, rfl, rfl, hm16, by rw [hl]; exact small8 (by omega), ?_⟩
            refine ⟨some (.int (0 + (i : Int))), some (.ref D10), some (.int wt), ms ++ [(wt, row)], ws ++ [.ref tp], rfl, hD16.turn hD2 nm nmd, ?_, upd_same, ?_, by rw [List.length_append, hl7]; rfl, ?_⟩
            · intro b o nb e
              by_cases hb : b = m
              · rw [hb] at e nb
                have z := g2 m o nb e
                rw [nm] at z
                cases z
              · rw [upd_ne hb]
                exact (g7.trans gt) b o nb e
            · refine MovesAt.same (H := H16) ?_ (MovesAt.snoc ⟨tp, tq, rfl, htp, htq⟩ hM16)
              intro b xs e
              rw [upd_ne]
              · exact e
              · intro z
                rw [z, hm16] at e
                cases e
            · intro mv hmv
              rcases List.mem_append.mp hmv with hmv | hmv
              · exact hg7 mv hmv
              · have e : mv = (wt, row) := by simpa using hmv
                subst e
                exact ⟨hw1, hw9, hR⟩
    · rintro σ7 H7 ⟨y5, y6, y7, ms, ws, rfl, hD7, g7, hm7, hM7, hl7, hg7⟩
      refine ⟨_, rfl, .ref m, rfl, (by show 2 ≤ sizeLine; decide), fun t nt => ?_⟩
      refine q t m many ws ms _ ⟨by omega, by omega, by omega, by omega, hg7⟩ (by omega) ⟨?_, same_new nt _ _ hm7, hM7.same (Same.tups (same_new nt))⟩ (hD7.new nt) (g7.new nt)
      rw [← em2]
      exact upd_same
end
end
/-! ### all(x in range(y) for x in a tuple of ints): a rule of our own -/
/-- the element: x in range(y), y a captured int -/
def eltR (x y : Str) (p1 p2 p3 p4 p5 : Pos) : Expr := .Compare (.Name x p1) [.In] [.Call (.Name "range" p2) [.Name y p3] [] p4] p5
def inR (n z : Int) : Bool := decide (0 ≤ z ∧ z < n)
theorem elt_range {prog : Program} {w : World} {cenv : Env} {A : Around} {E : Value → Shared → Prop} {x y : Str} {p1 p2 p3 p4 p5 : Pos} {s : Shared} {m mg mb : Str → Option Value} {cc : Addr} {z n : Int} {t u : Tok}
    (kf : cenv.scope.kind = .function) (kx : cenv.kindOf x = some .local) (ky : cenv.kindOf y = some .free) (kr : cenv.kindOf "range" = some .globalImplicit) (hm : s.heap.Ns cenv.locals m) (ex : m x = some (.int z t))
    (hc : cenv.cells.lookup y = some cc) (ec : s.heap.IsCell cc (some (.int n u))) (hg : s.heap.Ns cenv.globals mg) (nr : mg "range" = none) (hb : s.heap.Ns cenv.builtins mb) (br : mb "range" = some (.type "range"))
    (dx : (x == ("__debug__" : Str)) = false) (dy : (y == ("__debug__" : Str)) = false) (cy : (y == ("__classdict__" : Str)) = false) :
    wpAny (model prog w) A (eval (eltR x y p1 p2 p3 p4 p5) cenv) (fun v s' => v = .bool (inR n z) ∧ Keeps s s') E s := by
  refine wpAny_Compare1 (wpAny_Name (wpAny_loadName_local kf kx hm ex ?_) dx) (by rfl)
  refine wpAny_Call_Name_kw (Calls.Name_function_global kf kr (Calls.loadGlobal_builtin hg nr hb br ?_) (by decide))
  refine PyProof.Rows.callWith_type1 (Calls.spliced_cons (wpAny_Name (wpAny_loadName_free kf ky hc ec ?_ cy) dy)) (by rfl) (by rfl)
  refine Calls.spliced_nil (call_range_1 ?_)
  have ho := Heap.get?_push_size s.heap (o := { cls := .type "range", data := .fields #[.int 0 s.toks, .int n u, .int 1 (s.toks + 1)] }) rfl
  show wpAny _ _ (do return Value.bool (← contains (Value.ref s.heap.objs.size) (Value.int z t))) _ _ _
  refine wpAny_bind (wpAny_contains_slot (T := "range") ⟨_, ho, rfl⟩ F.slot_range_contains (call_meets F.slot_range_contains ⟨_, ho, rfl⟩ F.entry_range_contains (F.args_range_contains_2 _ _) (q_contains s.heap.objs.size 0 n z s.toks u (s.toks + 1) t) ⟨ho, ?_⟩))
  refine wpAny_truthy_bool (wpAny_pure ⟨?_, _, _, rfl, fun b o e => Heap.get?_push_of_some _ e⟩)
  rw [place1]
  rfl
open GxR in
/-- the walk that all(..) makes, once the generator stands at g -/
def AllReady (X : Cx) (pins : List (Addr × Obj)) (σ : L2.St) (H1 : Hp) (P : Addr) (bs : List Bool) (g : Addr) (s5 : Shared) : Prop :=
  ∃ (fp wr : List Addr) (G : Array GenState → Array GenState → Prop) (F : Nat → Value → Prop) (St : Nat → Shared → Prop) (tr : Nat → Bool),
    WalksS X.prog X.w X.A.in1 g fp wr G bs.length F St ∧ St 0 s5 ∧ TruthOf X.prog X.w X.A.in1 F tr ∧ (∀ j b, bs[j]? = some b → tr j = b) ∧
    ∀ s', Moved wr G s5 s' → ∃ H2, Tabbed P H1 H2 ∧ Inv X pins σ H2 s'
theorem clo_one {cells : List (Str × Addr)} : ∀ (names : List (Str × NameKind)) (acc : List (Str × Addr)) (y : Str) (cc : Addr), (∀ p ∈ names, p.2 = .free → cells.lookup p.1 = some ((cells.lookup p.1).getD 0)) → cells.lookup y = some cc →
    ((y, NameKind.free) ∈ names ∨ acc.lookup y = some cc) → (cloFrom cells names acc).lookup y = some cc := by
  intro names
  induction names with
  | nil =>
    intro acc y cc _ _ h
    rcases h with h | h
    · cases h
    · exact h
  | cons p r ih =>
    intro acc y cc hf hy h
    obtain ⟨n, kd⟩ := p
    unfold cloFrom
    have hf' : ∀ p ∈ r, p.2 = .free → cells.lookup p.1 = some ((cells.lookup p.1).getD 0) := fun p hp => hf p (List.mem_cons_of_mem _ hp)
    by_cases hk : (kd == NameKind.free) = true
    · rw [if_pos hk]
      refine ih _ y cc hf' hy ?_
      by_cases hn : y = n
      · subst hn
        refine .inr ?_
        rw [List.lookup_cons_self, hy]
        rfl
      · rcases h with h | h
        · rcases List.mem_cons.mp h with e | e
          · injection e with e1 _
            exact absurd e1 hn
          · exact .inl e
        · refine .inr ?_
          rw [List.lookup_cons, show (y == n) = false from by simpa using hn]
          exact h
    · rw [if_neg hk]
      refine ih _ y cc hf' hy ?_
      rcases h with h | h
      · rcases List.mem_cons.mp h with e | e
        · injection e with _ e2
          exact absurd (by rw [← e2]; rfl) hk
        · exact .inl e
      · exact .inr h
/-- the generator's code object: there already, or made and put into the table -/
theorem gen_code {M : Model} {A : Around} {env : Env} {c P : Addr} {gpos : Pos} {q : Str} {scope : Scope} {E : Value → Shared → Prop} {Q : Value → Shared → Prop} {s : Shared} {ps : Array Value} (hcode : env.code = .ref c) (cd : PySem.W.CodeHd s.heap c P)
    (hP : s.heap.get? P = some { cls := .none, data := .fields ps }) (ht : TriplesOk ps.toList)
    (h : ∀ (code : Value) (h3 : Heap) (tk : Nat) (more : Array Value), Heap.ExtBut P s.heap h3 → s.heap.objs.size ≤ h3.objs.size → h3.get? P = some { cls := .none, data := .fields (ps ++ more) } → TriplesOk (ps ++ more).toList → Q code { s with heap := h3, toks := tk }) :
    wpAny M A (genexprCode env gpos q scope) Q E s := by
  match hf : codeAmong gpos ps.toList with
  | some cv => exact wpAny_genexprCode_hit hcode (cd.code hP ht) hf (h cv s.heap s.toks #[] (Heap.ExtBut.refl _ _) (Nat.le_refl _) (by rw [Array.append_empty]; exact hP) (by rw [Array.append_empty]; exact ht))
  | none =>
    refine wpAny_genexprCodeX hcode (cd.code hP ht) (cd.tab hP) hf fun c' h' tk hx hge hlt hco _ htab _ => h _ h' tk _ hx (Nat.le_trans hge (Nat.le_of_lt hlt)) htab.2 ?_
    obtain ⟨_, _, _, _, _, _, _, _, _, _, _, _, _, _, _, _, _, _, _, htr, _⟩ := hco
    exact htr
section
variable {X : Cx} {pins : List (Addr × Obj)} {σ : L2.St} {H : Hp} {s : Shared}
open GxR in
theorem gen_range {c P : Addr} {iter : Expr} {x y : Str} {px gpos p1 p2 p3 p4 p5 : Pos} {scope : Scope} {te : TE} {k i : Nat} {Q' : Value → Shared → Prop} {R : List Int → Int → Hp → Prop}
    (hr : Room k X.A) (TB : TabB X.base X.mg c P) (hcode : X.env.code = .ref c) (S : GenS X.env scope x) (hi : PE X iter te) (hy : X.N[i]? = some y) (vy : X.env.kindOf y = some .cell) (fy : (y, NameKind.free) ∈ scope.names) (ly : scope.names.lookup y = some .free)
    (lr : scope.names.lookup ("range" : Str) = some .globalImplicit) (nr : X.mg "range" = none) (dx : (x == ("__debug__" : Str)) = false) (dy : (y == ("__debug__" : Str)) = false) (cy : (y == ("__classdict__" : Str)) = false)
    (hs : ∀ v, genFold iter X.env v = pure v) (I : Inv X pins σ H s) (h : te σ H fun v H1 => ∃ (a : Addr) (ns : List Int) (n : Int), v = .ref a ∧ SqT X.K H1 a (ns.map V.int) ∧ TabG H1 P ∧ σ[i]? = some (some (.int n)) ∧ R ns n H1)
    (hQ : ∀ ns n H1 g s5, R ns n H1 → AllReady X pins σ H1 P (ns.map (inR n)) g s5 → Q' (.ref g) s5) :
    wpAny (model X.prog X.w) X.A (eval (.GeneratorExp (eltR x y p1 p2 p3 p4 p5) [⟨.Name x px, iter, [], 0⟩] scope gpos) X.env) Q' X.xe s := by
  refine wpAny_GeneratorExp_walksQ hr.hd S.co (closure_ok S.free) S.cell S.dot S.loc S.kind (by have := hr.dp; omega) ?_ hs
  refine thn (hi.run pins s σ H _ I h) fun xv s1 ⟨v, H1, I1, r1, a, ns, n, ev, hT, hTab, hn, hR⟩ => ?_
  subst ev
  obtain rfl : xv = Value.ref a := r1
  obtain ⟨its, rv, hTup, hz⟩ := I1.tuple hT
  have tupAt : s1.heap.IsTuple a its.toArray := hTup
  -- the captured int
  obtain ⟨cc, u, hcc, hcell⟩ : ∃ (cc : Addr) (u : Tok), X.env.cells.lookup y = some cc ∧ s1.heap.IsCell cc (some (.int n u)) := by
    obtain ⟨m, _, hl⟩ := I1.loc
    obtain ⟨uv, ru, lk⟩ := hl i y (.int n) hy hn (.inr (.inl vy))
    obtain ⟨u, eu⟩ := ru
    subst eu
    rcases lk with ⟨k1, _⟩ | ⟨_, cc, e1, e2⟩
    · rw [vy] at k1
      cases k1
    · exact ⟨cc, u, e1, e2⟩
  obtain ⟨mb, bb1, bb2⟩ := I1.mod.blt
  have lenI : its.toArray.size = ns.length := by
    have e := rv.length
    rw [List.length_map] at e
    simp only [List.size_toArray]
    omega
  obtain ⟨ps, hP, hps⟩ := hTab
  refine wpAny_pyIter_tuple tupAt ?_
  -- it: the iterator's object
  let it : Obj := { cls := .type "tuple_iterator", data := .fields #[.ref a, .int 0 0] }
  have atP : s1.heap.get? P = some { cls := .none, data := .fields ps } := I1.hok P _ hP
  have ltP : P < s1.heap.objs.size := Heap.lt_size atP
  have limI : (s1.heap.push it).NoLimit := I1.nolimit.push it
  have keepI : ∀ b o, s1.heap.get? b = some o → (s1.heap.push it).get? b = some o := fun b o e => Heap.get?_push_of_some _ e
  have codeI : PySem.W.CodeHd (s1.heap.push it) c P := TB.code.keeps fun b o e => keepI b o (I1.bk b o e)
  have ltS : cStatics < s1.heap.objs.size := let ⟨_, q, _⟩ := I1.nolimit; q.lt
  have neS : cStatics ≠ P := fun e => by
    obtain ⟨_, ⟨o', es, ep, g1, g2, _⟩, _⟩ := I1.nolimit
    rw [e, atP] at g1
    cases g1
    cases g2
  have szI : (s1.heap.push it).objs.size = s1.heap.objs.size + 1 := Heap.size_push ..
  have iterI : (s1.heap.push it).IsTupleIter s1.heap.objs.size a 0 := ⟨_, Heap.get?_push_size _ rfl, rfl, rfl⟩
  have tupI : (s1.heap.push it).IsTuple a its.toArray := by
    obtain ⟨o, e, r⟩ := tupAt
    exact ⟨o, keepI _ _ e, r⟩
  have neIt : a ≠ s1.heap.objs.size := by
    obtain ⟨o, e, _⟩ := tupAt
    exact Nat.ne_of_lt (Heap.lt_size e)
  have neAP : a ≠ P := fun e => by
    obtain ⟨o, g, _, nn, dd⟩ := tupAt
    rw [e, atP] at g
    cases g
    cases dd
  have Wk : ∀ A' : Around, A'.handled = none → Walks X.prog X.w A' s1.heap.objs.size [s1.heap.objs.size, a] [s1.heap.objs.size] its.toArray.size (fun j v => its.toArray[j]? = some v) (fun j hp => hp.IsTupleIter s1.heap.objs.size a j ∧ hp.IsTuple a its.toArray) :=
    fun A' hA => Walks.tuple hA s1.heap.objs.size a neIt its.toArray
  refine ⟨limI, gen_code hcode codeI (keepI _ _ atP) hps fun code h3 tk more hx hge hP3 ht3 => ?_⟩
  have hge2 : s1.heap.objs.size + 1 ≤ h3.objs.size := by
    rw [← szI]
    exact hge
  have keep3 : ∀ b o, b ≠ P → s1.heap.get? b = some o → h3.get? b = some o := fun b o nb e => hx b o nb (keepI b o e)
  obtain ⟨bm, ob, f1, f2, f3, f4, f5, f6, f7, f8⟩ := TB.bm
  have glob3 : h3.Ns X.env.globals X.mg := by
    rw [I1.ok.glob]
    exact ((I1.mod.glob.keeps I1.bk).push it).extBut hx TB.gP
  refine wpAny_builtinsFor (m := X.mg) glob3 f1 f2 (keep3 _ _ f4 (I1.bk _ _ f5)) f6 f7 f8 ?_
  refine ⟨s1.heap.objs.size, [s1.heap.objs.size, a], [s1.heap.objs.size], its.toArray.size, fun j v => its.toArray[j]? = some v, _, fun _ => true, fun j v => ∃ z, ns[j]? = some z ∧ v = .bool (inR n z), rfl, Wk, ?_, ?_, limI.extBut hx neS, ?_, ?_, ?_⟩
  · refine ⟨?_, ?_⟩
    · obtain ⟨o, e, r⟩ := iterI
      exact ⟨o, hx _ _ (Nat.ne_of_gt ltP) e, r⟩
    · obtain ⟨o, e, r⟩ := tupI
      exact ⟨o, hx _ _ neAP e, r⟩
  · intro b hb
    show b < h3.objs.size
    rcases List.mem_cons.mp hb with e | e
    · rw [e]
      exact Nat.lt_of_succ_le hge2
    · have e2 : b = a := by simpa using e
      obtain ⟨o, g, _⟩ := tupAt
      have lta := Heap.lt_size g
      rw [e2]
      exact Nat.lt_of_lt_of_le lta (by omega)
  · intro hmem
    have e : cStatics = s1.heap.objs.size := by simpa using hmem
    rw [e] at ltS
    exact Nat.lt_irrefl _ ltS
  · intro href hhref
    refine ⟨fun A' E' j v s₂ m₂ hA hPv ha2 hb2 hk => ?_, fun A' E' j v s₂ m₂ hA hPv _ ha2 hb2 hk => ?_⟩
    · simp only [List.forIn_nil]
      exact wpAny_pure ⟨rfl, s₂.heap, s₂.toks, rfl, fun _ _ e => e⟩
    · -- what stood ahead of the generator stands
      have old : ∀ b o, b ≠ P → s1.heap.get? b = some o → s₂.heap.get? b = some o := fun b o nb e => by
        refine hk b (List.mem_range.mpr ?_) (fun z => ?_) o (hhref b o (keep3 b o nb e))
        · exact Nat.lt_of_lt_of_le (Heap.lt_size e) (by show s1.heap.objs.size ≤ h3.objs.size; omega)
        · have e2 : b = s1.heap.objs.size := by simpa using z
          exact Nat.ne_of_lt (Heap.lt_size e) e2
      have nPb : ∀ b o, X.base.get? b = some o → b ≠ P := fun b o e z => by
        have q := (I1.bs b o e).2
        rw [z, hP] at q
        cases q
      have hjv : its[j]? = some v := by simpa using hPv
      obtain ⟨zv, ez, rz⟩ : ∃ z, ns[j]? = some z ∧ RelV (.int z) v := by
        have hj : j < ns.length := by
          obtain ⟨h, _⟩ := List.getElem?_eq_some_iff.mp hjv
          simpa [lenI] using (show j < its.toArray.size by simpa using h)
        obtain ⟨uu, g1, g2⟩ := rv.get (i := j) (x := .int ns[j]) (by rw [List.getElem?_map, List.getElem?_eq_getElem hj]; rfl)
        rw [hjv] at g1
        cases g1
        exact ⟨_, List.getElem?_eq_getElem hj, g2⟩
      obtain ⟨tz, rfl⟩ := rz
      have cellS : s₂.heap.IsCell cc (some (.int n u)) := by
        obtain ⟨o, e, d⟩ := hcell
        refine ⟨o, old _ _ (fun z => ?_) e, d⟩
        rw [z, atP] at e
        cases e
        cases d
      have gS : s₂.heap.Ns mainGlobals X.mg := by
        obtain ⟨o, es, ep, e, r⟩ := I1.mod.glob
        exact ⟨o, es, ep, old _ _ (nPb _ _ e) (I1.bk _ _ e), r⟩
      have bS : s₂.heap.Ns builtinsNs mb := by
        obtain ⟨o, es, ep, e, r⟩ := bb1
        exact ⟨o, es, ep, old _ _ (nPb _ _ e) (I1.bk _ _ e), r⟩
      have hclo : (cloFrom X.env.cells scope.names []).lookup y = some cc := clo_one _ _ _ _ (fun p hp hf => by
        obtain ⟨c', ec'⟩ := S.free p hp hf
        rw [ec']
        rfl) hcc (.inl fy)
      refine thn (elt_range (x := x) (y := y) S.kind S.loc ly lr ha2 hb2 hclo cellS (mg := X.mg) (by show s₂.heap.Ns X.env.globals X.mg; rw [I1.ok.glob]; exact gS) nr bS ((bb2 "range" (by decide)).trans (by decide +kernel)) dx dy cy) fun v' s3 hv => ⟨⟨zv, ez, hv.1⟩, hv.2⟩
  · intro g h5 tk5 gs hbare hag hsz5 hk5 W5 hat
    have e0 : passing (fun _ => true) its.toArray.size 0 = List.range its.toArray.size := GxR.passing_true _
    rw [e0] at W5
    rw [List.length_range, lenI] at W5
    have oldA : ∀ b o, s1.heap.get? b = some o → b ∉ h3.objs.size :: [s1.heap.objs.size] := fun b o e hb => by
      have l0 := Heap.lt_size e
      rcases List.mem_cons.mp hb with z | z
      · rw [z] at l0
        exact absurd (Nat.lt_of_lt_of_le l0 (Nat.le_of_succ_le hge2)) (Nat.lt_irrefl _)
      · have z2 : b = s1.heap.objs.size := by simpa using z
        exact Nat.ne_of_lt l0 z2
    have W6 := W5.in4_1
    rw [show ns.length = (ns.map (inR n)).length from (List.length_map _).symm] at W6
    rw [lenI, show ns.length = (ns.map (inR n)).length from (List.length_map _).symm] at hat
    refine hQ ns n H1 g _ hR ⟨_, _, _, _, _, fun j => (ns.map (inR n)).getD j false, W6, hat, ?_, fun j b hb => by show (ns.map (inR n)).getD j false = b; rw [List.getD_eq_getElem?_getD, hb]; rfl, fun s' hm => ?_⟩
    · intro j yv sj Qj Ej hy hQj
      obtain ⟨i', hij, z, hz', rfl⟩ := hy
      obtain ⟨hj, ej⟩ := List.getElem?_eq_some_iff.mp hij
      rw [List.getElem_range] at ej
      subst ej
      refine wpAny_truthy_bool ?_
      have eb : (ns.map (inR n)).getD j false = inR n z := by
        rw [List.getD_eq_getElem?_getD, List.getElem?_map, hz']
        rfl
      have hQj' : Qj ((ns.map (inR n)).getD j false) sj := hQj
      rw [eb] at hQj'
      exact hQj'
    · have J := inv_tab (more := more) (h' := s'.heap) (g' := s'.gens) (d' := s'.drawn) (t' := s'.toks) I1 hP (fun b o nb e => hm.heap b o (oldA b o e) (hk5 b o (keep3 b o nb e))) (hm.heap P _ (oldA P _ atP) (hk5 P _ hP3)) (AllBare.movedS (I1.bare.push hbare) hm)
      rw [sh_eta s1 s' hm.os] at J
      exact ⟨upd H1 P (.tbl (ps ++ more)), ⟨⟨ps ++ more, upd_same, ht3⟩, fun b hb => upd_ne hb⟩, J⟩
/-- all(x in range(y) for x in e): e a tuple of ints, y an int in slot i -/
def tAllR (K : PySem.W.Frag) (P : Addr) (i : Nat) (te : TE) : TE := fun σ H Q => te σ H fun v H1 => ∃ (a : Addr) (ns : List Int) (n : Int), v = .ref a ∧ SqT K H1 a (ns.map V.int) ∧ GxR.TabG H1 P ∧ σ[i]? = some (some (.int n)) ∧
  ∀ H2, GxR.Tabbed P H1 H2 → Q (.bl (ns.all (inR n))) H2
theorem all_tr : ∀ (bs : List Bool) (tr : Nat → Bool), (∀ j b, bs[j]? = some b → tr j = b) → (List.range bs.length).all tr = bs.all id := by
  intro bs tr h
  rw [Bool.eq_iff_iff, List.all_eq_true, List.all_eq_true]
  constructor
  · intro g b hb
    obtain ⟨j, hj, e⟩ := List.getElem_of_mem hb
    have q := g j (List.mem_range.mpr hj)
    rw [h j b (by rw [List.getElem?_eq_getElem hj, e])] at q
    exact q
  · intro g j hj
    have hj' := List.mem_range.mp hj
    rw [h j bs[j] (List.getElem?_eq_getElem hj')]
    exact g _ (List.getElem_mem hj')
theorem pe_allR {c P : Addr} {iter : Expr} {x y : Str} {px p pos gpos p1 p2 p3 p4 p5 : Pos} {scope : Scope} {te : TE} {k i : Nat}
    (hr : Room k X.A) (hg : Gl X "all") (hm : X.mg "all" = none) (TB : GxR.TabB X.base X.mg c P) (hcode : X.env.code = .ref c) (S : GxR.GenS X.env scope x) (hi : PE X iter te) (hy : X.N[i]? = some y) (vy : X.env.kindOf y = some .cell) (fy : (y, NameKind.free) ∈ scope.names) (ly : scope.names.lookup y = some .free)
    (lr : scope.names.lookup ("range" : Str) = some .globalImplicit) (nr : X.mg "range" = none) (dx : (x == ("__debug__" : Str)) = false) (dy : (y == ("__debug__" : Str)) = false) (cy : (y == ("__classdict__" : Str)) = false)
    (hs : ∀ v, genFold iter X.env v = pure v)
    (he : starEach [.GeneratorExp (eltR x y p1 p2 p3 p4 p5) [⟨.Name x px, iter, [], 0⟩] scope gpos] X.env = (false, eval (.GeneratorExp (eltR x y p1 p2 p3 p4 p5) [⟨.Name x px, iter, [], 0⟩] scope gpos) X.env) :: starEach [] X.env := by rfl) :
    PE X (.Call (.Name "all" p) [.GeneratorExp (eltR x y p1 p2 p3 p4 p5) [⟨.Name x px, iter, [], 0⟩] scope gpos] [] pos) (tAllR X.K P i te) := by
  refine ⟨fun pins s σ H Q I h => wpAny_Call_Name_kw (ld_blt I hg hm (by decide +kernel) (PyProof.Rows.callWith_builtin1 (id := "all") ?_ he (by rfl)))⟩
  rw [he]
  show wpAny _ _ (spliced (_ :: backTo pos (starEach [] X.env))) _ _ s
  refine Calls.spliced_cons (gen_range (R := fun ns n H1 => ∀ H2, GxR.Tabbed P H1 H2 → Q (.bl (ns.all (inR n))) H2) hr TB hcode S hi hy vy fy ly lr nr dx dy cy hs I h fun ns n H1 g s5 hR ⟨fp, wr, G, F, St', tr, W, hst, htr, hb, hI⟩ => Calls.spliced_nil ?_)
  refine call_all_walkS (W.self 0 _ _ _ hst ⟨g, fp, wr, G, _, F, St', _, rfl, W, hst, htr, fun s' hmv => ?_⟩)
  obtain ⟨H2, hT, J⟩ := hI s' hmv
  refine ⟨.bl _, H2, J, rfl, ?_⟩
  rw [all_tr _ tr hb, List.all_map]
  exact hR H2 hT
end
/-! ### a def of the text whose code object is known -/
structure FunT (K : PySem.W.Frag) (x qual : Str) (st : Stmt) (f : Addr) (fd : FuncData) (c : Addr) : Prop where
  ex : ∃ (oc : Value) (od : Option Addr) (kV doc pm : Value) (an : Option Addr) (ct : Value) (osl : Array (Option Value)),
    fd = PySem.W.fnOf x qual (defArgs st) (defBody st) (defScope st) .none kV doc pm an (.ref c) ct ∧ K.lookup f = some ⟨oc, od, .func fd, osl⟩ ∧ PySem.W.codeIn K (.ref c) qual = true
  kp : PySem.W.keepIn K (.ref f) = true
/-- x not in range(..) -/
theorem op_notIn_rng {X : Cx} : OpR X (compareOp .NotIn) (fun x y H Q => ∃ i a lo hi, x = V.int i ∧ y = V.ref a ∧ H a = some (.rng lo hi) ∧ Q (.bl (!decide (lo ≤ i ∧ i < hi))) H) := by
  intro pins s σ H x y v u Q I rx ry ⟨i, a, lo, hi, ex, ey, ha, q⟩
  subst ex ey
  obtain ⟨k, rfl⟩ := rx
  have e2 : u = Value.ref a := ry
  subst e2
  obtain ⟨t1, t2, t3, ho⟩ := I.hok a _ ha
  show wpAny _ _ (do return Value.bool (!(← contains (Value.ref a) (Value.int i k)))) _ _ s
  refine wpAny_bind (wpAny_contains_slot (T := "range") ⟨_, ho, rfl⟩ F.slot_range_contains (call_meets F.slot_range_contains ⟨_, ho, rfl⟩ F.entry_range_contains (F.args_range_contains_2 _ _) (q_contains a lo hi i t1 t2 t3 k) ⟨ho, wpAny_truthy_bool ?_⟩))
  refine wpAny_pure ⟨.bl _, H, I, rfl, ?_⟩
  rw [place1]
  exact q
section
variable {P : Program} {w : World} {K : PySem.W.Frag} {mg : Str → Option Value} {base : Heap}
/-! ### _is_move -/
theorem scIsMove : FnScope ["many", "move", "weight", "whither"] ["many", "move"] (defScope sIsMove) := ⟨rfl, rfl, rfl, by decide +kernel, rfl, by decide +kernel, by decide +kernel⟩
def isMv (many : Int) (m : Mv) : Bool := decide (1 ≤ m.1 ∧ m.1 < 100) && decide ((m.2.length : Int) = many) && m.2.all (inR many)
def spIsMove (T : Addr) : Sp := fun vs H Q _ => ∃ (many : Int) (v : V) (m : Mv), vs = [.int many, v] ∧ MoveAt H v m ∧ GxR.TabG H T ∧ ∀ H', Gr T H H' → GxR.TabG H' T → Q (.bl (isMv many m)) H'
/-- the program's names that a chain leans on -/
structure ChTxt (K : PySem.W.Frag) (mg : Str → Option Value) (fM cM tM : Addr) (fdM : FuncData) (C fI : Addr) (fdI : FuncData) : Prop where
  FM : FunT K "_is_move" "_is_move" sIsMove fM fdM cM
  bM : Binds K fdM ["many", "move"] []
  gM : mg "_is_move" = some (.ref fM)
  FI : Fun K "__init__" "Chain.__init__" (inClass cChain 0) fI fdI
  bI : Binds K fdI ["self", "many", "moves"] []
  mC : Mk K C fI
  cl : Cls K C
  nM : NoAttr K C "_many"
  nV : NoAttr K C "_moves"
  gC : mg "Chain" = some (.ref C)
  gP : ∃ t, mg "MOST_PLACES" = some (.int 6 t)
  gV : ∃ t, mg "MOST_MOVES" = some (.int 8 t)
  gW : ∃ t, mg "MOST_WEIGHT" = some (.int 99 t)
  ml : mg "len" = none
  mi : mg "isinstance" = none
  mt : mg "tuple" = none
  mr : mg "range" = none
  ma : mg "all" = none
  me : mg "enumerate" = none
  mL : mg "list" = none
section
variable {fM cM tM : Addr} {fdM : FuncData} {C fI : Addr} {fdI : FuncData}
theorem genS_move {L f : Addr} {cdv : Value} {scope : Scope} (hs : scope.names = [((".0" : Str), .local), (("place" : Str), .local), (("many" : Str), .free), (("range" : Str), .globalImplicit)]) (hk : scope.kind = .function) (hc : scope.isCoroutine = false) (ha : (envOfC "_is_move" (defScope sIsMove) L f cdv).cells.lookup ("many" : Str) ≠ none) :
    GxR.GenS (envOfC "_is_move" (defScope sIsMove) L f cdv) scope "place" := by
  refine ⟨hk, hc, ?_, ?_, ?_, ?_⟩
  · rw [hs]
    decide +kernel
  · rw [hs]
    decide +kernel
  · rw [hs]
    decide +kernel
  · intro y hy hf
    rw [hs] at hy
    have e : y.1 = ("many" : Str) := by
      rcases List.mem_cons.mp hy with e | hy
      · rw [e] at hf
        cases hf
      rcases List.mem_cons.mp hy with e | hy
      · rw [e] at hf
        cases hf
      rcases List.mem_cons.mp hy with e | hy
      · rw [e]
      rcases List.mem_cons.mp hy with e | hy
      · rw [e] at hf
        cases hf
      · cases hy
    rw [e]
    cases q : (envOfC "_is_move" (defScope sIsMove) L f cdv).cells.lookup ("many" : Str) with
    | none => exact absurd q ha
    | some c => exact ⟨c, rfl⟩
theorem ok_ismove (T : ChTxt K mg fM cM tM fdM C fI fdI) (TB : GxR.TabB base mg cM tM) : FnOk P w K mg base CX0 1 fM fdM ["many", "move"] (spIsMove tM) := by
  obtain ⟨oc, od, kV, doc, pm, an, ct, osl, efd, lk, hcd⟩ := T.FM.ex
  subst efd
  obtain ⟨tw, gW⟩ := T.gW
  refine fn_of (N := ["many", "move", "weight", "whither"]) lk hcd scIsMove (fun vs H Q E h => ?_) (fun A outer s H vs Q E hr h => ?_)
  · obtain ⟨many, v, m, rfl, _⟩ := h
    rfl
  · obtain ⟨many, v, m, rfl, ⟨a, b, rfl, ha, hb⟩, hTab, q⟩ := h
    refine ⟨_, pss_cons (ps_if (PW.pt (pw_or (pt_not (pt_val (pe_callB RZ.call_isTy (by rfl) T.mi (by decide +kernel) (pa_cons (pv 1) (pa_cons (pe_bltn (v := .ty "tuple") (by rfl) T.mt (by decide +kernel) rfl) pa_nil)))))
          (pw_or1 (pt_cmpR op_ne (pe_callB call_len_seq (by rfl) T.ml PySem.boot_len (pa_cons (pv 1) pa_nil)) pe_int (nomark _))))) (pss_one (ps_ret pe_bl)) pss_nil)
      (pss_cons (ps_asg (pv 1) (pg_tup rfl (pgs_cons (pg_name (i := 2) scIsMove.nd rfl (.inl rfl)) (pgs_cons (pg_name (i := 3) scIsMove.nd rfl (.inl rfl)) pgs_nil))))
      (pss_cons (ps_if (pt_cmpR op_notIn_rng (pv 2) (pe_callTy cr_range2 (by rfl) T.mr (by decide +kernel) (pa_cons pe_int (pa_cons (pe_op op_add (pe_glob (v := .int 99) (by rfl) gW ⟨_, rfl⟩) pe_int) pa_nil))) rfl) (pss_one (ps_ret pe_bl)) pss_nil)
      (pss_cons (ps_if (PW.pt (pw_or (pt_not (pt_val (pe_callB RZ.call_isTy (by rfl) T.mi (by decide +kernel) (pa_cons (pv 3) (pa_cons (pe_bltn (v := .ty "tuple") (by rfl) T.mt (by decide +kernel) rfl) pa_nil)))))
          (pw_or1 (pt_cmpR op_ne (pe_callB call_len_seq (by rfl) T.ml PySem.boot_len (pa_cons (pv 3) pa_nil)) (pv 0) (nomark _))))) (pss_one (ps_ret pe_bl)) pss_nil)
      (pss_one (ps_ret (pe_allR (k := 0) (x := "place") (y := "many") (i := 0) hr (by rfl) T.ma TB rfl (genS_move (by rfl) rfl rfl ?hcell) (pv 3) rfl rfl (by decide +kernel) (by decide +kernel) (by decide +kernel) T.mr (by decide) (by decide) (by decide) (fun _ => rfl) (by rfl))))))), ?_⟩
    case hcell =>
      intro z
      have q : ((envOfC "_is_move" (defScope sIsMove) s.heap.objs.size fM (.ref cM)).cells.lookup ("many" : Str)).isSome = true := PySem.W.cellsFrom_some _ _ _ (.inl (by decide +kernel))
      rw [z] at q
      cases q
    have neT : ∀ {p : Addr}, H p = none → p ≠ tM := fun np z => by
      obtain ⟨ps, e, _⟩ := hTab
      rw [z, e] at np
      cases np
    refine ⟨.ref a, rfl, .ref a, "tuple", rfl, .tup ha, true, rfl, ?_⟩
    refine ⟨.ref a, rfl, a, _, rfl, .inr (SqT.of ha), rfl, _, rfl, iteNS rfl ?_⟩
    refine ⟨.ref a, rfl, a, _, rfl, SqT.of ha, rfl, .int m.1, [.ref b], rfl, .ref b, [], rfl, rfl, ?_⟩
    refine ⟨.int m.1, rfl, 99, 1, rfl, rfl, 1, 100, rfl, fun r nr => ⟨m.1, r, 1, 100, rfl, rfl, upd_same, _, rfl, ?_⟩⟩
    have g1 : Same H (upd H r (.rng 1 100)) := same_new nr
    have tab1 : GxR.TabG (upd H r (.rng 1 100)) tM := by
      obtain ⟨ps, e, t⟩ := hTab
      exact ⟨ps, g1 _ _ e, t⟩
    have hb1 := g1 _ _ hb
    by_cases h1 : 1 ≤ m.1 ∧ m.1 < 100
    · refine iteNS h1 ?_
      refine ⟨.ref b, rfl, .ref b, "tuple", rfl, .tup hb1, true, rfl, ?_⟩
      refine ⟨.ref b, rfl, b, _, rfl, .inr (SqT.of hb1), .int many, rfl, rfl, _, rfl, ?_⟩
      by_cases h2 : (((m.2.map V.int).length : Nat) : Int) = many
      · refine iteNS (congrArg V.int h2) ?_
        refine ⟨.ref b, rfl, b, m.2, many, rfl, SqT.of hb1, tab1, rfl, fun H2 ⟨t2, k2⟩ => ?_⟩
        have e : isMv many m = m.2.all (inR many) := by
          unfold isMv
          rw [List.length_map] at h2
          rw [decide_eq_true h1, decide_eq_true h2, Bool.true_and, Bool.true_and]
        have q2 := q H2 (fun x o nx ex => by rw [k2 x nx]; exact g1 _ _ ex) t2
        rw [e] at q2
        exact q2
      · have e : isMv many m = false := by
          unfold isMv
          rw [List.length_map] at h2
          rw [decide_eq_false h2, Bool.and_false, Bool.false_and]
        have q2 := q _ (Gr.of_same g1) tab1
        rw [e] at q2
        have h3 : ¬ V.int (((m.2.map V.int).length : Nat) : Int) = V.int many := fun z => h2 (V.int.inj z)
        show if (!decide (V.int (((m.2.map V.int).length : Nat) : Int) = V.int many)) = true then _ else _
        rw [decide_eq_false h3]
        exact q2
    · have e : isMv many m = false := by
        unfold isMv
        rw [decide_eq_false h1, Bool.false_and, Bool.false_and]
      have q2 := q _ (Gr.of_same g1) tab1
      rw [e] at q2
      rw [decide_eq_false h1]
      exact q2
end
end
def rLenSq (K : PySem.W.Frag) : List V → Hp → VK → Prop := fun xs H Q => ∃ p ys, xs = [V.ref p] ∧ (SqL K H p ys ∨ SqT K H p ys) ∧ Q (.int ((ys.length : Nat) : Int)) H
section
variable {P : Program} {w : World} {K : PySem.W.Frag} {mg : Str → Option Value} {base : Heap}
variable {fM cM tM : Addr} {fdM : FuncData} {C fI : Addr} {fdI : FuncData}
/-! ### class Chain -/
theorem scInit : FnScope ["self", "many", "moves", "number", "move"] ["self", "many", "moves"] (defScope (inClass cChain 0)) := ⟨rfl, rfl, rfl, by decide +kernel, rfl, by decide +kernel, by decide +kernel⟩
def chF (many : Int) (a : Addr) : List (Str × V) := putF "_moves" (.ref a) (putF "_many" (.int many) [])
theorem ne_mm : ¬ (("_many" : Str) = "_moves") := by decide +kernel
theorem chF_many (many : Int) (a : Addr) : (chF many a).lookup ("_many" : Str) = some (.int many) := by
  unfold chF
  rw [lookup_putF, if_neg ne_mm, lookup_putF, if_pos rfl]
theorem chF_moves (many : Int) (a : Addr) : (chF many a).lookup ("_moves" : Str) = some (.ref a) := by
  unfold chF
  rw [lookup_putF, if_pos rfl]
theorem chF_no (many : Int) (a : Addr) {m : Str} (h1 : ¬ m = "_many") (h2 : ¬ m = "_moves") : (chF many a).lookup m = none := by
  unfold chF
  rw [lookup_putF, if_neg h2, lookup_putF, if_neg h1]
  all_goals rfl
def ChainAt (C : Addr) (H : Hp) (x : Addr) (many : Nat) (ms : List Mv) : Prop := ∃ dx a ws, H x = some (.ins C dx (chF (many : Int) a)) ∧ H a = some (.lst ws) ∧ MovesAt H ws ms
theorem ChainAt.same {C : Addr} {H H' : Hp} {x : Addr} {many : Nat} {ms : List Mv} (s : Same H H') (h : ChainAt C H x many ms) : ChainAt C H' x many ms := by
  obtain ⟨dx, a, ws, h1, h2, h3⟩ := h
  exact ⟨dx, a, ws, s _ _ h1, s _ _ h2, h3.same (Same.tups s)⟩
theorem moves_no_dl {H : Hp} {ws : List V} {ms : List Mv} (h : MovesAt H ws ms) (s0 : Int) (l : Addr) (k big : Int) : HO.lst ws ≠ .lst (dl s0 l k big) := by
  intro z
  injection z with z
  subst z
  cases h with
  | cons a _ =>
    obtain ⟨_, _, e, _⟩ := a
    cases e
theorem ChainAt.gr {C d l : Addr} {ns : List Int} {H H' : Hp} {x : Addr} {many : Nat} {ms : List Mv} (hd : Dc K l ns H d) (s : Gr d H H') (h : ChainAt C H x many ms) : ChainAt C H' x many ms := by
  obtain ⟨dx, a, ws, h1, h2, h3⟩ := h
  exact ⟨dx, a, ws, s _ _ (hd.ne_of h1 fun _ _ _ _ z => nomatch z) h1, s _ _ (hd.ne_of h2 (moves_no_dl h3)) h2, h3.same (s.tups hd)⟩
/-- all that is tracked, but at x and t, is as it was -/
def Gr2 (x t : Addr) (H H' : Hp) : Prop := ∀ b o, b ≠ x → b ≠ t → H b = some o → H' b = some o
/-- a chain that has just been made: its list of moves is its own -/
def ChainNew (C : Addr) (H H' : Hp) (x : Addr) (many : Nat) (ms : List Mv) : Prop := ∃ dx a ws, H' x = some (.ins C dx (chF (many : Int) a)) ∧ H' a = some (.lst ws) ∧ MovesAt H' ws ms ∧ H a = none
theorem ChainNew.at {C : Addr} {H H' : Hp} {x : Addr} {many : Nat} {ms : List Mv} (h : ChainNew C H H' x many ms) : ChainAt C H' x many ms := by
  obtain ⟨dx, a, ws, h1, h2, h3, _⟩ := h
  exact ⟨dx, a, ws, h1, h2, h3⟩
def spInitG (C T : Addr) : Sp := fun vs H Q _ => ∃ (x dx l : Addr) (many : Nat) (ws : List V) (ms : List Mv), vs = [.ref x, .int (many : Int), .ref l] ∧ H x = some (.ins C dx []) ∧ H l = some (.lst ws) ∧ MovesAt H ws ms ∧ Good many ms ∧ GxR.TabG H T ∧
  ∀ H', ChainNew C H H' x many ms → Gr2 x T H H' → GxR.TabG H' T → Q .non H'
theorem isMv_good {many : Nat} {m : Mv} (h : GoodMv many m) : isMv (many : Int) m = true := by
  obtain ⟨h1, h2, h3, h4⟩ := h
  unfold isMv
  rw [decide_eq_true (show 1 ≤ m.1 ∧ m.1 < 100 from ⟨h1, by omega⟩), decide_eq_true (show (m.2.length : Int) = (many : Int) by rw [h3]), Bool.true_and, Bool.true_and, List.all_eq_true]
  intro x hx
  unfold inR
  exact decide_eq_true (h4 x hx)
theorem ok_initG (T : ChTxt K mg fM cM tM fdM C fI fdI) (TB : GxR.TabB base mg cM tM) : FnOk P w K mg base CX0 2 fI fdI ["self", "many", "moves"] (spInitG C tM) := by
  have GM : FnOk P w K mg base CX0 1 fM fdM ["many", "move"] (spIsMove tM) := ok_ismove T TB
  obtain ⟨tp, gP⟩ := T.gP
  obtain ⟨tv, gV⟩ := T.gV
  refine T.FI.ok scInit (fun vs H Q E h => ?_) (fun cdv A outer s H vs Q E hr h => ?_)
  · obtain ⟨x, dx, l, many, ws, ms, rfl, _⟩ := h
    rfl
  · obtain ⟨x, dx, l, many, ws, ms, rfl, hx, hl, hM, G, hTab, q⟩ := h
    have lenW := hM.length
    refine ⟨_, pss_cons (ps_if (pt_not (pt_chain op_le op_le pe_int (pv 1) (pe_glob (v := .int 6) (by rfl) gP ⟨_, rfl⟩))) pss_never pss_nil)
      (pss_cons (ps_if (pt_not (pt_chain op_le op_le pe_int (pe_callB call_len_seq (by rfl) T.ml PySem.boot_len (pa_cons (pv 2) pa_nil)) (pe_glob (v := .int 8) (by rfl) gV ⟨_, rfl⟩))) pss_never pss_nil)
      (pss_cons (ps_for PassesOwn.never rfl (pi_enum (by rfl) T.me (pa_cons (pv 2) pa_nil)) (pg_tup rfl (pgs_cons (pg_name (i := 3) scInit.nd rfl (.inl rfl)) (pgs_cons (pg_name (i := 4) scInit.nd rfl (.inl rfl)) pgs_nil)))
          (pss_one (ps_if (pt_not (pt_val (pe_call GM hr (by rfl) T.gM T.FM.kp T.bM .nil pass0 (pa_cons (pv 1) (pa_cons (pv 4) pa_nil))))) pss_never pss_nil)))
      (pss_cons (ps_fld (pv 0) (pv 1) rfl)
      (pss_one (ps_fld (pv 0) (pe_callTy call_list_of (by rfl) T.mL (by decide +kernel) (pa_cons (pv 2) pa_nil)) rfl))))), ?_⟩
    have G1 := G.m1
    have G2 := G.m6
    have G3 := G.l1
    have G4 := G.l8
    refine ⟨.int (many : Int), rfl, 1, (many : Int), rfl, rfl, _, rfl, ifD (by omega) ⟨_, _, rfl, rfl, _, rfl, iteNS (by omega) ?_⟩⟩
    have hS : SqL K H l ws := SqL.of hl
    refine ⟨.ref l, rfl, l, ws, rfl, .inl hS, 1, _, rfl, rfl, _, rfl, ifD (by omega) ⟨_, _, rfl, rfl, _, rfl, iteNS (by omega) ?_⟩⟩
    -- for number, move in enumerate(moves)
    have nxT : x ≠ tM := fun z => by
      obtain ⟨ps, e, _⟩ := hTab
      rw [z, e] at hx
      cases hx
    have nlT : l ≠ tM := fun z => by
      obtain ⟨ps, e, _⟩ := hTab
      rw [z, e] at hl
      cases hl
    have nxl : x ≠ l := ne_of hx hl (fun z => nomatch z)
    have tupK : ∀ {H'}, Gr tM H H' → ∀ b xs, H b = some (.tup xs) → H' b = some (.tup xs) := fun {H'} g b xs e => g b _ (fun z => by
      obtain ⟨ps, e2, _⟩ := hTab
      rw [z, e2] at e
      cases e) e
    refine ⟨.ref l, rfl, l, ws, rfl, hS, for_it (walk_enum (K := K) (a := l) (xs := ws)) (fun i σ H' => ∃ y3 y4, σ = [some (.ref x), some (.int (many : Int)), some (.ref l), y3, y4] ∧ Gr tM H H' ∧ GxR.TabG H' tM)
      ⟨none, none, rfl, Gr.refl _ _, hTab⟩ (fun i σ H' hi ⟨y3, y4, e, g, t⟩ => SqL.of (g l _ nlT hl)) ?_ ?_⟩
    · rintro i z σ H1 H2 hi ⟨y3, y4, rfl, g1, t1⟩ ⟨Tp, u, v, rfl, nT, rfl, eu, ev⟩
      have g2 : Gr tM H (upd H1 Tp (.tup [u, v])) := g1.new nT
      have t2 : GxR.TabG (upd H1 Tp (.tup [u, v])) tM := by
        obtain ⟨ps, e, t⟩ := t1
        exact ⟨ps, (same_new nT) _ _ e, t⟩
      refine ⟨Tp, [u, v], rfl, SqT.of upd_same, rfl, u, [v], rfl, v, [], rfl, rfl, ?_⟩
      obtain ⟨m, em, hm⟩ := hM.get' ev
      have hgood := G.mv m (List.mem_of_getElem? em)
      have hm2 : MoveAt (upd H1 Tp (.tup [u, v])) v m := hm.same (tupK g2)
      refine ⟨.int (many : Int), rfl, v, rfl, (many : Int), v, m, rfl, hm2, t2, fun H3 g3 t3 => ?_⟩
      rw [isMv_good hgood]
      refine ⟨true, rfl, ?_⟩
      exact ⟨some u, some v, rfl, g2.trans g3, t3⟩
    · rintro σ H1 ⟨y3, y4, rfl, g1, t1⟩
      have hx1 := g1 x _ nxT hx
      have hl1 := g1 l _ nlT hl
      refine ⟨.int (many : Int), rfl, .ref x, rfl, x, C, dx, [], rfl, hx1, T.cl, T.nM, (by show 0 < 1000; decide), ?_⟩
      have hx2 : (upd H1 x (.ins C dx (putF "_many" (.int (many : Int)) []))) x = some (.ins C dx (putF "_many" (.int (many : Int)) [])) := upd_same
      have hl2 : (upd H1 x (.ins C dx (putF "_many" (.int (many : Int)) []))) l = some (.lst ws) := by
        rw [upd_ne (Ne.symm nxl)]
        exact hl1
      refine ⟨.ref l, rfl, l, ws, rfl, .inl (SqL.of hl2), fun a na => ?_⟩
      have nxa : x ≠ a := ne_of_none hx2 na
      refine ⟨.ref x, rfl, x, C, dx, _, rfl, (by rw [upd_ne nxa]; exact hx2), T.cl, T.nV, (by show 1 < 1000; decide), ?_⟩
      have naH1 : H1 a = none := by
        rw [upd_ne (Ne.symm nxa)] at na
        exact na
      have keepT : ∀ b o, b ≠ x → H1 b = some o → (upd (upd (upd H1 x (.ins C dx (putF "_many" (.int (many : Int)) []))) a (.lst ws)) x (.ins C dx (chF (many : Int) a))) b = some o := fun b o nb e => by
        rw [upd_ne nb, upd_ne (ne_of_none e naH1), upd_ne nb]
        exact e
      have ntx : ∀ xs, H1 x ≠ some (.tup xs) := fun xs z => by
        rw [hx1] at z
        cases z
      have naH : H a = none := by
        cases h : H a with
        | none => rfl
        | some o =>
          have nat : a ≠ tM := fun z => by
            obtain ⟨ps, e, _⟩ := t1
            rw [z, e] at naH1
            cases naH1
          rw [g1 a o nat h] at naH1
          cases naH1
      refine q _ ⟨dx, a, ws, upd_same, ?_, hM.same (fun b xs e => ?_), naH⟩ (fun b o nb nt e => keepT b o nb (g1 b o nt e)) ?_
      · rw [upd_ne (Ne.symm nxa)]
        exact upd_same
      · have e1 := tupK g1 b xs e
        refine keepT b _ (fun z => ?_) e1
        rw [z] at e1
        exact ntx xs e1
      · obtain ⟨ps, e, t⟩ := t1
        exact ⟨ps, keepT _ _ (Ne.symm nxT) e, t⟩
/-! ### places, told -/
theorem scPlaces : FnScope ["self"] ["self"] (defScope (inClass cChain 1)) := ⟨rfl, rfl, rfl, by decide +kernel, rfl, by decide +kernel, by decide +kernel⟩
theorem scTold : FnScope ["self"] ["self"] (defScope (inClass cChain 2)) := ⟨rfl, rfl, rfl, by decide +kernel, rfl, by decide +kernel, by decide +kernel⟩
def spPlaces (C : Addr) : Sp := fun vs H Q _ => ∃ (x : Addr) (many : Nat) (ms : List Mv), vs = [.ref x] ∧ ChainAt C H x many ms ∧ Q (.int (many : Int)) H
def spTold (C : Addr) : Sp := fun vs H Q _ => ∃ (x : Addr) (many : Nat) (ms : List Mv), vs = [.ref x] ∧ ChainAt C H x many ms ∧ ∀ (l : Addr) (ws : List V), H l = none → MovesAt (upd H l (.lst ws)) ws ms → Q (.ref l) (upd H l (.lst ws))
theorem ok_places {f : Addr} {fd : FuncData} {k : Nat} (F : Fun K "places" "Chain.places" (inClass cChain 1) f fd) (cl : Cls K C) (nM : NoAttr K C "_many") : FnOk P w K mg base CX0 (k + 1) f fd ["self"] (spPlaces C) := by
  refine F.ok scPlaces (fun vs H Q E h => ?_) (fun cdv A outer s H vs Q E hr h => ?_)
  · obtain ⟨x, many, ms, rfl, _⟩ := h
    rfl
  · obtain ⟨x, many, ms, rfl, ⟨dx, a, ws, h1, h2, h3⟩, q⟩ := h
    exact ⟨_, pss_one (ps_ret (pe_fld (pv 0) rfl)), .ref x, rfl, x, C, dx, _, _, rfl, h1, cl, nM, chF_many _ _, q⟩
theorem ok_told {f : Addr} {fd : FuncData} {k : Nat} (F : Fun K "told" "Chain.told" (inClass cChain 2) f fd) (cl : Cls K C) (nV : NoAttr K C "_moves") (mL : mg "list" = none) : FnOk P w K mg base CX0 (k + 1) f fd ["self"] (spTold C) := by
  refine F.ok scTold (fun vs H Q E h => ?_) (fun cdv A outer s H vs Q E hr h => ?_)
  · obtain ⟨x, many, ms, rfl, _⟩ := h
    rfl
  · obtain ⟨x, many, ms, rfl, ⟨dx, a, ws, h1, h2, h3⟩, q⟩ := h
    exact ⟨_, pss_one (ps_ret (pe_callTy call_list_of (by rfl) mL (by decide +kernel) (pa_cons (pe_fld (pv 0) rfl) pa_nil))), .ref x, rfl, x, C, dx, _, _, rfl, h1, cl, nV, chF_moves _ _, a, ws, rfl, .inl (SqL.of h2), fun l nl => q l ws nl (h3.same (Same.tups (same_new nl)))⟩
/-! ### _law_made -/
theorem scMade : FnScope ["_law_told"] ["_law_told"] (defScope sMade) := ⟨rfl, rfl, rfl, by decide +kernel, rfl, by decide +kernel, by decide +kernel⟩
def spMade (C T : Addr) : Sp := fun vs H Q _ => ∃ (t m : Addr) (many : Nat) (ws : List V) (ms : List Mv), vs = [.ref t] ∧ ToldAt H t m many ws ms ∧ Good many ms ∧ GxR.TabG H T ∧ ∀ H' x, ChainAt C H' x many ms → H x = none → Gr T H H' → GxR.TabG H' T → Q (.ref x) H'
theorem ok_made {f : Addr} {fd : FuncData} (F : Fun K "_law_made" "_law_made" sMade f fd) (T : ChTxt K mg fM cM tM fdM C fI fdI) (TB : GxR.TabB base mg cM tM) : FnOk P w K mg base CX0 4 f fd ["_law_told"] (spMade C tM) := by
  have GI : FnOk P w K mg base CX0 2 fI fdI ["self", "many", "moves"] (spInitG C tM) := ok_initG T TB
  refine F.ok scMade (fun vs H Q E h => ?_) (fun cdv A outer s H vs Q E hr h => ?_)
  · obtain ⟨t, m, many, ws, ms, rfl, _⟩ := h
    rfl
  · obtain ⟨t, m, many, ws, ms, rfl, ⟨h1, h2, h3⟩, G, ⟨ps, hT, htr⟩, q⟩ := h
    refine ⟨_, pss_one (ps_ret (pe_make T.mC GI hr (by rfl) T.gC T.bI .nil pass0 (pa_cons (pe_ix ix_tup (pv 0) pe_int (fun _ _ => rfl)) (pa_cons (pe_callTy call_list_of (by rfl) T.mL (by decide +kernel) (pa_cons (pe_ix ix_tup (pv 0) pe_int (fun _ _ => rfl)) pa_nil)) pa_nil)))), ?_⟩
    refine ⟨.ref t, rfl, t, _, 0, _, rfl, rfl, SqT.of h1, atI_nat (j := 0) rfl, .ref t, rfl, t, _, 1, _, rfl, rfl, SqT.of h1, atI_nat (j := 1) rfl, m, ws, rfl, .inl (SqL.of h2), fun l nl x dx nx ndx nxd => ?_⟩
    have s1 : Same H (upd H l (.lst ws)) := same_new nl
    have s2 : Same (upd H l (.lst ws)) (upd (upd H l (.lst ws)) dx (.own x)) := same_new ndx
    have nx' : (upd (upd H l (.lst ws)) dx (.own x)) x = none := by
      rw [upd_ne (Ne.symm nxd)]
      exact nx
    have s3 := same_new (o := .ins C dx []) nx'
    have s := (s1.trans s2).trans s3
    refine ⟨x, dx, l, many, ws, ms, rfl, upd_same, (s2.trans s3) _ _ upd_same, h3.same (Same.tups s), G, ⟨ps, s _ _ hT, htr⟩, fun H' hc g t' => ⟨rfl, ?_⟩⟩
    exact q H' x hc.at (s1.free nx) (fun b o nb e => g b o (ne_of_none (s1 _ _ e) nx) nb (s _ _ e)) t'
end
theorem paired_get {α β : Type} {F : α → β → Prop} : ∀ {l₁ : List α} {l₂ : List β} {i : Nat} {b : β}, Paired F l₁ l₂ → l₂[i]? = some b → ∃ a, l₁[i]? = some a ∧ F a b
  | _, _, _, _, .nil, e => by simp at e
  | _, _, 0, _, .cons h _, e => by
    simp at e
    subst e
    exact ⟨_, rfl, h⟩
  | _, _, i + 1, b, .cons _ t, e => by
    obtain ⟨a, h1, h2⟩ := paired_get (i := i) (b := b) t (by simpa using e)
    exact ⟨a, by simpa using h1, h2⟩
theorem paired_end {α β : Type} {F : α → β → Prop} {a : α} {b : β} (h : F a b) : ∀ {l₁ : List α} {l₂ : List β}, Paired F l₁ l₂ → Paired F (l₁ ++ [a]) (l₂ ++ [b])
  | _, _, .nil => .cons h .nil
  | _, _, .cons q t => .cons q (paired_end h t)
theorem take_snoc {α : Type} {l : List α} {i : Nat} {x : α} (h : l[i]? = some x) : l.take (i + 1) = l.take i ++ [x] := by
  rw [List.take_add_one, h]
  rfl
theorem small1k {n : Nat} (h : n ≤ 1001) : n < sizeLine := Nat.lt_of_le_of_lt h (by decide)
section
variable {P : Program} {w : World} {K : PySem.W.Frag} {mg : Str → Option Value} {base : Heap} {C : Addr}
/-- range(n) as a value -/
theorem cr_range1 {X : Cx} : CallR X (.type "range") (fun vs H Q => ∃ n, vs = [V.int n] ∧ ∀ p, H p = none → Q (.ref p) (upd H p (.rng 0 n))) := by
  intro pins s σ H vs us Q I r ⟨n, ev, q⟩
  subst ev
  cases r with
  | cons rn rr =>
    cases rr
    obtain ⟨t, rfl⟩ := rn
    refine call_range_1 ⟨.ref s.heap.objs.size, upd H s.heap.objs.size (.rng 0 n), I.laid (t' := s.toks + 1 + 1) (fun b o e => Heap.get?_push_of_some _ e) (Nat.le_refl _) ?_, rfl, q _ (I.hok.fresh (Nat.le_refl _))⟩
    exact ⟨s.toks, t, s.toks + 1, Heap.get?_push_size _ rfl⟩
/-! ### steps_of -/
structure ChM (K : PySem.W.Frag) (C fP fT : Addr) (fdP fdT : FuncData) : Prop where
  FP : Fun K "places" "Chain.places" (inClass cChain 1) fP fdP
  bP : Binds K fdP ["self"] []
  hP : Meth K C "places" fP
  FT : Fun K "told" "Chain.told" (inClass cChain 2) fT fdT
  bT : Binds K fdT ["self"] []
  hT : Meth K C "told" fT
  cl : Cls K C
  nM : NoAttr K C "_many"
  nV : NoAttr K C "_moves"
theorem ch_no {many : Int} {a : Addr} : (chF many a).lookup ("places" : Str) = none := chF_no _ _ (by decide +kernel) (by decide +kernel)
theorem ch_noT {many : Int} {a : Addr} : (chF many a).lookup ("told" : Str) = none := chF_no _ _ (by decide +kernel) (by decide +kernel)
theorem rg_ends (n : Nat) : rgV 0 (n : Int) = ((List.range n).map fun (i : Nat) => (i : Int)).map V.int := by
  unfold rgV
  rw [List.map_map]
  have e : ((n : Int) - 0).toNat = n := by omega
  rw [e]
  refine List.map_congr_left fun i _ => ?_
  show V.int (0 + (i : Int)) = V.int (i : Int)
  rw [Int.zero_add]
end
/-- an own error without an __init__ of its own, at C -/
structure OwnE (K : PySem.W.Frag) (mg : Str → Option Value) (x : Str) (C : Addr) : Prop where
  g : mg x = some (.ref C)
  k : PySem.W.keepIn K (.ref C) = true
  x : PySem.W.excIn K C [.type "ValueError", .type "Exception", .type "BaseException", .type "object"] "ValueError.__new__" = true
  b : PySem.W.subIn K (.ref C) (.type "BaseException") = some true
  t : PySem.W.typeIn K (.ref C) = some (.type "type")
theorem app_fits {a b : Str} (h1 : a.length ≤ 1000) (h2 : b.length ≤ 1921) : (a ++ b).length ≤ sizeLine := by
  have e : (a ++ b).length = a.length + b.length := by
    show (a.cps ++ b.cps).size = a.cps.size + b.cps.size
    rw [Array.size_append]
  rw [e]
  exact Nat.le_trans (show a.length + b.length ≤ 2921 by omega) (by decide)
theorem app_le {a b : Str} {m n : Nat} (h1 : a.length ≤ m) (h2 : b.length ≤ n) : (a ++ b).length ≤ m + n := by
  have e : (a ++ b).length = a.length + b.length := by
    show (a.cps ++ b.cps).size = a.cps.size + b.cps.size
    rw [Array.size_append]
  omega
theorem line4k {n : Nat} (h : n ≤ 9000) : n ≤ sizeLine := Nat.le_trans h (by decide)
theorem log_small {n : Int} (h : n.natAbs ≤ 2000000) : n.natAbs.log2 < 1920 := by
  by_cases c : n.natAbs = 0
  · rw [c]
    decide
  · exact (Nat.log2_lt c).mpr (Nat.lt_of_le_of_lt h (by decide))
theorem int_len {n : Int} (h : n.natAbs.log2 < 1920) : (Str.ofString (toString n)).length ≤ 1921 := by
  have e := int_text_length_le (k := 1920) (by decide) h
  rw [PySem.ofString_length]
  omega
def BadTold (many : Int) (ms : List Mv) : Prop := ¬ (1 ≤ many ∧ many ≤ 6) ∨ ¬ (1 ≤ ms.length ∧ ms.length ≤ 8) ∨ ∃ m ∈ ms, isMv many m = false
theorem fitA {a b : Str} {m n : Nat} (h1 : a.length ≤ m) (h2 : b.length ≤ n) (h : m + n ≤ 9000) : (a ++ b).length ≤ sizeLine := Nat.le_trans (app_le h1 h2) (line4k h)
theorem take_snoc' {α : Type} {l : List α} {i : Nat} {x : α} (h : l[i]? = some x) : l.take (i + 1) = l.take i ++ [x] := by
  rw [List.take_add_one, h]
  rfl
section
variable {P : Program} {w : World} {K : PySem.W.Frag} {mg : Str → Option Value} {base : Heap}
variable {fM cM tM : Addr} {fdM : FuncData} {C fI CB : Addr} {fdI : FuncData}
def spInitX (C CB T : Addr) : Sp := fun vs H _ E => ∃ (x dx l : Addr) (many : Int) (ws : List V) (ms : List Mv), vs = [.ref x, .int many, .ref l] ∧ H x = some (.ins C dx []) ∧ H l = some (.lst ws) ∧ MovesAt H ws ms ∧ BadTold many ms ∧ many.natAbs ≤ 1000 ∧ ms.length ≤ 1000 ∧ GxR.TabG H T ∧
  ∀ H', Gr T H H' → GxR.TabG H' T → E (.ref CB) none H'
theorem ok_initX (T : ChTxt K mg fM cM tM fdM C fI fdI) (N : OwnE K mg "BadChain" CB) (TB : GxR.TabB base mg cM tM) : FnOk P w K mg base (L2.CX P w) 2 fI fdI ["self", "many", "moves"] (spInitX C CB tM) := by
  have GM : FnOk P w K mg base CX0 1 fM fdM ["many", "move"] (spIsMove tM) := ok_ismove T TB
  obtain ⟨tp, gP⟩ := T.gP
  obtain ⟨tv, gV⟩ := T.gV
  refine T.FI.okX scInit (fun vs H Q E h => ?_) (fun cdv A outer s H vs Q E hr h => ?_)
  · obtain ⟨x, dx, l, many, ws, ms, rfl, _⟩ := h
    rfl
  · obtain ⟨x, dx, l, many, ws, ms, rfl, hx, hl, hM, hbad, hs1, hs2, hTab, q⟩ := h
    have lenW := hM.length
    refine ⟨_, pss_cons (ps_if (pt_not (pt_chain op_le op_le pe_int (pv 1) (pe_glob (v := .int 6) (by rfl) gP ⟨_, rfl⟩)))
          (pss_one (ps_raise rfl (takes_of rfl rfl rfl rfl) (SkE.pmk_own1 PySem.F.excBase_ValueError N.x N.g N.k (raises_own N.b N.t) (by exact rfl) (pe_joined (.cons pe_str (.cons (pe_fmt (pe_glob (v := .int 6) (by rfl) gP ⟨_, rfl⟩)) (.cons pe_str (.cons (pe_fmt (pv 1)) .nil)))))))) pss_nil)
      (pss_cons (ps_if (pt_not (pt_chain op_le op_le pe_int (pe_callB call_len_seq (by rfl) T.ml PySem.boot_len (pa_cons (pv 2) pa_nil)) (pe_glob (v := .int 8) (by rfl) gV ⟨_, rfl⟩)))
          (pss_one (ps_raise rfl (takes_of rfl rfl rfl rfl) (SkE.pmk_own1 PySem.F.excBase_ValueError N.x N.g N.k (raises_own N.b N.t) (by exact rfl) (pe_joined (.cons pe_str (.cons (pe_fmt (pe_glob (v := .int 8) (by rfl) gV ⟨_, rfl⟩)) (.cons pe_str (.cons (pe_fmt (pe_callB call_len_seq (by rfl) T.ml PySem.boot_len (pa_cons (pv 2) pa_nil))) .nil)))))))) pss_nil)
      (pss_cons (ps_for (passes_of rfl) rfl (pi_enum (by rfl) T.me (pa_cons (pv 2) pa_nil)) (pg_tup rfl (pgs_cons (pg_name (i := 3) scInit.nd rfl (.inl rfl)) (pgs_cons (pg_name (i := 4) scInit.nd rfl (.inl rfl)) pgs_nil)))
          (pss_one (ps_if (pt_not (pt_val (pe_call GM hr (by rfl) T.gM T.FM.kp T.bM .nil pass0 (pa_cons (pv 1) (pa_cons (pv 4) pa_nil)))))
            (pss_one (ps_raise rfl (takes_of rfl rfl rfl rfl) (SkE.pmk_own1 PySem.F.excBase_ValueError N.x N.g N.k (raises_own N.b N.t) (by exact rfl) (pe_joined (.cons pe_str (.cons (pe_fmt (pv 3)) (.cons pe_str (.cons (pe_fmt (pv 1)) (.cons pe_str .nil))))))))) pss_nil)))
      pss_never)), ?_⟩
    have hg : many.natAbs.log2 < 1920 := log_small (by omega)
    have l6 : ((6 : Int).natAbs).log2 < 1920 := log_small (by decide)
    have l8 : ((8 : Int).natAbs).log2 < 1920 := log_small (by decide)
    refine ⟨.int many, rfl, 1, many, rfl, rfl, _, rfl, ite2 (fun c1 => ?_) (fun c1 => ?_)⟩
    case refine_2 =>
      refine ⟨false, rfl, iteT ?_⟩
      exact ⟨_, rfl, by decide, .inr ⟨6, rfl, l6, _, rfl, fitA (m := 100) (by decide) (int_len l6) (by decide), _, rfl, fitA (app_le (m := 100) (by decide) (int_len l6)) (n := 100) (by decide) (by decide), .int many, rfl, .inr ⟨many, rfl, hg, _, rfl, fitA (app_le (app_le (m := 100) (by decide) (int_len l6)) (n := 100) (by decide)) (int_len hg) (by decide), q H (Gr.refl _ _) hTab⟩⟩⟩
    refine ⟨_, _, rfl, rfl, _, rfl, ite2 (fun c2 => ?_) (fun c2 => ?_)⟩
    · exact ⟨_, rfl, by decide, .inr ⟨6, rfl, l6, _, rfl, fitA (m := 100) (by decide) (int_len l6) (by decide), _, rfl, fitA (app_le (m := 100) (by decide) (int_len l6)) (n := 100) (by decide) (by decide), .int many, rfl, .inr ⟨many, rfl, hg, _, rfl, fitA (app_le (app_le (m := 100) (by decide) (int_len l6)) (n := 100) (by decide)) (int_len hg) (by decide), q H (Gr.refl _ _) hTab⟩⟩⟩
    have many1 : 1 ≤ many := of_decide_eq_true c1
    have many6 : many ≤ 6 := by
      rcases Int.lt_or_le 6 many with h | h
      · exact absurd (by rw [decide_eq_false (show ¬ many ≤ 6 by omega)]; rfl) c2
      · exact h
    have hS : SqL K H l ws := SqL.of hl
    have msg2 : ∀ H1, SqL K H1 l ws → Gr tM H H1 → GxR.TabG H1 tM → tJs [tC (V.str (Str.ofString "a chain has 1 to ")), tFmt (tC (.int 8)), tC (V.str (Str.ofString " moves, not ")), tFmt (tCB (rLenSq K) (tCons (tVar 2) tNil))] Str.empty [some (.ref x), some (.int many), some (.ref l), none, none] H1 (fun out H2 => E (.ref CB) none H2) := by
      intro H1 hS1 g t
      have hgl : (((ws.length : Nat) : Int)).natAbs.log2 < 1920 := log_small (by omega)
      exact ⟨_, rfl, by decide, .inr ⟨8, rfl, l8, _, rfl, fitA (m := 100) (by decide) (int_len l8) (by decide), _, rfl, fitA (app_le (m := 100) (by decide) (int_len l8)) (n := 100) (by decide) (by decide), .ref l, rfl, l, ws, rfl, .inl hS1, .inr ⟨_, rfl, hgl, _, rfl, fitA (app_le (app_le (m := 100) (by decide) (int_len l8)) (n := 100) (by decide)) (int_len hgl) (by decide), q H1 g t⟩⟩⟩
    refine ⟨.ref l, rfl, l, ws, rfl, .inl hS, 1, _, rfl, rfl, _, rfl, ite2 (fun c3 => ?_) (fun c3 => ?_)⟩
    case refine_2 => exact ⟨false, rfl, iteT (msg2 H hS (Gr.refl _ _) hTab)⟩
    refine ⟨_, _, rfl, rfl, _, rfl, ite2 (fun c4 => ?_) (fun c4 => ?_)⟩
    · exact msg2 H hS (Gr.refl _ _) hTab
    have len1 : 1 ≤ ms.length := by
      have : (1 : Int) ≤ ((ws.length : Nat) : Int) := of_decide_eq_true c3
      omega
    have len8 : ms.length ≤ 8 := by
      rcases Int.lt_or_le 8 ((ws.length : Nat) : Int) with h | h
      · exact absurd (by rw [decide_eq_false (show ¬ ((ws.length : Nat) : Int) ≤ 8 by omega)]; rfl) c4
      · omega
    obtain ⟨mb, hmb, hmf⟩ : ∃ m ∈ ms, isMv many m = false := by
      rcases hbad with h | h | h
      · exact absurd ⟨many1, many6⟩ h
      · exact absurd ⟨len1, len8⟩ h
      · exact h
    -- for number, move in enumerate(moves)
    have nlT : l ≠ tM := fun z => by
      obtain ⟨ps, e, _⟩ := hTab
      rw [z, e] at hl
      cases hl
    have tupK : ∀ {H'}, Gr tM H H' → ∀ b xs, H b = some (.tup xs) → H' b = some (.tup xs) := fun {H'} g b xs e => g b _ (fun z => by
      obtain ⟨ps, e2, _⟩ := hTab
      rw [z, e2] at e
      cases e) e
    refine ⟨.ref l, rfl, l, ws, rfl, hS, for_it (walk_enum (K := K) (a := l) (xs := ws)) (fun i σ H' => ∃ y3 y4, σ = [some (.ref x), some (.int many), some (.ref l), y3, y4] ∧ Gr tM H H' ∧ GxR.TabG H' tM ∧ ∀ m ∈ ms.take i, isMv many m = true)
      ⟨none, none, rfl, Gr.refl _ _, hTab, fun m hm => by simp at hm⟩ (fun i σ H' hi ⟨y3, y4, e, g, t, _⟩ => SqL.of (g l _ nlT hl)) ?_ ?_⟩
    · rintro i z σ H1 H2 hi ⟨y3, y4, rfl, g1, t1, hbef⟩ ⟨Tp, u, v, rfl, nT, rfl, eu, ev⟩
      have g2 : Gr tM H (upd H1 Tp (.tup [u, v])) := g1.new nT
      have t2 : GxR.TabG (upd H1 Tp (.tup [u, v])) tM := by
        obtain ⟨ps, e, t⟩ := t1
        exact ⟨ps, (same_new nT) _ _ e, t⟩
      refine ⟨Tp, [u, v], rfl, SqT.of upd_same, rfl, u, [v], rfl, v, [], rfl, rfl, ?_⟩
      obtain ⟨m, em, hm⟩ := hM.get' ev
      have hm2 : MoveAt (upd H1 Tp (.tup [u, v])) v m := hm.same (tupK g2)
      refine ⟨.int many, rfl, v, rfl, many, v, m, rfl, hm2, t2, fun H3 g3 t3 => ?_⟩
      cases hb : isMv many m with
      | true =>
        refine ⟨true, rfl, ?_⟩
        refine ⟨some u, some v, rfl, g2.trans g3, t3, fun m' hm' => ?_⟩
        rw [take_snoc' em] at hm'
        rcases List.mem_append.mp hm' with hm' | hm'
        · exact hbef m' hm'
        · rw [List.mem_singleton.mp hm']
          exact hb
      | false =>
        refine ⟨false, rfl, iteT ?_⟩
        have hi2 : i < ws.length := by
          obtain ⟨h1, _⟩ := List.getElem?_eq_some_iff.mp ev
          exact h1
        have hgi : ((((0 : Nat) : Int) + (i : Int))).natAbs.log2 < 1920 := log_small (by omega)
        have eu' : u = .int (i : Int) := (Option.some.inj eu).symm
        subst eu'
        have hgi' : ((i : Int)).natAbs.log2 < 1920 := log_small (by omega)
        have k1 := fun (s : Str) (h : s.length ≤ 100) => app_le h (int_len hgi')
        exact ⟨_, rfl, by decide, .int (i : Int), rfl, .inr ⟨_, rfl, hgi', _, rfl, fitA (m := 100) (by decide) (int_len hgi') (by decide), _, rfl, fitA (app_le (m := 100) (by decide) (int_len hgi')) (n := 100) (by decide) (by decide), .int many, rfl,
          .inr ⟨_, rfl, hg, _, rfl, fitA (app_le (app_le (m := 100) (by decide) (int_len hgi')) (n := 100) (by decide)) (int_len hg) (by decide), _, rfl, fitA (app_le (app_le (app_le (m := 100) (by decide) (int_len hgi')) (n := 100) (by decide)) (int_len hg)) (n := 100) (by decide) (by decide), q _ (g2.trans g3) t3⟩⟩⟩
    · rintro σ H1 ⟨y3, y4, rfl, g1, t1, hbef⟩
      have hlw : ws.length = ms.length := lenW
      rw [hlw, List.take_length] at hbef
      rw [hbef mb hmb] at hmf
      cases hmf
/-! ### _law_made, where it is no chain -/
def ToldZ (H : Hp) (t m : Addr) (many : Int) (vs : List V) (ms : List Mv) : Prop := H t = some (.tup [.int many, .ref m]) ∧ H m = some (.lst vs) ∧ MovesAt H vs ms
def spMadeX (C CB T : Addr) : Sp := fun vs H _ E => ∃ (t m : Addr) (many : Int) (ws : List V) (ms : List Mv), vs = [.ref t] ∧ ToldZ H t m many ws ms ∧ BadTold many ms ∧ many.natAbs ≤ 1000 ∧ ms.length ≤ 1000 ∧ GxR.TabG H T ∧ ∀ H', Gr T H H' → GxR.TabG H' T → E (.ref CB) none H'
theorem ok_madeX {f : Addr} {fd : FuncData} (F : Fun K "_law_made" "_law_made" sMade f fd) (T : ChTxt K mg fM cM tM fdM C fI fdI) (N : OwnE K mg "BadChain" CB) (TB : GxR.TabB base mg cM tM) : FnOk P w K mg base (L2.CX P w) 4 f fd ["_law_told"] (spMadeX C CB tM) := by
  have GI : FnOk P w K mg base (L2.CX P w) 2 fI fdI ["self", "many", "moves"] (spInitX C CB tM) := ok_initX T N TB
  refine F.okX scMade (fun vs H Q E h => ?_) (fun cdv A outer s H vs Q E hr h => ?_)
  · obtain ⟨t, m, many, ws, ms, rfl, _⟩ := h
    rfl
  · obtain ⟨t, m, many, ws, ms, rfl, ⟨h1, h2, h3⟩, hb, hb1, hb2, ⟨ps, hT, htr⟩, q⟩ := h
    refine ⟨_, pss_one (ps_ret (pe_make T.mC GI hr (by rfl) T.gC T.bI .nil (passes_call (takes_of rfl rfl rfl rfl) (fun _ _ _ _ h => h)) (pa_cons (pe_ix ix_tup (pv 0) pe_int (fun _ _ => rfl)) (pa_cons (pe_callTy call_list_of (by rfl) T.mL (by decide +kernel) (pa_cons (pe_ix ix_tup (pv 0) pe_int (fun _ _ => rfl)) pa_nil)) pa_nil)))), ?_⟩
    refine ⟨.ref t, rfl, t, _, 0, _, rfl, rfl, SqT.of h1, atI_nat (j := 0) rfl, .ref t, rfl, t, _, 1, _, rfl, rfl, SqT.of h1, atI_nat (j := 1) rfl, m, ws, rfl, .inl (SqL.of h2), fun l nl x dx nx ndx nxd => ?_⟩
    have s1 : Same H (upd H l (.lst ws)) := same_new nl
    have s2 : Same (upd H l (.lst ws)) (upd (upd H l (.lst ws)) dx (.own x)) := same_new ndx
    have nx' : (upd (upd H l (.lst ws)) dx (.own x)) x = none := by
      rw [upd_ne (Ne.symm nxd)]
      exact nx
    have s3 := same_new (o := .ins C dx []) nx'
    have s := (s1.trans s2).trans s3
    exact ⟨x, dx, l, many, ws, ms, rfl, upd_same, (s2.trans s3) _ _ upd_same, h3.same (Same.tups s), hb, hb1, hb2, ⟨ps, s _ _ hT, htr⟩, fun H' g t' => q H' (fun b o nb e => g b o nb (s _ _ e)) t'⟩
end
/-! ### t + u, t[i:j] of tracked tuples, whatever they are -/
theorem catA_of {K : PySem.W.Frag} {H : Hp} {a b : Addr} {xs ys : List V} {Q : VK} (ha : H a = some (.tup xs)) (hb : H b = some (.tup ys)) (hz : xs.length + ys.length ≤ sizeLine) (h : ∀ p H', Same H H' → H' p = some (.tup (xs ++ ys)) → Q (.ref p) H') : rCatA K (.ref a) (.ref b) H Q := by
  refine ⟨a, b, xs, ys, rfl, rfl, SqT.of ha, SqT.of hb, hz, fun e => ?_, fun _ e => ?_, fun _ _ p np => h p _ (same_new np) upd_same⟩
  · subst e
    exact h b H (Same.refl _) hb
  · subst e
    exact h a H (Same.refl _) (by rw [List.append_nil]; exact ha)
theorem slA_of {K : PySem.W.Frag} {H : Hp} {a : Addr} {xs : List V} {lo hi : Option Int} {Q : VK} (ha : H a = some (.tup xs)) (h : ∀ p H', Same H H' → H' p = some (.tup (cutV xs lo hi)) → Q (.ref p) H') : rSlA K (.ref a) lo hi H Q := by
  refine ⟨a, xs, rfl, SqT.of ha, fun e => ?_, fun _ p np => h p _ (same_new np) upd_same⟩
  refine h a H (Same.refl _) ?_
  unfold cutV
  rw [e.1, e.2, List.drop_zero, Nat.sub_zero, List.take_length]
  exact ha
theorem slA_no {K : PySem.W.Frag} {σ : L2.St} {H : Hp} {a : Addr} {xs : List V} {lo : Option Int} {Q : VK} (ha : H a = some (.tup xs)) (h : ∀ p H', Same H H' → H' p = some (.tup (cutV xs lo none)) → Q (.ref p) H') : tNoPart σ H fun u H3 => rSlA K (.ref a) lo u H3 Q := slA_of ha h
theorem cut_from (xs : List V) (k : Nat) (hk : k ≤ xs.length) : cutV xs (some (k : Int)) none = xs.drop k := by
  unfold cutV
  rw [HT.sIx_nat, HT.sIx_none, Nat.min_eq_left hk]
  exact List.take_of_length_le (by rw [List.length_drop]; exact Nat.le_refl _)
theorem cut_to (xs : List V) (k : Nat) (hk : k ≤ xs.length) : cutV xs none (some (k : Int)) = xs.take k := by
  unfold cutV
  rw [HT.sIx_nat, HT.sIx_none, Nat.min_eq_left hk, Nat.sub_zero, List.drop_zero]
theorem le1k {n : Nat} (h : n ≤ 1000) : n ≤ sizeLine := Nat.le_trans h (by decide)
theorem lt1k {n : Nat} (h : n ≤ 1000) : n < sizeLine := Nat.lt_of_le_of_lt h (by decide)
/-! ### data that are compared -/
def Sh (n : Nat) (d : PyData) : Prop := d.canLay0 = true ∧ d.depth ≤ n
theorem canAll : ∀ {ds : List PyData}, (∀ d ∈ ds, d.canLay0 = true) → PyData.canLayAll0 ds = true
  | [], _ => rfl
  | d :: ds, h => by
    show (d.canLay0 && PyData.canLayAll0 ds) = true
    rw [h d List.mem_cons_self, canAll fun z hz => h z (List.mem_cons_of_mem _ hz)]
    rfl
theorem depAll {n : Nat} : ∀ {ds : List PyData}, (∀ d ∈ ds, d.depth ≤ n) → PyData.depthAll ds ≤ n
  | [], _ => Nat.zero_le _
  | d :: ds, h => by
    show max d.depth (PyData.depthAll ds) ≤ n
    exact Nat.max_le.mpr ⟨h d List.mem_cons_self, depAll fun z hz => h z (List.mem_cons_of_mem _ hz)⟩
theorem Sh.int {n : Nat} (i : Int) : Sh n (.int i) := ⟨rfl, Nat.zero_le _⟩
theorem Sh.bool {n : Nat} (b : Bool) : Sh n (.bool b) := ⟨rfl, Nat.zero_le _⟩
theorem Sh.none {n : Nat} : Sh n .none := ⟨rfl, Nat.zero_le _⟩
theorem Sh.tuple {n : Nat} {ds : List PyData} (h : ∀ d ∈ ds, Sh n d) : Sh (n + 1) (.tuple ds) := ⟨canAll fun d hd => (h d hd).1, Nat.succ_le_succ (depAll fun d hd => (h d hd).2)⟩
theorem Sh.list {n : Nat} {ds : List PyData} (h : ∀ d ∈ ds, Sh n d) : Sh (n + 1) (.list ds) := ⟨canAll fun d hd => (h d hd).1, Nat.succ_le_succ (depAll fun d hd => (h d hd).2)⟩
theorem Sh.mono {n m : Nat} {d : PyData} (h : Sh n d) (le : n ≤ m) : Sh m d := ⟨h.1, Nat.le_trans h.2 le⟩
theorem Sh.shaped {n : Nat} {d : PyData} (h : Sh n d) (le : n ≤ 64) : SeqAt.shaped d = true := by
  unfold SeqAt.shaped
  rw [h.1, decide_eq_true (Nat.le_trans h.2 le)]
  rfl
theorem Sh.refl {n : Nat} {d : PyData} (h : Sh n d) : PyData.eqv d d = true := SeqAt.eqv_refl d h.1
theorem Sh.ints {n : Nat} (ns : List Int) : ∀ d ∈ ns.map PyData.int, Sh n d := fun d hd => by
  obtain ⟨i, _, rfl⟩ := List.mem_map.mp hd
  exact .int i
def mvD (m : Mv) : PyData := .tuple [.int m.1, .tuple (m.2.map PyData.int)]
theorem Sh.mv (m : Mv) : Sh 2 (mvD m) := Sh.tuple fun d hd => by
  rcases List.mem_cons.mp hd with rfl | hd
  · exact .int _
  rcases List.mem_cons.mp hd with rfl | hd
  · exact Sh.tuple (Sh.ints _)
  · cases hd
theorem Sh.mvs (ms : List Mv) : Sh 3 (.list (ms.map mvD)) := Sh.list fun d hd => by
  obtain ⟨m, _, rfl⟩ := List.mem_map.mp hd
  exact .mv m
theorem dp_ints (K : PySem.W.Frag) (H : Hp) : ∀ ns : List Int, DpAll K H (ns.map V.int) (ns.map PyData.int)
  | [] => .nil
  | n :: ns => .cons (.int n) (dp_ints K H ns)
theorem dp_lst {K : PySem.W.Frag} {H : Hp} {a : Addr} {ns : List Int} (h : H a = some (.lst (ns.map V.int))) : Dp K H (.ref a) (.list (ns.map PyData.int)) := .lst (SqL.of h) (dp_ints K H ns)
theorem dp_tup {K : PySem.W.Frag} {H : Hp} {a : Addr} {ns : List Int} (h : H a = some (.tup (ns.map V.int))) : Dp K H (.ref a) (.tuple (ns.map PyData.int)) := .tup (SqT.of h) (dp_ints K H ns)
theorem dp_mv {K : PySem.W.Frag} {H : Hp} {v : V} {m : Mv} (h : MoveAt H v m) : Dp K H v (mvD m) := by
  obtain ⟨a, q, rfl, ha, hq⟩ := h
  exact .tup (SqT.of ha) (.cons (.int _) (.cons (dp_tup hq) .nil))
theorem dp_mvAll {K : PySem.W.Frag} {H : Hp} : ∀ {ws : List V} {ms : List Mv}, MovesAt H ws ms → DpAll K H ws (ms.map mvD)
  | _, _, .nil => .nil
  | _, _, .cons h t => .cons (dp_mv h) (dp_mvAll t)
theorem dp_mvs {K : PySem.W.Frag} {H : Hp} {a : Addr} {ws : List V} {ms : List Mv} (h : H a = some (.lst ws)) (hM : MovesAt H ws ms) : Dp K H (.ref a) (.list (ms.map mvD)) := .lst (SqL.of h) (dp_mvAll hM)
theorem hu64 {A : Around} {k : Nat} (hr : Room k A) : A.units + 64 < cLine := by
  have := hr.un
  omega
/-- d != d is False, d == d is True -/
theorem ne_same {K : PySem.W.Frag} {x y : V} {d : PyData} {n : Nat} {H : Hp} {Q : VK} (hx : Dp K H x d) (hy : Dp K H y d) (h : Sh n d) (le : n ≤ 64) (q : Q (.bl false) H) : rNeD K x y H Q := by
  refine ⟨d, d, hx, hy, h.shaped le, h.shaped le, ?_⟩
  rw [h.refl]
  exact q
theorem eq_same {K : PySem.W.Frag} {x y : V} {d : PyData} {n : Nat} {H : Hp} {Q : VK} (hx : Dp K H x d) (hy : Dp K H y d) (h : Sh n d) (le : n ≤ 64) (q : Q (.bl true) H) : rEqD K x y H Q := by
  refine ⟨d, d, hx, hy, h.shaped le, h.shaped le, ?_⟩
  rw [h.refl]
  exact q
/-- a def of the module, named -/
structure Df (K : PySem.W.Frag) (mg : Str → Option Value) (x : Str) (st : Stmt) (ps : List Str) (f : Addr) (fd : FuncData) : Prop where
  F : Fun K x x st f fd
  b : Binds K fd ps []
  g : mg x = some (.ref f)
def spLaw (K : PySem.W.Frag) (T : Addr) : Sp := fun vs H Q _ => ∃ (a : Addr) (ns : List Int), vs = [.ref a] ∧ SqL K H a (ns.map V.int) ∧ ns.length ≤ 63 ∧ GxR.TabG H T ∧ ∀ H', Q (.bl true) H'
theorem Same.put {H H1 : Hp} {p : Addr} {o : HO} (s : Same H H1) (n : H p = none) : Same H (upd H1 p o) := fun b u e => by
  rw [upd_ne (ne_of_none e n)]
  exact s b u e
theorem ToldAt.same {H H' : Hp} {t m : Addr} {many : Nat} {ws : List V} {ms : List Mv} (s : Same H H') (h : ToldAt H t m many ws ms) : ToldAt H' t m many ws ms := ⟨s _ _ h.1, s _ _ h.2.1, h.2.2.same (Same.tups s)⟩
theorem ToldAt.gr {K : PySem.W.Frag} {d l : Addr} {ns : List Int} {H H' : Hp} {t m : Addr} {many : Nat} {ws : List V} {ms : List Mv} (hd : Dc K l ns H d) (g : Gr d H H') (h : ToldAt H t m many ws ms) : ToldAt H' t m many ws ms :=
  ⟨g.tups hd _ _ h.1, g _ _ (hd.ne_of h.2.1 (moves_no_dl h.2.2)) h.2.1, h.2.2.same (g.tups hd)⟩
/-- a table stands while the dice turns -/
theorem tab_gr {K : PySem.W.Frag} {d l : Addr} {ns : List Int} {H H' : Hp} {T : Addr} (hd : Dc K l ns H d) (g : Gr d H H') (h : GxR.TabG H T) : GxR.TabG H' T := by
  obtain ⟨ps, e, t⟩ := h
  exact ⟨ps, g _ _ (hd.ne_of e fun _ _ _ _ z => nomatch z) e, t⟩
theorem tab_same {H H' : Hp} {T : Addr} (s : Same H H') (h : GxR.TabG H T) : GxR.TabG H' T := by
  obtain ⟨ps, e, t⟩ := h
  exact ⟨ps, s _ _ e, t⟩
/-- what is no table stands while the table grows -/
theorem Gr.tab {T p : Addr} {H H' : Hp} {o : HO} (hT : GxR.TabG H T) (g : Gr T H H') (n : ∀ qs, o ≠ .tbl qs) (h : H p = some o) : H' p = some o := g p o (fun z => by
  obtain ⟨ps, e, _⟩ := hT
  rw [z, e] at h
  exact n ps (Option.some.inj h).symm) h
theorem ToldAt.tab {T t m : Addr} {H H' : Hp} {many : Nat} {ws : List V} {ms : List Mv} (hT : GxR.TabG H T) (g : Gr T H H') (h : ToldAt H t m many ws ms) : ToldAt H' t m many ws ms :=
  ⟨g.tab hT (fun _ z => nomatch z) h.1, g.tab hT (fun _ z => nomatch z) h.2.1, h.2.2.same fun _ _ e => g.tab hT (fun _ z => nomatch z) e⟩
theorem Dc.tabT {K : PySem.W.Frag} {T d l : Addr} {ns : List Int} {H H' : Hp} (hT : GxR.TabG H T) (g : Gr T H H') (h : Dc K l ns H d) : Dc K l ns H' d := by
  obtain ⟨s0, k, big, h1, h2, h3⟩ := h
  refine ⟨s0, k, big, g.tab hT (fun _ z => nomatch z) h1, ?_, h3⟩
  rcases h2 with (h | ⟨o, h⟩) | h
  · exact .inl (.inl (g.tab hT (fun _ z => nomatch z) h))
  · exact .inl (.inr ⟨o, g.tab hT (fun _ z => nomatch z) h⟩)
  · exact .inr h
/-! ### isinstance(e, (A, B, ..)) of the exception that an except suite holds: a rule of our own -/
/-- e, the classes in a tuple -/
def rExT (K : PySem.W.Frag) (D a : Addr) : List V → Hp → VK → Prop := fun xs H Q =>
  ∃ (tp : Addr) (cs : List V) (us : List Value) (b : Bool), xs = [.ref a, .ref tp] ∧ H tp = some (.tup cs) ∧ Paired ClsV cs us ∧ PySem.W.kitAny K (.ref D) us = some b ∧ Q (.bl b) H
theorem held_at {oe : Obj} {a D : Addr} {h : Heap} (got : h.get? a = some oe) (z : Zc (.ref D) none oe) (f : ∃ vs, oe.data = .fields vs) : PySem.W.InstAt h a oe D none := by
  obtain ⟨vs, fv⟩ := f
  obtain ⟨c0, d0, data0, s0⟩ := oe
  have z1 : c0 = .ref D := z.1
  have z2 : d0 = none := z.2
  have z3 : data0 = .fields vs := fv
  subst z1
  subst z2
  subst z3
  exact ⟨got, rfl, rfl, trivial⟩
theorem call_exT {X : Cx} {a D : Addr} {oe : Obj} {pn : List (Addr × Obj)} (C : ExcC X.K D) (z : Zc (.ref D) none oe) (f : ∃ vs, oe.data = .fields vs) : CallR (X.suite a ((a, oe) :: pn)) (.builtin "isinstance") (rExT X.K D a) := by
  intro pins s σ H xs us Q I r h
  obtain ⟨tp, cs, ws, b, rfl, hT, k, e, q⟩ := h
  obtain ⟨u1, u2, rfl, r1, r2⟩ := vals2 r
  cases (show u1 = Value.ref a from r1)
  cases (show u2 = Value.ref tp from r2)
  have got := (I.pin (a, oe) (List.mem_append.mpr (.inl List.mem_cons_self))).1
  obtain ⟨_, its, rv, ⟨oc, od, dt, sl⟩, g1, g2, n, g3⟩ := (show ObjOk X.prog X.w H s.heap tp (.tup cs) from I.hok tp _ hT)
  have same := ClsV.all k rv
  subst same
  have c1 : oc = .type "tuple" := g2
  have c2 : dt = .seq its.toArray n := g3
  subst c1
  subst c2
  exact PySem.W.kia_tup (PySem.W.handS_kitx_exc C.hg C.hk C.hs C.hd C.ha C.hn C.ht C.hm) I.kIn (held_at got z f) g1 e (fun z => nomatch z) fun tk => ⟨.bl b, H, I.tok tk, rfl, q⟩
/-! ### an error that is caught and looked at: isinstance(e, (six others)), then isinstance(e, its own) and isinstance(e, ValueError) -/
theorem FnOk.or {P : Program} {w : World} {K : PySem.W.Frag} {mg : Str → Option Value} {base : Heap} {CX : CXT} {k : Nat} {f : Addr} {fd : FuncData} {ps : List Str} {sp sq : Sp} (F : FnOk P w K mg base CX k f fd ps sp) (G : FnOk P w K mg base CX k f fd ps sq) : FnOk P w K mg base CX k f fd ps (fun vs H Q E => sp vs H Q E ∨ sq vs H Q E) :=
  ⟨fun vs H Q E h => h.elim (F.len vs H Q E) (G.len vs H Q E), fun A outer s H args us vs Q E hr e b v h => h.elim (F.run A outer s H args us vs Q E hr e b v) (G.run A outer s H args us vs Q E hr e b v)⟩
theorem pss_given {X : Cx} {ss : List Stmt} {t : TS} {p : Prop} (h : p → PSs X ss t) : PSs X ss (fun D σ H => p ∧ t D σ H) := ⟨fun pins s σ H D I hh => (h hh.1).run pins s σ H D I hh.2⟩
structure RefG (K : PySem.W.Frag) (mg : Str → Option Value) (xE x1 x2 x3 x4 x5 x6 : Str) (CL CE c1 c2 c3 c4 c5 c6 : Addr) : Prop where
  gL : mg "LongError" = some (.ref CL)
  ex : PySem.W.exmOne K (.ref CE) (.ref CL) = some true
  N : OwnE K mg xE CE
  E : ExcC K CE
  g1 : mg x1 = some (.ref c1)
  g2 : mg x2 = some (.ref c2)
  g3 : mg x3 = some (.ref c3)
  g4 : mg x4 = some (.ref c4)
  g5 : mg x5 = some (.ref c5)
  g6 : mg x6 = some (.ref c6)
  no : PySem.W.kitAny K (.ref CE) [.ref c1, .ref c2, .ref c3, .ref c4, .ref c5, .ref c6] = some false
  yes : PySem.W.kitOne K (.ref CE) (.ref CE) = some true
  val : PySem.W.kitOne K (.ref CE) (.type "ValueError") = some true
  mi : mg "isinstance" = none
  mv : mg "ValueError" = none
def t_suiteG (K : PySem.W.Frag) (i : Nat) (CE c1 c2 c3 c4 c5 c6 : Addr) (a : Addr) : TS :=
  tSeq (tIfS (tB (tCB (rExT K CE a) (tCons (tVar i) (tCons (tTup (tCons (tC (.ref c1)) (tCons (tC (.ref c2)) (tCons (tC (.ref c3)) (tCons (tC (.ref c4)) (tCons (tC (.ref c5)) (tCons (tC (.ref c6)) tNil))))))) tNil)))) (tRet (tC (.bl false))) tNext)
    (tRet (tAndV (tCB (rIsE K CE a) (tCons (tVar i) (tCons (tC (.ref CE)) tNil))) (tCB (rIsE K CE a) (tCons (tVar i) (tCons (tC (.ty "ValueError")) tNil)))))
/-- what the suite comes to -/
theorem suiteG {K : PySem.W.Frag} {mg : Str → Option Value} {xE x1 x2 x3 x4 x5 x6 : Str} {CL CE c1 c2 c3 c4 c5 c6 a : Addr} (R : RefG K mg xE x1 x2 x3 x4 x5 x6 CL CE c1 c2 c3 c4 c5 c6) {i : Nat} {D : Ends} {σ : L2.St} {H : Hp} (hi : σ[i]? = some (some (.ref a)))
    (q : ∀ p o, H p = none → D.rt (.bl true) (upd H p o)) : t_suiteG K i CE c1 c2 c3 c4 c5 c6 a D σ H := by
  refine ⟨.ref a, hi, (by show 6 ≤ sizeLine; decide), fun tp ntp => ?_⟩
  refine ⟨tp, _, _, false, rfl, upd_same, .cons (.own _) (.cons (.own _) (.cons (.own _) (.cons (.own _) (.cons (.own _) (.cons (.own _) .nil))))), R.no, false, rfl, iteF ?_⟩
  refine ⟨.ref a, hi, .ref CE, _, true, rfl, (fun u r => r), R.yes, true, rfl, iteT ?_⟩
  exact ⟨.ref a, hi, .ty "ValueError", _, true, rfl, (fun u r => r), R.val, q _ _ ntp⟩
section
variable {P : Program} {w : World} {K : PySem.W.Frag} {mg : Str → Option Value} {base : Heap} {C : Addr}
/-! ### _law_refused -/
theorem scRf : FnScope ["_law_told", "e"] ["_law_told"] (defScope sLawRefused) := ⟨rfl, rfl, rfl, by decide +kernel, rfl, by decide +kernel, by decide +kernel⟩
def spRf (T : Addr) : Sp := fun vs H Q _ => ∃ (t m : Addr) (many : Int) (ws : List V) (ms : List Mv), vs = [.ref t] ∧ ToldZ H t m many ws ms ∧ BadTold many ms ∧ many.natAbs ≤ 1000 ∧ ms.length ≤ 1000 ∧ GxR.TabG H T ∧ ∀ H', Q (.bl true) H'
theorem ok_refused {f fM CL CB c1 c2 c3 c4 c5 c6 tM : Addr} {fd fdM : FuncData} (F : Fun K "_law_refused" "_law_refused" sLawRefused f fd) (R : RefG K mg "BadChain" "BadText" "NeverOne" "NoSuch" "NotOne" "NotOrdered" "TooMany" CL CB c1 c2 c3 c4 c5 c6)
    (kM : PySem.W.keepIn K (.ref fM) = true) (bM : Binds K fdM ["_law_told"] []) (gM : mg "_law_made" = some (.ref fM)) (GM : FnOk P w K mg base (L2.CX P w) 4 fM fdM ["_law_told"] (spMadeX C CB tM)) :
    FnOk P w K mg base CX0 5 f fd ["_law_told"] (spRf tM) := by
  refine F.ok scRf (fun vs H Q E h => ?_) (fun cdv A outer s H vs Q E hr h => ?_)
  · obtain ⟨t, m, many, ws, ms, rfl, _⟩ := h
    rfl
  · obtain ⟨t, m, many, ws, ms, rfl, hT, hb, h1, h2, hTab, q⟩ := h
    refine ⟨_, pss_cons (ps_try_as (i := 1) (tb := fun W => tDrop (tCallS (spMadeX C CB tM) (WE W) (tCons (tVar 0) tNil)))
        (ts := fun a cls d D σ H => (cls = .ref CB ∧ d = none) ∧ t_suiteG K 1 CB c1 c2 c3 c4 c5 c6 a D σ H) (Wout := fun _ _ _ _ => False) rfl rfl scRf.nd rfl rfl ⟨rfl, by decide, .inl R.gL⟩ takes0
        (fun W pn xe tk _ => pss_one (ps_expr (by exact (pe_callS GM hr (by rfl) gM kM bM (fun σ => passAt tk σ) (by exact (pa_cons (pv 0) pa_nil))))))
        (fun a oe cls d pn hz hf => pss_given fun hp => by
          obtain ⟨rfl, rfl⟩ := hp
          exact (pss_cons (ps_if (pt_val (pe_callB (call_exT R.E hz hf) (by rfl) R.mi (by decide +kernel) (pa_cons (pv 1) (pa_cons (pe_tup (pa_cons (pe_glob (v := .ref c1) (by rfl) R.g1 rfl) (pa_cons (pe_glob (v := .ref c2) (by rfl) R.g2 rfl) (pa_cons (pe_glob (v := .ref c3) (by rfl) R.g3 rfl) (pa_cons (pe_glob (v := .ref c4) (by rfl) R.g4 rfl) (pa_cons (pe_glob (v := .ref c5) (by rfl) R.g5 rfl) (pa_cons (pe_glob (v := .ref c6) (by rfl) R.g6 rfl) pa_nil))))))) pa_nil)))) (pss_one (ps_ret pe_bl)) pss_nil)
            (pss_one (ps_ret (pe_and (pe_callB (call_isE R.E hz hf) (by rfl) R.mi (by decide +kernel) (pa_cons (pv 1) (pa_cons (pe_glob (v := .ref CB) (by rfl) R.N.g rfl) pa_nil))) (pe_one (pe_callB (call_isE R.E hz hf) (by rfl) R.mi (by decide +kernel) (pa_cons (pv 1) (pa_cons (pe_bltn (v := .ty "ValueError") (by rfl) R.mv (by decide +kernel) rfl) pa_nil))))))))))
      (pss_one (ps_ret pe_bl)), ?_⟩
    refine ⟨.ref t, rfl, t, m, many, ws, ms, rfl, hT, hb, h1, h2, hTab, fun H' g t' => ?_⟩
    refine ⟨true, R.ex, fun _ a na => ⟨⟨rfl, rfl⟩, ?_⟩, fun z => nomatch z⟩
    exact suiteG R rfl fun p o np => q _
end
section
variable {P : Program} {w : World} {K : PySem.W.Frag} {mg : Str → Option Value} {base : Heap}
/-! ### _law_wrong -/
theorem Gr.put {d : Addr} {H H1 : Hp} {p : Addr} {o : HO} (a : Gr d H H1) (h : H p = none) : Gr d H (upd H1 p o) := fun b u n e => by
  rw [upd_ne (ne_of_none e h)]
  exact a b u n e
theorem Gr.free {d : Addr} {H H1 : Hp} {p : Addr} (a : Gr d H H1) (n : H1 p = none) (h : p ≠ d) : H p = none := by
  cases e : H p with
  | none => rfl
  | some o =>
    rw [a p o h e] at n
    cases n
theorem paired_drop {α β : Type} {F : α → β → Prop} : ∀ {l₁ : List α} {l₂ : List β} (n : Nat), Paired F l₁ l₂ → Paired F (l₁.drop n) (l₂.drop n)
  | _, _, 0, h => h
  | _, _, _ + 1, .nil => .nil
  | _, _, n + 1, .cons _ t => paired_drop n t
theorem paired_take {α β : Type} {F : α → β → Prop} : ∀ {l₁ : List α} {l₂ : List β} (n : Nat), Paired F l₁ l₂ → Paired F (l₁.take n) (l₂.take n)
  | _, _, 0, _ => .nil
  | _, _, _ + 1, .nil => .nil
  | _, _, n + 1, .cons h t => .cons h (paired_take n t)
theorem paired_app {α β : Type} {F : α → β → Prop} : ∀ {l₁ : List α} {l₂ : List β} {k₁ : List α} {k₂ : List β}, Paired F l₁ l₂ → Paired F k₁ k₂ → Paired F (l₁ ++ k₁) (l₂ ++ k₂)
  | _, _, _, _, .nil, h => h
  | _, _, _, _, .cons q t, h => .cons q (paired_app t h)
theorem paired_rep {α β : Type} {F : α → β → Prop} {a : α} {b : β} (h : F a b) : ∀ n, Paired F (List.replicate n a) (List.replicate n b)
  | 0 => .nil
  | n + 1 => .cons h (paired_rep h n)
theorem paired_cut {F : V → Mv → Prop} {ws : List V} {ms : List Mv} (h : Paired F ws ms) (lo hi : Option Int) : ∃ ms', Paired F (cutV ws lo hi) ms' ∧ ms'.length ≤ ms.length := by
  unfold cutV
  refine ⟨_, paired_take _ (paired_drop _ h), ?_⟩
  rw [List.length_take, List.length_drop]
  omega
/-- an item that is no chain -/
def BadAt (H : Hp) (U : Addr) (v : V) : Prop := ∃ t m many ws ms, v = .ref t ∧ m ≠ U ∧ ToldZ H t m many ws ms ∧ BadTold many ms ∧ many.natAbs ≤ 1000 ∧ ms.length ≤ 1000
theorem BadAt.keep {H H' : Hp} {U : Addr} {v : V} (h1 : ∀ b xs, H b = some (.tup xs) → H' b = some (.tup xs)) (h2 : ∀ b vs ms, b ≠ U → MovesAt H vs ms → H b = some (.lst vs) → H' b = some (.lst vs)) (h : BadAt H U v) : BadAt H' U v := by
  obtain ⟨t, m, many, ws, ms, e, n, ⟨a, b, c⟩, r⟩ := h
  exact ⟨t, m, many, ws, ms, e, n, ⟨h1 _ _ a, h2 _ _ _ n c b, c.same h1⟩, r⟩
theorem BadAt.gr {d l : Addr} {ns : List Int} {H H' : Hp} {U : Addr} {v : V} (hd : Dc K l ns H d) (g : Gr d H H') (h : BadAt H U v) : BadAt H' U v :=
  h.keep (g.tups hd) fun b vs ms _ c e => g b _ (hd.ne_of e (moves_no_dl c)) e
/-- the list that is filled: all its items are no chains -/
def Filled (H : Hp) (U : Addr) (n : Nat) : Prop := ∃ vs, H U = some (.lst vs) ∧ vs.length = n ∧ ∀ v ∈ vs, BadAt H U v
theorem Filled.gr {d l : Addr} {ns : List Int} {H H' : Hp} {U : Addr} {n : Nat} (hd : Dc K l ns H d) (nU : U ≠ d) (g : Gr d H H') (h : Filled H U n) : Filled H' U n := by
  obtain ⟨vs, e, l, a⟩ := h
  exact ⟨vs, g _ _ nU e, l, fun v hv => (a v hv).gr hd g⟩
/-- one more -/
theorem Filled.more {H : Hp} {U : Addr} {n : Nat} {vs : List V} {v : V} (e : H U = some (.lst vs)) (l : vs.length = n) (a : ∀ v ∈ vs, BadAt H U v) (b : BadAt H U v) : Filled (upd H U (.lst (vs ++ [v]))) U (n + 1) := by
  have kp : ∀ {z}, BadAt H U z → BadAt (upd H U (.lst (vs ++ [v]))) U z := fun hz => hz.keep (fun b xs eb => by
    rw [upd_ne]
    · exact eb
    · intro z
      rw [z, e] at eb
      cases eb) fun b _ _ nb _ eb => by
    rw [upd_ne nb]
    exact eb
  refine ⟨_, upd_same, by rw [List.length_append, l]; rfl, fun z hz => ?_⟩
  rcases List.mem_append.mp hz with hz | hz
  · exact kp (a z hz)
  · rw [List.mem_singleton.mp hz]
    exact kp b
theorem bad_w {many : Int} {m : Mv} (h : ¬ (1 ≤ m.1 ∧ m.1 < 100)) : isMv many m = false := by
  unfold isMv
  rw [decide_eq_false h, Bool.false_and, Bool.false_and]
theorem bad_l {many : Int} {m : Mv} (h : (m.2.length : Int) ≠ many) : isMv many m = false := by
  unfold isMv
  rw [decide_eq_false h, Bool.and_false, Bool.false_and]
theorem bad_p {many : Int} {m : Mv} {z : Int} (h : z ∈ m.2) (h2 : ¬ (0 ≤ z ∧ z < many)) : isMv many m = false := by
  unfold isMv
  have e : m.2.all (inR many) = false := by
    rw [List.all_eq_false]
    exact ⟨z, h, by unfold inR; rw [decide_eq_false h2]; exact Bool.false_ne_true⟩
  rw [e, Bool.and_false]
/-- an item that is no chain, ahead of the list's making -/
def PreBad (H : Hp) (v : V) : Prop := ∃ t m many ws ms, v = .ref t ∧ ToldZ H t m many ws ms ∧ BadTold many ms ∧ many.natAbs ≤ 1000 ∧ ms.length ≤ 1000
theorem PreBad.same {H H' : Hp} {v : V} (s : Same H H') (h : PreBad H v) : PreBad H' v := by
  obtain ⟨t, m, many, ws, ms, e, ⟨a, b, c⟩, r⟩ := h
  exact ⟨t, m, many, ws, ms, e, ⟨s _ _ a, s _ _ b, c.same (Same.tups s)⟩, r⟩
theorem PreBad.mk {H : Hp} {p m : Addr} {many : Int} {ws : List V} {ms : List Mv} (n : H p = none) (hm : H m = some (.lst ws)) (hM : MovesAt H ws ms) (hb : BadTold many ms) (b1 : many.natAbs ≤ 1000) (b2 : ms.length ≤ 1000) : PreBad (upd H p (.tup [.int many, .ref m])) (.ref p) :=
  ⟨p, m, many, ws, ms, rfl, ⟨upd_same, same_new n _ _ hm, hM.same (Same.tups (same_new n))⟩, hb, b1, b2⟩
theorem PreBad.bad {H : Hp} {U : Addr} {o : HO} {v : V} (n : H U = none) (h : PreBad H v) : BadAt (upd H U o) U v := by
  obtain ⟨t, m, many, ws, ms, e, ⟨a, b, c⟩, r⟩ := h.same (same_new (o := o) n)
  obtain ⟨t', m', _, _, _, e', ⟨_, b', _⟩, _⟩ := id h
  obtain ⟨t2, m2, many2, ws2, ms2, e2, ⟨a2, b2, c2⟩, r2⟩ := h
  have s := same_new (o := o) n
  exact ⟨t2, m2, many2, ws2, ms2, e2, ne_of_none b2 n, ⟨s _ _ a2, s _ _ b2, c2.same (Same.tups s)⟩, r2⟩
theorem BadAt.mk {H : Hp} {p m U : Addr} {many : Int} {ws : List V} {ms : List Mv} (n : H p = none) (ne : m ≠ U) (hm : H m = some (.lst ws)) (hM : MovesAt H ws ms) (hb : BadTold many ms) (b1 : many.natAbs ≤ 1000) (b2 : ms.length ≤ 1000) : BadAt (upd H p (.tup [.int many, .ref m])) U (.ref p) :=
  ⟨p, m, many, ws, ms, rfl, ne, ⟨upd_same, same_new n _ _ hm, hM.same (Same.tups (same_new n))⟩, hb, b1, b2⟩
/-- a move that is none -/
def OddAt (H : Hp) (many : Int) (v : V) : Prop := ∃ mv, MoveAt H v mv ∧ isMv many mv = false
theorem OddAt.same {H H' : Hp} {many : Int} {v : V} (s : ∀ b xs, H b = some (.tup xs) → H' b = some (.tup xs)) (h : OddAt H many v) : OddAt H' many v := by
  obtain ⟨mv, a, b⟩ := h
  exact ⟨mv, a.same s, b⟩
theorem OddAt.mk {H : Hp} {p r : Addr} {many w : Int} {row : List Int} (n : H p = none) (hr : H r = some (.tup (row.map V.int))) (h : isMv many (w, row) = false) : OddAt (upd H p (.tup [.int w, .ref r])) many (.ref p) :=
  ⟨(w, row), ⟨p, r, rfl, upd_same, same_new n _ _ hr⟩, h⟩
theorem scWr : FnScope ["_law_d", "_law_told", "_law_many", "_law_moves", "_law_row", "_law_far", "_law_some", "_law_odd", "_law_at", "_law_place"] ["_law_d", "_law_told"] (defScope sLawWrong) := ⟨rfl, rfl, rfl, by decide +kernel, rfl, by decide +kernel, by decide +kernel⟩
def spWr (K : PySem.W.Frag) : Sp := fun vs H Q _ => ∃ (d l t m : Addr) (ns : List Int) (many : Nat) (ws : List V) (ms : List Mv), vs = [.ref d, .ref t] ∧ Dc K l ns H d ∧ ToldAt H t m many ws ms ∧ Good many ms ∧
  ∀ (t' m' : Addr) (many' : Int) (ws' : List V) (ms' : List Mv) H', ToldZ H' t' m' many' ws' ms' → BadTold many' ms' → many'.natAbs ≤ 1000 → ms'.length ≤ 1000 → Gr d H H' → Q (.ref t') H'
theorem ok_wrong {f fC fD fO : Addr} {fd fdC fdD fdO : FuncData} (F : Fun K "_law_wrong" "_law_wrong" sLawWrong f fd) (T : LawTxt K mg fC fD fO fdC fdD fdO) : FnOk P w K mg base CX0 3 f fd ["_law_d", "_law_told"] (spWr K) := by
  have GO : FnOk P w K mg base CX0 2 fO fdO ["_law_d", "_law_most"] (spOff K) := T.off
  refine F.ok scWr (fun vs H Q E h => ?_) (fun cdv A outer s H vs Q E hr h => ?_)
  · obtain ⟨d, l, t, m, ns, many, ws, ms, rfl, _⟩ := h
    rfl
  · obtain ⟨d, l, t, m, ns, many, ws, ms, rfl, hD, ⟨hT, hm, hM⟩, G, q⟩ := h
    refine ⟨_, (pss_cons (ps_asg (pv 1) (pg_tup rfl (pgs_cons (pg_name (i := 2) scWr.nd rfl (.inl rfl)) (pgs_cons (pg_name (i := 3) scWr.nd rfl (.inl rfl)) pgs_nil))))
      (pss_cons (ps_set (i := 4) scWr.nd rfl (.inl rfl) (pe_ix ix_tup (pe_ix ix_list (pv 3) pe_int (fun _ _ => rfl)) pe_int (fun _ _ => rfl)))
      (pss_cons (ps_set (i := 5) scWr.nd rfl (.inl rfl) (pe_op op_add pe_int (pe_call GO hr (by rfl) T.gO T.FO.kp T.bO .nil pass0 (pa_cons (pv 0) (pa_cons pe_int pa_nil)))))
      (pss_cons (ps_set (i := 6) scWr.nd rfl (.inl rfl) (pe_lst (pa_cons (pe_tup (pa_cons pe_int (pa_cons (pv 3) pa_nil))) (pa_cons (pe_tup (pa_cons pe_int (pa_cons (pe_lst (pa_cons (pe_tup (pa_cons pe_int (pa_cons (pe_op op_repT (pe_tup (pa_cons pe_int pa_nil)) pe_int) pa_nil))) pa_nil)) pa_nil))) (pa_cons (pe_tup (pa_cons (pe_un un_neg pe_int) (pa_cons (pe_lst pa_nil) pa_nil))) (pa_cons (pe_tup (pa_cons (pv 2) (pa_cons (pe_lst pa_nil) pa_nil))) (pa_cons (pe_tup (pa_cons (pv 2) (pa_cons (pe_op op_rep (pe_slice sl_list (pv 3) po_none (po_some pe_int)) pe_int) pa_nil))) pa_nil)))))))
      (pss_cons (ps_for PassesOwn.never rfl (pi_list (pe_lst (pa_cons (pe_tup (pa_cons pe_int (pa_cons (pv 4) pa_nil))) (pa_cons (pe_tup (pa_cons pe_int (pa_cons (pv 4) pa_nil))) (pa_cons (pe_tup (pa_cons (pe_op op_sub pe_int (pv 5)) (pa_cons (pv 4) pa_nil))) (pa_cons (pe_tup (pa_cons pe_int (pa_cons (pe_op op_catA (pv 4) (pe_tup (pa_cons pe_int pa_nil))) pa_nil))) (pa_cons (pe_tup (pa_cons pe_int (pa_cons (pe_slice sl_tupA (pv 4) (po_some pe_int) po_none) pa_nil))) pa_nil))))))) (pg_name (i := 7) scWr.nd rfl (.inl rfl)) (pss_one (ps_expr (pe_bm PySem.F.plainAttrs_list PySem.F.slot_list_append PySem.F.type_list_append mt_append (pv 6) (pa_cons (pe_tup (pa_cons (pv 2) (pa_cons (pe_op op_cat (pe_slice sl_list (pv 3) po_none (po_some pe_int)) (pe_lst (pa_cons (pv 7) pa_nil))) pa_nil))) pa_nil)))))
      (pss_cons (ps_set (i := 8) scWr.nd rfl (.inl rfl) (pe_call GO hr (by rfl) T.gO T.FO.kp T.bO .nil pass0 (pa_cons (pv 0) (pa_cons (pv 2) pa_nil))))
      (pss_cons (ps_for PassesOwn.never rfl (pi_list (pe_lst (pa_cons (pe_un un_neg pe_int) (pa_cons (pv 2) pa_nil)))) (pg_name (i := 9) scWr.nd rfl (.inl rfl)) (pss_one (ps_expr (pe_bm PySem.F.plainAttrs_list PySem.F.slot_list_append PySem.F.type_list_append mt_append (pv 6) (pa_cons (pe_tup (pa_cons (pv 2) (pa_cons (pe_op op_cat (pe_lst (pa_cons (pe_tup (pa_cons pe_int (pa_cons (pe_op op_catA (pe_op op_catA (pe_slice sl_tupA (pv 4) po_none (po_some (pv 8))) (pe_tup (pa_cons (pv 9) pa_nil))) (pe_slice sl_tupA (pv 4) (po_some (pe_op op_add (pv 8) pe_int)) po_none)) pa_nil))) pa_nil)) (pe_slice sl_list (pv 3) po_none (po_some pe_int))) pa_nil))) pa_nil)))))
      (pss_one (ps_ret (pe_ix ix_list (pv 6) (pe_call GO hr (by rfl) T.gO T.FO.kp T.bO .nil pass0 (pa_cons (pv 0) (pa_cons pe_int pa_nil))) (fun _ _ => rfl))))))))))), ?_⟩
    have G1 := G.l1
    have G8 := G.l8
    have m1 := G.m1
    have m6 := G.m6
    have lenW := hM.length
    obtain ⟨m0, hm0⟩ : ∃ m0, ms[0]? = some m0 := ⟨ms[0], List.getElem?_eq_getElem (by omega)⟩
    have good0 := G.mv m0 (List.mem_of_getElem? hm0)
    obtain ⟨w0, ew0, ⟨a0, r0, rfl, ha0, hr0⟩⟩ := hM.get hm0
    have lenR : m0.2.length = many := good0.2.2.1
    refine ⟨.ref t, rfl, t, _, rfl, SqT.of hT, rfl, .int (many : Int), [.ref m], rfl, .ref m, [], rfl, rfl, ?_⟩
    refine ⟨.ref m, rfl, m, _, 0, _, rfl, rfl, SqL.of hm, atI_nat (j := 0) ew0, a0, _, 1, _, rfl, rfl, SqT.of ha0, atI_nat (j := 1) rfl, ?_⟩
    refine ⟨.ref d, rfl, d, l, ns, _, rfl, hD, by decide, by decide, fun far H1 hfar hD1 o1 => ⟨1, far, rfl, rfl, ?_⟩⟩
    have g1 : Gr d H H1 := (Gr.refl d H).off o1
    have nmd : m ≠ d := hD.ne_of hm (moves_no_dl hM)
    have hm1 := g1 _ _ nmd hm
    have hM1 := hM.same (g1.tups hD)
    have hr1 := g1.tups hD _ _ hr0
    have nR : m0.2.map V.int ≠ [] := by
      intro e
      have e2 := congrArg List.length e
      rw [List.length_map, lenR] at e2
      have : many = 0 := e2
      omega
    have e7 : BadTold 7 [(1, List.replicate 7 0)] := .inl (by decide)
    have two : (2 : Nat) ≤ sizeLine := by decide
    have onE : (1 : Nat) ≤ sizeLine := by decide
    -- (0, moves)
    refine ⟨.ref m, rfl, two, fun p1 n1 => ?_⟩
    have B1 := PreBad.mk (many := 0) n1 hm1 hM1 (.inl (by decide)) (by decide) (by omega)
    have s2 := same_new (o := .tup [.int 0, .ref m]) n1
    generalize upd H1 p1 (.tup [.int 0, .ref m]) = H2 at B1 s2 ⊢
    -- (7, [(1, (0,) * 7)])
    refine ⟨onE, fun q1 nq1 => ⟨q1, 7, [.int 0], rfl, rfl, SqT.of upd_same, by simp, by decide, by decide, by decide, fun q2 nq2 => ⟨two, fun q3 nq3 => ⟨onE, fun q4 nq4 => ⟨two, fun p2 n2 => ?_⟩⟩⟩⟩⟩
    have B2 := PreBad.mk (many := 7) (ws := [.ref q3]) (ms := [(1, List.replicate 7 0)]) n2 upd_same (.cons ⟨q3, q2, rfl, same_new nq4 _ _ upd_same, ((same_new nq3).trans (same_new nq4)) _ _ upd_same⟩ .nil) e7 (by decide) (by decide)
    have s3 := ((((s2.trans (same_new nq1)).trans (same_new nq2)).trans (same_new nq3)).trans (same_new nq4)).trans (same_new (o := .tup [.int 7, .ref q4]) n2)
    have B1 := B1.same (((((same_new nq1).trans (same_new nq2)).trans (same_new nq3)).trans (same_new nq4)).trans (same_new (o := .tup [.int 7, .ref q4]) n2))
    generalize upd (upd (upd (upd (upd H2 q1 _) q2 _) q3 _) q4 _) p2 (.tup [.int 7, .ref q4]) = H3 at B1 B2 s3 ⊢
    -- (-1, [])
    refine ⟨1, rfl, Nat.zero_le _, fun q5 nq5 => ⟨two, fun p3 n3 => ?_⟩⟩
    have B3 := PreBad.mk (many := -1) (ws := []) (ms := []) n3 upd_same .nil (.inl (by decide)) (by decide) (by decide)
    have s4' := (same_new (o := .lst []) nq5).trans (same_new (o := .tup [.int (-1), .ref q5]) n3)
    have s4 := s3.trans s4'
    have B1 := B1.same s4'
    have B2 := B2.same s4'
    generalize upd (upd H3 q5 _) p3 (.tup [.int (-1), .ref q5]) = H4 at B1 B2 B3 s4 ⊢
    -- (many, [])
    refine ⟨.int (many : Int), rfl, Nat.zero_le _, fun q6 nq6 => ⟨two, fun p4 n4 => ?_⟩⟩
    have B4 := PreBad.mk (many := (many : Int)) (ws := []) (ms := []) n4 upd_same .nil (.inr (.inl (by decide))) (by omega) (by decide)
    have s5' := (same_new (o := .lst []) nq6).trans (same_new (o := .tup [.int (many : Int), .ref q6]) n4)
    have s5 := s4.trans s5'
    have B1 := B1.same s5'
    have B2 := B2.same s5'
    have B3 := B3.same s5'
    generalize upd (upd H4 q6 _) p4 (.tup [.int (many : Int), .ref q6]) = H5 at B1 B2 B3 B4 s5 ⊢
    -- (many, moves[:1] * 9)
    have hm5 := s5 _ _ hm1
    have hM5 := hM1.same (Same.tups s5)
    have ecut : cutV ws none (some 1) = [.ref a0] := by
      rw [show (some (1 : Int)) = some ((1 : Nat) : Int) from rfl, cut_to ws 1 (by omega), List.take_one, List.head?_eq_getElem?, ew0]
      rfl
    refine ⟨.int (many : Int), rfl, .ref m, rfl, 1, rfl, m, ws, rfl, SqL.of hm5, fun q7 nq7 => ?_⟩
    rw [ecut]
    refine ⟨q7, 9, _, rfl, rfl, upd_same, by decide, by decide, (by show 1 * (9 : Int).toNat ≤ sizeLine; decide), fun q8 nq8 => ⟨two, fun p5 n5 => ⟨(by show 5 ≤ sizeLine; decide), fun U nU => ?_⟩⟩⟩
    have mv5 : MoveAt H5 (.ref a0) m0 := by
      obtain ⟨v, ev, hv⟩ := hM5.get hm0
      rw [ew0] at ev
      cases ev
      exact hv
    have B5 := PreBad.mk (many := (many : Int)) (ms := List.replicate 9 m0) n5 upd_same (MovesAt.same (Same.tups ((same_new nq7).trans (same_new nq8))) (paired_rep mv5 9)) (.inr (.inl (by rw [List.length_replicate]; decide))) (by omega) (by rw [List.length_replicate]; decide)
    have s6 := ((same_new nq7).trans (same_new nq8)).trans (same_new (o := .tup [.int (many : Int), .ref q8]) n5)
    have B1 := (B1.same s6).bad (o := .lst [.ref p1, .ref p2, .ref p3, .ref p4, .ref p5]) nU
    have B2 := (B2.same s6).bad (o := .lst [.ref p1, .ref p2, .ref p3, .ref p4, .ref p5]) nU
    have B3 := (B3.same s6).bad (o := .lst [.ref p1, .ref p2, .ref p3, .ref p4, .ref p5]) nU
    have B4 := (B4.same s6).bad (o := .lst [.ref p1, .ref p2, .ref p3, .ref p4, .ref p5]) nU
    have B5 := B5.bad (o := .lst [.ref p1, .ref p2, .ref p3, .ref p4, .ref p5]) nU
    have s7 := (s5.trans s6).trans (same_new (o := .lst [.ref p1, .ref p2, .ref p3, .ref p4, .ref p5]) nU)
    have nUd : U ≠ d := (hD1.same (s5.trans s6)).ne nU
    have nU1 : H1 U = none := (s5.trans s6).free nU
    have nUH : H U = none := g1.free nU1 nUd
    have fill : Filled (upd (upd (upd (upd H5 q7 (.lst [.ref a0])) q8 (.lst (List.replicate (Int.toNat 9) [.ref a0]).flatten)) p5 (.tup [.int (many : Int), .ref q8])) U (.lst [.ref p1, .ref p2, .ref p3, .ref p4, .ref p5])) U 5 := by
      refine ⟨_, upd_same, rfl, fun v hv => ?_⟩
      rcases List.mem_cons.mp hv with rfl | hv
      · exact B1
      rcases List.mem_cons.mp hv with rfl | hv
      · exact B2
      rcases List.mem_cons.mp hv with rfl | hv
      · exact B3
      rcases List.mem_cons.mp hv with rfl | hv
      · exact B4
      rcases List.mem_cons.mp hv with rfl | hv
      · exact B5
      · cases hv
    show tSeq _ _ _ _ (upd (upd (upd (upd H5 q7 (.lst [.ref a0])) q8 (.lst (List.replicate (Int.toNat 9) [.ref a0]).flatten)) p5 (.tup [.int (many : Int), .ref q8])) U (.lst [.ref p1, .ref p2, .ref p3, .ref p4, .ref p5]))
    generalize upd (upd (upd (upd H5 q7 (.lst [.ref a0])) q8 (.lst (List.replicate (Int.toNat 9) [.ref a0]).flatten)) p5 (.tup [.int (many : Int), .ref q8])) U (.lst [.ref p1, .ref p2, .ref p3, .ref p4, .ref p5]) = H6 at fill s7 ⊢
    have hr6 := s7 _ _ hr1
    -- the odd moves
    refine ⟨.ref r0, rfl, two, fun u1 nu1 => ?_⟩
    have O1 := OddAt.mk (many := (many : Int)) (w := 0) nu1 hr6 (bad_w (by show ¬ ((1 : Int) ≤ 0 ∧ (0 : Int) < 100); decide))
    have z1 := same_new (o := .tup [.int 0, .ref r0]) nu1
    generalize upd H6 u1 (.tup [.int 0, .ref r0]) = H7 at O1 z1 ⊢
    refine ⟨.ref r0, rfl, two, fun u2 nu2 => ?_⟩
    have O2 := OddAt.mk (many := (many : Int)) (w := 100) nu2 (z1 _ _ hr6) (bad_w (by show ¬ ((1 : Int) ≤ 100 ∧ (100 : Int) < 100); decide))
    have z2' := same_new (o := .tup [.int 100, .ref r0]) nu2
    have z2 := z1.trans z2'
    have O1 := O1.same (Same.tups z2')
    generalize upd H7 u2 (.tup [.int 100, .ref r0]) = H8 at O1 O2 z2 ⊢
    refine ⟨.int (1 + (far : Int)), rfl, 0, 1 + (far : Int), rfl, rfl, .ref r0, rfl, two, fun u3 nu3 => ?_⟩
    have O3 := OddAt.mk (many := (many : Int)) (w := 0 - (1 + (far : Int))) nu3 (z2 _ _ hr6) (bad_w (by simp only; omega))
    have z3' := same_new (o := .tup [.int (0 - (1 + (far : Int))), .ref r0]) nu3
    have z3 := z2.trans z3'
    have O1 := O1.same (Same.tups z3')
    have O2 := O2.same (Same.tups z3')
    generalize upd H8 u3 (.tup [.int (0 - (1 + (far : Int))), .ref r0]) = H9 at O1 O2 O3 z3 ⊢
    refine ⟨.ref r0, rfl, onE, fun v1 nv1 => ⟨r0, v1, _, _, rfl, rfl, SqT.of (same_new nv1 _ _ (z3 _ _ hr6)), SqT.of upd_same, ?_, fun e => absurd e nR, fun _ e => (nomatch e), fun _ _ v2 nv2 => ⟨two, fun u4 nu4 => ?_⟩⟩⟩
    · rw [List.length_map, lenR]
      exact Nat.le_trans (show many + 1 ≤ 1000 by omega) (by decide)
    have er4 : m0.2.map V.int ++ [V.int 0] = (m0.2 ++ [0]).map V.int := by rw [List.map_append]; rfl
    have O4 := OddAt.mk (many := (many : Int)) (w := 1) (row := m0.2 ++ [0]) nu4 (by rw [← er4]; exact upd_same) (bad_l (by show (((m0.2 ++ [0]).length : Nat) : Int) ≠ (many : Int); rw [List.length_append, lenR, List.length_singleton]; omega))
    have z4' := ((same_new nv1).trans (same_new nv2)).trans (same_new (o := .tup [.int 1, .ref v2]) nu4)
    have z4 := z3.trans z4'
    have O1 := O1.same (Same.tups z4')
    have O2 := O2.same (Same.tups z4')
    have O3 := O3.same (Same.tups z4')
    generalize upd (upd (upd H9 v1 _) v2 _) u4 (.tup [.int 1, .ref v2]) = H10 at O1 O2 O3 O4 z4 ⊢
    have ecut1 : cutV (m0.2.map V.int) (some 1) none = (m0.2.drop 1).map V.int := by
      rw [show (some (1 : Int)) = some ((1 : Nat) : Int) from rfl, cut_from _ 1 (by rw [List.length_map]; omega), List.map_drop]
    refine ⟨.ref r0, rfl, 1, rfl, r0, _, rfl, SqT.of (z4 _ _ hr6), fun w => ?_, fun _ v3 nv3 => ⟨two, fun u5 nu5 => ?_⟩⟩
    · exfalso
      have w1 := w.1
      rw [show (some (1 : Int)) = some ((1 : Nat) : Int) from rfl, HT.sIx_nat, List.length_map, lenR] at w1
      omega
    rw [ecut1]
    have nu5' := nu5
    rw [ecut1] at nu5'
    have O5 := OddAt.mk (many := (many : Int)) (w := 1) (row := m0.2.drop 1) nu5' upd_same (bad_l (by show (((m0.2.drop 1).length : Nat) : Int) ≠ (many : Int); rw [List.length_drop, lenR]; omega))
    have z5' := (same_new nv3).trans (same_new (o := .tup [.int 1, .ref v3]) nu5')
    have z5 := z4.trans z5'
    have O1 := O1.same (Same.tups z5')
    have O2 := O2.same (Same.tups z5')
    have O3 := O3.same (Same.tups z5')
    have O4 := O4.same (Same.tups z5')
    generalize upd (upd H10 v3 _) u5 (.tup [.int 1, .ref v3]) = H11 at O1 O2 O3 O4 O5 z5 ⊢
    have odds : ∀ v ∈ ([.ref u1, .ref u2, .ref u3, .ref u4, .ref u5] : List V), OddAt H11 (many : Int) v := by
      intro v hv
      rcases List.mem_cons.mp hv with rfl | hv
      · exact O1
      rcases List.mem_cons.mp hv with rfl | hv
      · exact O2
      rcases List.mem_cons.mp hv with rfl | hv
      · exact O3
      rcases List.mem_cons.mp hv with rfl | hv
      · exact O4
      rcases List.mem_cons.mp hv with rfl | hv
      · exact O5
      · cases hv
    refine ⟨(by show 5 ≤ sizeLine; decide), fun L nL => ?_⟩
    have z6 := z5.trans (same_new (o := .lst [.ref u1, .ref u2, .ref u3, .ref u4, .ref u5]) nL)
    have odds := fun v hv => (odds v hv).same (Same.tups (same_new (o := .lst [.ref u1, .ref u2, .ref u3, .ref u4, .ref u5]) nL))
    have hL : (upd H11 L (.lst [.ref u1, .ref u2, .ref u3, .ref u4, .ref u5])) L = some (.lst [.ref u1, .ref u2, .ref u3, .ref u4, .ref u5]) := upd_same
    have nLU : L ≠ U := by
      obtain ⟨us, eU, _⟩ := fill
      intro z
      have := z5 _ _ eU
      rw [← z, nL] at this
      cases this
    generalize upd H11 L (.lst [.ref u1, .ref u2, .ref u3, .ref u4, .ref u5]) = H12 at z6 odds hL ⊢
    have hD12 := (hD1.same s7).same z6
    have g12 : Gr d H H12 := g1.trans (Gr.of_same (s7.trans z6))
    have fill12 : Filled H12 U 5 := fill.gr (hD1.same s7) nUd (Gr.of_same z6)
    have hm12 := z6 _ _ (s7 _ _ hm1)
    have hM12 := hM1.same (Same.tups (s7.trans z6))
    have nmU : m ≠ U := fun z => by
      rw [z, nU1] at hm1
      cases hm1
    refine ⟨L, rfl, ⟨_, SqL.of hL⟩, for_list (K := K) (a := L) (xs := [.ref u1, .ref u2, .ref u3, .ref u4, .ref u5]) (fun i σ H' => ∃ y7, σ = [some (.ref d), some (.ref t), some (.int (many : Int)), some (.ref m), some (.ref r0), some (.int (1 + (far : Int))), some (.ref U), y7, none, none] ∧ Dc K l ns H' d ∧ Gr d H H' ∧ Gr U H12 H' ∧ Filled H' U (5 + i))
      ⟨none, rfl, hD12, g12, Gr.refl _ _, fill12⟩ (fun i σ H' _ ⟨_, _, _, _, g, _⟩ => SqL.of (g _ _ nLU hL)) ?_ ?_⟩
    · rintro i v σ H13 hv ⟨y7, rfl, hD13, g13, k13, vs, eU, lU, aU⟩
      have hm13 := k13 _ _ nmU hm12
      have kt : ∀ b xs, H12 b = some (.tup xs) → H13 b = some (.tup xs) := fun b xs e => k13 b _ (fun z => by
        obtain ⟨us, eU2, _⟩ := fill12
        rw [z, eU2] at e
        cases e) e
      have hM13 := hM12.same kt
      obtain ⟨mv, hmv, hbad⟩ := (odds v (List.mem_of_getElem? hv)).same kt
      obtain ⟨cs, hcs, lcs⟩ := paired_cut hM13 none (some 3)
      refine ⟨.ref U, rfl, .inl ⟨rfl, _, SqL.of eU⟩, .int (many : Int), rfl, .ref m, rfl, 3, rfl, m, ws, rfl, SqL.of hm13, fun c1 nc1 => ?_⟩
      refine ⟨v, rfl, onE, fun c2 nc2 => ⟨c1, c2, _, _, rfl, rfl, same_new nc2 _ _ upd_same, upd_same, ?_, fun c3 nc3 => ⟨two, fun c4 nc4 => ?_⟩⟩⟩
      · have := cutV_length ws none (some 3)
        exact Nat.le_trans (show (cutV ws none (some 3)).length + 1 ≤ 1000 by omega) (by decide)
      have t1 := (((same_new (o := .lst (cutV ws none (some 3))) nc1).trans (same_new (o := .lst [v]) nc2)).trans (same_new (o := .lst (cutV ws none (some 3) ++ [v])) nc3)).trans (same_new (o := .tup [.int (many : Int), .ref c3]) nc4)
      have eU3 := ((same_new (o := .lst (cutV ws none (some 3))) nc1).trans (same_new (o := .lst [v]) nc2)) _ _ eU
      have nc3U : c3 ≠ U := (ne_of_none eU3 nc3).symm
      have pb : BadAt (upd (upd (upd (upd H13 c1 (.lst (cutV ws none (some 3)))) c2 (.lst [v])) c3 (.lst (cutV ws none (some 3) ++ [v]))) c4 (.tup [.int (many : Int), .ref c3])) U (.ref c4) :=
        BadAt.mk (ms := cs ++ [mv]) nc4 nc3U upd_same (MovesAt.same (Same.tups (((same_new nc1).trans (same_new nc2)).trans (same_new nc3))) (paired_app hcs (.cons hmv .nil))) (.inr (.inr ⟨mv, List.mem_append.mpr (.inr List.mem_cons_self), hbad⟩)) (by omega) (by rw [List.length_append]; show cs.length + 1 ≤ 1000; omega)
      have eU14 := t1 _ _ eU
      have hD14 := hD13.same t1
      have aU14 := fun z hz => (aU z hz).gr hD13 (Gr.of_same t1)
      generalize upd (upd (upd (upd H13 c1 (.lst (cutV ws none (some 3)))) c2 (.lst [v])) c3 (.lst (cutV ws none (some 3) ++ [v]))) c4 (.tup [.int (many : Int), .ref c3]) = H14 at t1 pb eU14 hD14 aU14 ⊢
      have hi : i < 5 := by
        obtain ⟨h1, _⟩ := List.getElem?_eq_some_iff.mp hv
        exact h1
      refine ⟨U, _, _, rfl, rfl, eU14, by rw [lU]; exact Nat.lt_of_lt_of_le (show 5 + i < 20 by omega) (by decide), ?_⟩
      refine ⟨some v, rfl, hD14.turn hD nUH nUd, (g13.trans (Gr.of_same t1)).put nUH, fun b o nb e => by rw [upd_ne nb]; exact t1 _ _ (k13 b o nb e), ?_⟩
      exact Filled.more eU14 lU aU14 pb
    · rintro σ H13 ⟨y7, rfl, hD13, g13, k13, fill13⟩
      -- at = off(d, many)
      refine ⟨.ref d, rfl, .int (many : Int), rfl, d, l, ns, _, rfl, hD13, by omega, by omega, fun at' H14 hat hD14 o14 => ?_⟩
      have g14' : Gr d H13 H14 := (Gr.refl d H13).off o14
      have fill14 := fill13.gr hD13 nUd g14'
      have g14 := g13.trans g14'
      have hm14 := g14 _ _ nmd hm
      have hM14 := hM.same (g14.tups hD)
      have hr14 := g14.tups hD _ _ hr0
      have hat' : at' < many := by omega
      refine ⟨1, rfl, .int (many : Int), rfl, two, fun L2 nL2 => ?_⟩
      have z7 := same_new (o := .lst [.int (-1), .int (many : Int)]) nL2
      have nL2U : L2 ≠ U := by
        obtain ⟨us, eU, _⟩ := fill14
        exact (ne_of_none eU nL2).symm
      have hL2 : (upd H14 L2 (.lst [.int (-1), .int (many : Int)])) L2 = some (.lst [.int (-1), .int (many : Int)]) := upd_same
      have fill15 : Filled (upd H14 L2 (.lst [.int (-1), .int (many : Int)])) U 10 := fill14.gr hD14 nUd (Gr.of_same z7)
      have hD15 := hD14.same z7
      have g15 := g14.trans (Gr.of_same z7)
      have hm15 := z7 _ _ hm14
      have hM15 := hM14.same (Same.tups z7)
      have hr15 := z7 _ _ hr14
      generalize upd H14 L2 (.lst [.int (-1), .int (many : Int)]) = H15 at hL2 fill15 hD15 g15 hm15 hM15 hr15 ⊢
      refine ⟨L2, rfl, ⟨_, SqL.of hL2⟩, for_list (K := K) (a := L2) (xs := [.int (-1), .int (many : Int)]) (fun i σ H' => ∃ y9, σ = [some (.ref d), some (.ref t), some (.int (many : Int)), some (.ref m), some (.ref r0), some (.int (1 + (far : Int))), some (.ref U), y7, some (.int (at' : Int)), y9] ∧ Dc K l ns H' d ∧ Gr d H H' ∧ Gr U H15 H' ∧ Filled H' U (10 + i))
        ⟨none, rfl, hD15, g15, Gr.refl _ _, fill15⟩ (fun i σ H' _ ⟨_, _, _, _, g, _⟩ => SqL.of (g _ _ nL2U hL2)) ?_ ?_⟩
      · rintro i v σ H16 hv ⟨y9, rfl, hD16, g16, k16, vs, eU, lU, aU⟩
        obtain ⟨pl, ev, hpl⟩ : ∃ pl : Int, v = .int pl ∧ ¬ (0 ≤ pl ∧ pl < (many : Int)) := by
          have hm := List.mem_of_getElem? hv
          rcases List.mem_cons.mp hm with rfl | hm
          · exact ⟨-1, rfl, by omega⟩
          rcases List.mem_cons.mp hm with rfl | hm
          · exact ⟨(many : Int), rfl, by omega⟩
          · cases hm
        subst ev
        have hm16 := k16 _ _ nmU hm15
        have kt : ∀ b xs, H15 b = some (.tup xs) → H16 b = some (.tup xs) := fun b xs e => k16 b _ (fun z => by
          obtain ⟨us, eU2, _⟩ := fill15
          rw [z, eU2] at e
          cases e) e
        have hM16 := hM15.same kt
        have hr16 := kt _ _ hr15
        obtain ⟨cs, hcs, lcs⟩ := paired_cut hM16 none (some 3)
        have ec1 : cutV (m0.2.map V.int) none (some (at' : Int)) = (m0.2.take at').map V.int := by rw [cut_to _ at' (by rw [List.length_map]; omega), List.map_take]
        have ec2 : cutV (m0.2.map V.int) (some ((at' : Int) + 1)) none = (m0.2.drop (at' + 1)).map V.int := by
          rw [show ((at' : Int) + 1) = ((at' + 1 : Nat) : Int) by omega, cut_from _ (at' + 1) (by rw [List.length_map]; omega), List.map_drop]
        -- row[:at] + (place,) + row[at + 1:]
        refine ⟨.ref U, rfl, .inl ⟨rfl, _, SqL.of eU⟩, .int (many : Int), rfl, ?_⟩
        refine ⟨.ref r0, rfl, .int (at' : Int), rfl, (at' : Int), rfl, ?_⟩
        refine slA_of hr16 fun a1 H17 b1 ha1 => ?_
        rw [ec1] at ha1
        refine ⟨.int pl, rfl, onE, fun a2 na2 => ?_⟩
        refine catA_of ((same_new na2) _ _ ha1) upd_same (le1k (by rw [List.length_map, List.length_take]; simp only [List.length_cons, List.length_nil]; omega)) fun a3 H18 b3 ha3 => ?_
        have b18 := (b1.trans (same_new na2)).trans b3
        refine ⟨.ref r0, rfl, .int (at' : Int), rfl, _, _, rfl, rfl, (at' : Int) + 1, rfl, ?_⟩
        refine slA_no (b18 _ _ hr16) fun a4 H19 b4 ha4 => ?_
        rw [ec2] at ha4
        refine catA_of (b4 _ _ ha3) ha4 (le1k (by rw [List.length_append, List.length_map, List.length_map, List.length_take, List.length_drop]; simp only [List.length_cons, List.length_nil]; omega)) fun a5 H20 b5 ha5 => ?_
        have erow : (m0.2.take at').map V.int ++ [V.int pl] ++ (m0.2.drop (at' + 1)).map V.int = (m0.2.take at' ++ [pl] ++ m0.2.drop (at' + 1)).map V.int := by
          rw [List.map_append, List.map_append]
          rfl
        rw [erow] at ha5
        have b20 := (b18.trans b4).trans b5
        refine ⟨two, fun a6 na6 => ⟨onE, fun c2 nc2 => ⟨.ref m, rfl, 3, rfl, m, ws, rfl, SqL.of (same_new nc2 _ _ (same_new na6 _ _ (b20 _ _ hm16))), fun c1 nc1 => ?_⟩⟩⟩
        have hM20 := hM16.same (Same.tups b20)
        have hmv : MoveAt (upd H20 a6 (.tup [.int 1, .ref a5])) (.ref a6) (1, m0.2.take at' ++ [pl] ++ m0.2.drop (at' + 1)) := ⟨a6, a5, rfl, upd_same, same_new na6 _ _ ha5⟩
        have hbad : isMv (many : Int) (1, m0.2.take at' ++ [pl] ++ m0.2.drop (at' + 1)) = false := bad_p (z := pl) (List.mem_append.mpr (.inl (List.mem_append.mpr (.inr List.mem_cons_self)))) hpl
        refine ⟨c2, c1, _, _, rfl, rfl, same_new nc1 _ _ upd_same, upd_same, ?_, fun c3 nc3 => ⟨two, fun c4 nc4 => ?_⟩⟩
        · have := cutV_length ws none (some 3)
          exact le1k (show 1 + (cutV ws none (some 3)).length ≤ 1000 by omega)
        have t0 := (same_new (o := .lst [.ref a6]) nc2).trans (same_new (o := .lst (cutV ws none (some 3))) nc1)
        have t1 := (((b20.trans (same_new (o := .tup [.int 1, .ref a5]) na6)).trans t0).trans (same_new (o := .lst ([.ref a6] ++ cutV ws none (some 3))) nc3)).trans (same_new (o := .tup [.int (many : Int), .ref c3]) nc4)
        have nc3U : c3 ≠ U := (ne_of_none (((b20.trans (same_new (o := .tup [.int 1, .ref a5]) na6)).trans t0) _ _ eU) nc3).symm
        have k3 := t0.trans (same_new (o := .lst ([.ref a6] ++ cutV ws none (some 3))) nc3)
        have pb := BadAt.mk (many := (many : Int)) (U := U) (ms := [(1, m0.2.take at' ++ [pl] ++ m0.2.drop (at' + 1))] ++ cs) nc4 nc3U upd_same (MovesAt.same (Same.tups k3) (paired_app (.cons hmv .nil) (MovesAt.same (Same.tups (b20.trans (same_new (o := .tup [.int 1, .ref a5]) na6))) hcs))) (.inr (.inr ⟨_, List.mem_append.mpr (.inl List.mem_cons_self), hbad⟩)) (by omega) (by rw [List.length_append]; show 1 + cs.length ≤ 1000; omega)
        have eU14 := t1 _ _ eU
        have hD14 := hD16.same t1
        have aU14 := fun z hz => (aU z hz).gr hD16 (Gr.of_same t1)
        generalize upd (upd (upd (upd (upd H20 a6 (.tup [.int 1, .ref a5])) c2 (.lst [.ref a6])) c1 (.lst (cutV ws none (some 3)))) c3 (.lst ([.ref a6] ++ cutV ws none (some 3)))) c4 (.tup [.int (many : Int), .ref c3]) = H21 at t1 pb eU14 hD14 aU14 ⊢
        have hi : i < 2 := by
          obtain ⟨h1, _⟩ := List.getElem?_eq_some_iff.mp hv
          exact h1
        refine ⟨U, _, _, rfl, rfl, eU14, by rw [lU]; exact lt1k (by omega), ?_⟩
        refine ⟨some (.int pl), rfl, hD14.turn hD nUH nUd, (g16.trans (Gr.of_same t1)).put nUH, fun b o nb e => by rw [upd_ne nb]; exact t1 _ _ (k16 b o nb e), ?_⟩
        exact Filled.more eU14 lU aU14 pb
      · rintro σ H16 ⟨y9, rfl, hD16, g16, k16, fill16⟩
        refine ⟨.ref U, rfl, .ref d, rfl, d, l, ns, _, rfl, hD16, by decide, by decide, fun r H17 hr17 hD17 o17 => ?_⟩
        have g17' : Gr d H16 H17 := (Gr.refl d H16).off o17
        obtain ⟨vs, eU, lU, aU⟩ := fill16.gr hD16 nUd g17'
        have hr12 : r < vs.length := by
          rw [lU]
          show r < 12
          omega
        obtain ⟨t', m', many', ws', ms', ev, _, hz, hb, b1, b2⟩ := aU _ (List.getElem_mem hr12)
        refine ⟨U, _, _, _, rfl, rfl, SqL.of eU, atI_nat (List.getElem?_eq_getElem hr12), ?_⟩
        rw [ev]
        exact q t' m' many' ws' ms' H17 hz hb b1 b2 (g16.trans g17')
end
section
variable {P : Program} {w : World} {K : PySem.W.Frag} {mg : Str → Option Value} {base : Heap} {C : Addr}
theorem scLaw : FnScope ["_law_script", "_law_told", "_law_handed", "_law_chain_here", "_law_turn", "_law_found"] ["_law_script"] (defScope sLaw) := ⟨rfl, rfl, rfl, by decide +kernel, rfl, by decide +kernel, by decide +kernel⟩
theorem ok_law {f fc fd' fo fh fW fR cM tM fI fM fP fT : Addr} {fd fdc fdd fdo fdh fdW fdR fdI fdM fdP fdT : FuncData} (F : Fun K "law" "law" sLaw f fd) (T : LawTxt K mg fc fd' fo fdc fdd fdo) (Dh : Df K mg "_law_chain" sChain ["_law_d", "_law_most"] fh fdh)
    (DW : Df K mg "_law_wrong" sLawWrong ["_law_d", "_law_told"] fW fdW) (DR : Df K mg "_law_refused" sLawRefused ["_law_told"] fR fdR) (CH : ChTxt K mg fM cM tM fdM C fI fdI) (CM : ChM K C fP fT fdP fdT) (TB : GxR.TabB base mg cM tM)
    (GR : FnOk P w K mg base CX0 5 fR fdR ["_law_told"] (spRf tM)) (mL : mg "list" = none) (mI : mg "isinstance" = none) : FnOk P w K mg base CX0 6 f fd ["_law_script"] (spLaw K tM) := by
  have GD' : FnOk P w K mg base CX0 2 fd' fdd ["_law_script", "_law_k"] (spDice K) := T.dice
  have GH : FnOk P w K mg base CX0 3 fh fdh ["_law_d", "_law_most"] (spChain K) := ok_chain Dh.F T
  have GW : FnOk P w K mg base CX0 3 fW fdW ["_law_d", "_law_told"] (spWr K) := ok_wrong DW.F T
  have GI : FnOk P w K mg base CX0 2 fI fdI ["self", "many", "moves"] (spInitG C tM) := ok_initG CH TB
  have GT : FnOk P w K mg base CX0 1 fT fdT ["self"] (spTold C) := ok_told CM.FT CM.cl CM.nV mL
  have GP : FnOk P w K mg base CX0 1 fP fdP ["self"] (spPlaces C) := ok_places CM.FP CM.cl CM.nM
  refine F.ok scLaw (fun vs H Q E h => ?_) (fun cdv A outer s H vs Q E hr h => ?_)
  · obtain ⟨a, ns, rfl, _⟩ := h
    rfl
  · obtain ⟨a, ns, rfl, hS, hl, hTab, q⟩ := h
    have hu := hu64 hr
    have r1 : Room 1 _ := hr.mono (by decide)
    have r2 : Room 2 _ := hr.mono (by decide)
    have r3 : Room 3 _ := hr.mono (by decide)
    refine ⟨_, (pss_cons (ps_set (i := 1) scLaw.nd rfl (.inl rfl) (pe_call GH r3 (by rfl) Dh.g Dh.F.kp Dh.b .nil pass0 (pa_cons (pe_call GD' r2 (by rfl) T.gD T.FD.kp T.bD .nil pass0 (pa_cons (pv 0) (pa_cons pe_int pa_nil))) (pa_cons pe_int pa_nil))))
      (pss_cons (ps_set (i := 2) scLaw.nd rfl (.inl rfl) (pe_callTy call_list_of (by rfl) mL (by decide +kernel) (pa_cons (pe_ix ix_tup (pv 1) pe_int (fun _ _ => rfl)) pa_nil)))
      (pss_cons (ps_set (i := 3) scLaw.nd rfl (.inl rfl) (pe_make CH.mC GI r3 (by rfl) CH.gC CH.bI .nil pass0 (pa_cons (pe_ix ix_tup (pv 1) pe_int (fun _ _ => rfl)) (pa_cons (pv 2) pa_nil))))
      (pss_cons (ps_expr (pe_bm PySem.F.plainAttrs_list PySem.F.slot_list_append PySem.F.type_list_append mt_append (pv 2) (pa_cons (pe_tup (pa_cons pe_int (pa_cons (pe_tup pa_nil) pa_nil))) pa_nil)))
      (pss_cons (ps_for PassesOwn.never rfl (pi_range1 (by rfl) T.mr (pa_cons pe_int pa_nil)) (pg_name (i := 4) scLaw.nd rfl (.inl rfl)) (pss_cons (ps_set (i := 5) scLaw.nd rfl (.inl rfl) (pe_meth0 (pv 3) CM.cl CM.hT GT r1 CM.bT .nil pass0))
      (pss_cons (ps_if (PW.pt (pw_or (pt_not (pt_val (pe_callB RZ.call_isTy (by rfl) mI (by decide +kernel) (pa_cons (pv 5) (pa_cons (pe_bltn (v := .ty "list") (by rfl) mL (by decide +kernel) rfl) pa_nil))))) (pw_or (pt_cmpR (op_neD hu) (pv 5) (pe_ix ix_tup (pv 1) pe_int (fun _ _ => rfl)) (nomark _)) (pw_or1 (pt_cmpR op_ne (pe_meth0 (pv 3) CM.cl CM.hP GP r1 CM.bP .nil pass0) (pe_ix ix_tup (pv 1) pe_int (fun _ _ => rfl)) (nomark _)))))) (pss_one (ps_ret pe_bl)) pss_nil)
      (pss_one (ps_expr (pe_bm PySem.F.plainAttrs_list PySem.F.slot_list_append PySem.F.type_list_append mt_append (pv 5) (pa_cons pe_int pa_nil)))))))
      (pss_cons (ps_if (pt_cmpR op_ne (pe_meth0 (pe_make CH.mC GI r3 (by rfl) CH.gC CH.bI .nil pass0 (pa_cons pe_int (pa_cons (pe_op op_rep (pe_lst (pa_cons (pe_tup (pa_cons pe_int (pa_cons (pe_op op_repT (pe_tup (pa_cons pe_int pa_nil)) pe_int) pa_nil))) pa_nil)) pe_int) pa_nil))) CM.cl CM.hP GP r1 CM.bP .nil pass0) pe_int (nomark _)) (pss_one (ps_ret pe_bl)) pss_nil)
      (pss_one (ps_ret (pe_call GR hr (by rfl) DR.g DR.F.kp DR.b .nil pass0 (pa_cons (pe_call GW r3 (by rfl) DW.g DW.F.kp DW.b .nil pass0 (pa_cons (pe_call GD' r2 (by rfl) T.gD T.FD.kp T.bD .nil pass0 (pa_cons (pv 0) (pa_cons pe_int pa_nil))) (pa_cons (pv 1) pa_nil))) pa_nil)))))))))), ?_⟩
    -- told
    refine ⟨.ref a, rfl, a, ns, 0, rfl, hS, hl, by decide, fun H1 d1 s1 nd1 hD1 => ?_⟩
    refine ⟨d1, a, ns, 6, rfl, hD1, by decide, by decide, fun t m many ws ms H2 G _ hT hD2 g2 => ?_⟩
    have hP2 := tab_gr hD1 g2 (tab_same s1 hTab)
    -- handed
    refine ⟨.ref t, rfl, t, _, 1, _, rfl, rfl, SqT.of hT.1, atI_nat (j := 1) rfl, m, ws, rfl, .inl (SqL.of hT.2.1), fun l nl => ?_⟩
    have s3 := same_new (o := .lst ws) nl
    have hT3 := hT.same s3
    have hD3 := hD2.same s3
    have hP3 := tab_same s3 hP2
    have hl3 : (upd H2 l (.lst ws)) l = some (.lst ws) := upd_same
    have nml : m ≠ l := ne_of_none hT.2.1 nl
    generalize upd H2 l (.lst ws) = H3 at hT3 hD3 hP3 hl3 s3 ⊢
    -- the chain
    refine ⟨.ref t, rfl, t, _, 0, _, rfl, rfl, SqT.of hT3.1, atI_nat (j := 0) rfl, .ref l, rfl, fun x dx nx ndx nxd => ?_⟩
    have s4 : Same H3 (upd H3 dx (.own x)) := same_new ndx
    have nx' : (upd H3 dx (.own x)) x = none := by
      rw [upd_ne (Ne.symm nxd)]
      exact nx
    have s5 := s4.trans (same_new (o := .ins C dx []) nx')
    refine ⟨x, dx, l, many, ws, ms, rfl, upd_same, s5 _ _ hl3, hT3.2.2.same (Same.tups s5), G, tab_same s5 hP3, fun H4 hc g4 hP4 => ⟨rfl, ?_⟩⟩
    have s34 : Gr tM H3 H4 := fun b o nb e => g4 b o (ne_of_none e nx) nb (s5 _ _ e)
    have hT4 := hT3.tab hP3 s34
    have hD4 := hD3.tabT hP3 s34
    have hl4 : H4 l = some (.lst ws) := s34.tab hP3 (fun _ z => nomatch z) hl3
    obtain ⟨dx2, a2, ws2, hx2, ha2, hM2, na2⟩ := hc
    have nal : a2 ≠ l := fun z => by
      rw [z, s5 _ _ hl3] at na2
      cases na2
    have nld : l ≠ d1 := hD4.ne_of hl4 (moves_no_dl (hT4.2.2))
    -- handed.append((0, ()))
    refine ⟨.ref l, rfl, .inl ⟨rfl, _, SqL.of hl4⟩, (Nat.zero_le _), fun e1 ne1 => ⟨(by show 2 ≤ sizeLine; decide), fun e2 ne2 => ?_⟩⟩
    have s6 := (same_new (o := .tup []) ne1).trans (same_new (o := .tup [.int 0, .ref e1]) ne2)
    have lenW := hT4.2.2.length
    have G8 := G.l8
    have m6 := G.m6
    refine ⟨l, _, _, rfl, rfl, s6 _ _ hl4, by rw [lenW]; exact small8 G8, ?_⟩
    have k7 : Gr l H4 (upd (upd (upd H4 e1 (.tup [])) e2 (.tup [.int 0, .ref e1])) l (.lst (ws ++ [.ref e2]))) := fun b o nb e => by
      rw [upd_ne nb]
      exact s6 _ _ e
    have nln : ∀ {b xs}, H4 b = some (.tup xs) → b ≠ l := fun e z => by
      rw [z, hl4] at e
      cases e
    have hT7 : ToldAt (upd (upd (upd H4 e1 (.tup [])) e2 (.tup [.int 0, .ref e1])) l (.lst (ws ++ [.ref e2]))) t m many ws ms := ⟨k7 _ _ (nln hT4.1) hT4.1, k7 _ _ nml hT4.2.1, hT4.2.2.same fun b xs e => k7 _ _ (nln e) e⟩
    have hC7 : ChainAt C (upd (upd (upd H4 e1 (.tup [])) e2 (.tup [.int 0, .ref e1])) l (.lst (ws ++ [.ref e2]))) x many ms := ⟨dx2, a2, ws2, k7 _ _ (fun z => by rw [z, hl4] at hx2; cases hx2) hx2, k7 _ _ nal ha2, hM2.same fun b xs e => k7 _ _ (nln e) e⟩
    have hP7 : GxR.TabG (upd (upd (upd H4 e1 (.tup [])) e2 (.tup [.int 0, .ref e1])) l (.lst (ws ++ [.ref e2]))) tM := by
      obtain ⟨ps, e, tr⟩ := hP4
      exact ⟨ps, k7 _ _ (fun z => by rw [z, hl4] at e; cases e) e, tr⟩
    have hS7 : SqL K (upd (upd (upd H4 e1 (.tup [])) e2 (.tup [.int 0, .ref e1])) l (.lst (ws ++ [.ref e2]))) a (ns.map V.int) := ((hD4.same s6).turn hD2 nl nld).seq
    generalize upd (upd (upd H4 e1 (.tup [])) e2 (.tup [.int 0, .ref e1])) l (.lst (ws ++ [.ref e2])) = H7 at hT7 hC7 hP7 hS7 ⊢
    -- the two turns
    refine ⟨2, rfl, by decide, by decide, for_range (lo := 0) (n := 2) (fun i σ H' => ∃ y4 y5, σ = [some (.ref a), some (.ref t), some (.ref l), some (.ref x), y4, y5] ∧ Same H7 H') ⟨none, none, rfl, Same.refl _⟩ ?_ ?_⟩
    · rintro i σ H8 hi ⟨y4, y5, rfl, s8⟩
      have hT8 := hT7.same s8
      have hC8 := hC7.same s8
      obtain ⟨dx3, a3, ws3, hx3, ha3, hM3⟩ := id hC8
      refine ⟨.ref x, rfl, x, dx3, _, rfl, hx3, ch_noT, x, many, ms, rfl, hC8, fun l2 w2 nl2 hM9 => ?_⟩
      have s9 := same_new (o := .lst w2) nl2
      have hT9 := hT8.same s9
      have hC9 := hC8.same s9
      have hl2 : (upd H8 l2 (.lst w2)) l2 = some (.lst w2) := upd_same
      have nl7 := s8.free nl2
      have s89 := s8.trans s9
      generalize upd H8 l2 (.lst w2) = H9 at hT9 hC9 hl2 hM9 s89 ⊢
      obtain ⟨dx3, a3, ws3, hx3, ha3, hM3⟩ := id hC9
      refine ⟨.ref l2, rfl, .ref l2, "list", rfl, .lst hl2, true, rfl, ?_⟩
      refine ⟨.ref l2, rfl, .ref t, rfl, t, _, 1, _, rfl, rfl, SqT.of hT9.1, atI_nat (j := 1) rfl, ?_⟩
      refine ne_same (dp_mvs hl2 hM9) (dp_mvs hT9.2.1 hT9.2.2) (Sh.mvs ms) (by decide) ⟨false, rfl, ?_⟩
      refine ⟨.ref x, rfl, x, dx3, _, rfl, hx3, ch_no, x, many, ms, rfl, hC9, .ref t, rfl, t, _, 0, _, rfl, rfl, SqT.of hT9.1, atI_nat (j := 0) rfl, rfl, _, rfl, iteNS rfl ?_⟩
      have lenW2 := hM9.length
      refine ⟨.ref l2, rfl, .inl ⟨rfl, _, SqL.of hl2⟩, l2, _, _, rfl, rfl, hl2, by rw [lenW2]; exact small8 G8, ?_⟩
      exact ⟨_, _, rfl, Same.put s89 nl7⟩
    · rintro σ H8 ⟨y4, y5, rfl, s8⟩
      have hT8 := hT7.same s8
      have hP8 := tab_same s8 hP7
      have hS8 := s8.seq hS7
      have e6 : (List.replicate (Int.toNat 6) [V.int 5]).flatten = (List.replicate 6 (5 : Int)).map V.int := rfl
      have g6 : Good 6 (List.replicate 8 ((99 : Int), List.replicate 6 (5 : Int))) := ⟨by decide, by decide, by rw [List.length_replicate]; decide, by rw [List.length_replicate]; decide, fun mv hmv => by
        rw [List.eq_of_mem_replicate hmv]
        refine ⟨by decide, by decide, rfl, fun z hz => ?_⟩
        rw [List.eq_of_mem_replicate hz]
        decide⟩
      refine ⟨(by decide), fun q1 nq1 => ⟨q1, 6, [.int 5], rfl, rfl, SqT.of upd_same, by simp, by decide, by decide, by decide, fun q2 nq2 => ⟨(by show 2 ≤ sizeLine; decide), fun q3 nq3 => ⟨(by show 1 ≤ sizeLine; decide), fun q4 nq4 => ⟨q4, 8, _, rfl, rfl, upd_same, by decide, by decide, (by show 1 * (8 : Int).toNat ≤ sizeLine; decide), fun q5 nq5 => fun x2 dx2 nx2 ndx2 nxd2 => ?_⟩⟩⟩⟩⟩
      rw [e6] at nq3 nq4 nq5 nx2 ndx2 ⊢
      have s9 := (((same_new (o := .tup [.int 5]) nq1).trans (same_new (o := .tup ((List.replicate 6 (5 : Int)).map V.int)) nq2)).trans (same_new (o := .tup [.int 99, .ref q2]) nq3)).trans (same_new (o := .lst [.ref q3]) nq4)
      have s10 := same_new (o := .lst (List.replicate (Int.toNat 8) [V.ref q3]).flatten) nq5
      have mv3 : MoveAt (upd (upd (upd (upd H8 q1 (.tup [.int 5])) q2 (.tup ((List.replicate 6 (5 : Int)).map V.int))) q3 (.tup [.int 99, .ref q2])) q4 (.lst [.ref q3])) (.ref q3) ((99 : Int), List.replicate 6 (5 : Int)) := ⟨q3, q2, rfl, same_new nq4 _ _ upd_same, ((same_new nq3).trans (same_new nq4)) _ _ upd_same⟩
      generalize upd (upd (upd (upd H8 q1 (.tup [.int 5])) q2 (.tup ((List.replicate 6 (5 : Int)).map V.int))) q3 (.tup [.int 99, .ref q2])) q4 (.lst [.ref q3]) = H9 at s9 s10 mv3 nq5 nx2 ndx2 ⊢
      have s11 := s10.trans (same_new (o := .own x2) ndx2)
      have nx2' : (upd (upd H9 q5 (.lst (List.replicate (Int.toNat 8) [V.ref q3]).flatten)) dx2 (.own x2)) x2 = none := by
        rw [upd_ne (Ne.symm nxd2)]
        exact nx2
      have s12 := s11.trans (same_new (o := .ins C dx2 []) nx2')
      have s812 := s9.trans s12
      refine ⟨x2, dx2, q5, 6, _, _, rfl, upd_same, ((same_new ndx2).trans (same_new nx2')) _ _ upd_same, L2.Paired.mapP (paired_rep mv3 8) fun _ _ h => h.same (Same.tups s12), g6, tab_same s812 hP8, fun H10 hc10 g10 hP10 => ⟨rfl, ?_⟩⟩
      have k10 : Gr tM H8 H10 := fun b o nb e => g10 b o (ne_of_none ((s9.trans s10) _ _ e) nx2) nb (s812 _ _ e)
      have hC10 := hc10.at
      obtain ⟨dx3, a3, ws3, hx3, ha3, hM3⟩ := id hC10
      refine ⟨x2, dx3, _, rfl, hx3, ch_no, x2, 6, _, rfl, hC10, rfl, _, rfl, iteNS rfl ?_⟩
      have hT10 := hT8.tab hP8 k10
      have hS10 : SqL K H10 a (ns.map V.int) := by
        rcases hS8 with (h | ⟨o, h⟩) | h
        · exact .inl (.inl (k10.tab hP8 (fun _ z => nomatch z) h))
        · exact .inl (.inr ⟨o, k10.tab hP8 (fun _ z => nomatch z) h⟩)
        · exact .inr h
      -- the wrong one
      refine ⟨.ref a, rfl, a, ns, 1, rfl, hS10, hl, by decide, fun H11 d s11 nd hD11 => ?_⟩
      have hT11 := hT10.same s11
      refine ⟨.ref t, rfl, d, a, t, m, ns, many, ws, ms, rfl, hD11, hT11, G, fun t' m' many' ws' ms' H12 hz hb b1 b2 g12 => ?_⟩
      exact ⟨t', m', many', ws', ms', rfl, hz, hb, b1, b2, tab_gr hD11 g12 (tab_same s11 hP10), fun H' => q H'⟩
end
/-! ### the end: the table of the generator's def -/
def TabOf (nm : Str) (mg : Str → Option Value) (h : Heap) : Prop := ∃ (a' : Addr) (o' : Obj) (fd' : FuncData) (c' P' : Addr) (oc : Obj) (vc : Array Value), mg nm = some (.ref a') ∧ h.get? a' = some o' ∧ o'.data = .func fd' ∧ fd'.code = .ref c' ∧
  h.get? c' = some oc ∧ oc.data = .fields vc ∧ vc[11]? = some (.ref P') ∧ h.get? P' = some { cls := .none, data := .fields #[] }
theorem walk_tab {l : PySem.W.OpenLaw} {n k : Nat} {q : Program} {loose : List Str} {XP : (Str → Option Value) → Heap → Prop} {YP : World → Heap → Prop} {d : DefRec} {K : Params → PySem.W.Frag} {CX : World → CXT} {x : Str} (nm : Str)
    (hn : l.most = some n) (hn2 : n ≤ sizeLine) (hdf : d.params.defaults = []) (hr : Room k callerA) (hrec : ((recsOf q).any fun e => e.name == nm) = true) (hY : ∀ (w : World) (h : Heap), YP w h → (K w.params).In h)
    (F : ∀ (w : World) (mg : Str → Option Value) (fa : Addr) (h : Heap), (K w.params).In h → h.Ns mainGlobals mg → mg d.name = some (.ref fa) → TabOf nm mg h → LamX.LawAtS l w (K w.params) (CX w) k n x mg fa h)
    (hCX : ∀ (w : World) (H : Hp) (s : Shared) (e : Value) (s' : Shared), CX w [] H s (fun _ _ _ => False) e s' → False) :
    PySem.W.WalkO q loose XP YP l.row.toRowW d [] (fun f vs => PySem.call f vs) := by
  refine Att.attach_callB hn hdf fun w s₀ s₁ mg mb fa o pm cd doc a vs ns G Y ho hd hcd hmg hobj hints hlen hbits hg => ?_
  obtain ⟨dL, m1, m2⟩ := List.any_eq_true.mp hrec
  obtain ⟨a', o', fd', c', P', g1, g2, g3, g4, _, ⟨oc, vc, e1, e2, e3, e4⟩, e5⟩ := G.T.tab dL m1
  rw [beq_iff_eq.mp m2] at g1
  have TO : TabOf nm mg s₁.heap := ⟨a', o', fd', c', P', oc, vc, g1, g2, g3, g4, e1, e3, e4, e5⟩
  obtain ⟨fd, cs, sp, hT, nT, Cd, hb, hsp, hF⟩ := F w mg fa _ (hY w _ Y) G.T.g hmg TO
  exact LamX.law_callTs (hY w _ Y) G.T.g G.T.b G.T.builtins G.T.nolimit hg hT nT Cd G.T.bmain hobj hints (Nat.le_trans hlen hn2) hr hF hb (fun H hH hS => hsp H a ns hlen hbits hH hS) fun H e s' => hCX w H s₁ e s'
/-! ### what the top has written -/
set_option maxHeartbeats 0 in
theorem all_mk {l : PySem.W.OpenLaw} {w : World} {K : PySem.W.Frag} {h : Heap} {mg : Str → Option Value} {fa : Addr} (X : K.In h) (G : h.Ns mainGlobals mg) (hfa : mg "law" = some (.ref fa)) (TO_is_move : TabOf "_is_move" mg h)
    {f_is_move : Addr} {od_is_move an_is_move : Option Addr} {sl_is_move : Array (Option Value)} {oc_is_move kV_is_move dc_is_move pm_is_move ct_is_move : Value}
    {cM_is_move tM_is_move : Addr} {eM_is_move : Value} {ddM_is_move : Option Addr} {vsM_is_move : Array Value} {slM_is_move : Array (Option Value)}
    {f_law_cell : Addr} {od_law_cell an_law_cell : Option Addr} {sl_law_cell : Array (Option Value)} {oc_law_cell kV_law_cell dc_law_cell pm_law_cell ct_law_cell cd_law_cell : Value}
    {f_law_dice : Addr} {od_law_dice an_law_dice : Option Addr} {sl_law_dice : Array (Option Value)} {oc_law_dice kV_law_dice dc_law_dice pm_law_dice ct_law_dice cd_law_dice : Value}
    {f_law_off : Addr} {od_law_off an_law_off : Option Addr} {sl_law_off : Array (Option Value)} {oc_law_off kV_law_off dc_law_off pm_law_off ct_law_off cd_law_off : Value}
    {f_law_chain : Addr} {od_law_chain an_law_chain : Option Addr} {sl_law_chain : Array (Option Value)} {oc_law_chain kV_law_chain dc_law_chain pm_law_chain ct_law_chain cd_law_chain : Value}
    {f_law_made : Addr} {od_law_made an_law_made : Option Addr} {sl_law_made : Array (Option Value)} {oc_law_made kV_law_made dc_law_made pm_law_made ct_law_made cd_law_made : Value}
    {f_law_wrong : Addr} {od_law_wrong an_law_wrong : Option Addr} {sl_law_wrong : Array (Option Value)} {oc_law_wrong kV_law_wrong dc_law_wrong pm_law_wrong ct_law_wrong cd_law_wrong : Value}
    {f_law_refused : Addr} {od_law_refused an_law_refused : Option Addr} {sl_law_refused : Array (Option Value)} {oc_law_refused kV_law_refused dc_law_refused pm_law_refused ct_law_refused cd_law_refused : Value}
    {f_law : Addr} {od_law an_law : Option Addr} {sl_law : Array (Option Value)} {oc_law kV_law dc_law pm_law ct_law cd_law : Value}
    {C : Addr}
    {f_minit : Addr} {od_minit an_minit : Option Addr} {sl_minit : Array (Option Value)} {oc_minit kV_minit dc_minit pm_minit cd_minit ct_minit : Value}
    {f_mplaces : Addr} {od_mplaces an_mplaces : Option Addr} {sl_mplaces : Array (Option Value)} {oc_mplaces kV_mplaces dc_mplaces pm_mplaces cd_mplaces ct_mplaces : Value}
    {f_mtold : Addr} {od_mtold an_mtold : Option Addr} {sl_mtold : Array (Option Value)} {oc_mtold kV_mtold dc_mtold pm_mtold cd_mtold ct_mtold : Value}
    {tMOST_PLACES : Tok}
    {tMOST_MOVES : Tok}
    {tMOST_WEIGHT : Tok}
    {ALongError : Addr}
    {ABadChain : Addr}
    {ABadText : Addr}
    {ANoSuch : Addr}
    {ANotOne : Addr}
    {ANeverOne : Addr}
    {ANotOrdered : Addr}
    {ATooMany : Addr}
    (a_is_move : PySem.W.nsIn K mainGlobals "_is_move" = some (some (.ref f_is_move)))
    (l_is_move : K.lookup f_is_move = some ⟨oc_is_move, od_is_move, .func (PySem.W.fnOf "_is_move" "_is_move" (defArgs sIsMove) (defBody sIsMove) (defScope sIsMove) .none kV_is_move dc_is_move pm_is_move an_is_move (.ref cM_is_move) ct_is_move), sl_is_move⟩)
    (c_is_move : PySem.W.codeIn K (.ref cM_is_move) "_is_move" = true)
    (k_is_move : PySem.W.keepIn K (.ref f_is_move) = true)
    (a_law_cell : PySem.W.nsIn K mainGlobals "_law_cell" = some (some (.ref f_law_cell)))
    (l_law_cell : K.lookup f_law_cell = some ⟨oc_law_cell, od_law_cell, .func (PySem.W.fnOf "_law_cell" "_law_cell" (defArgs sCell) (defBody sCell) (defScope sCell) .none kV_law_cell dc_law_cell pm_law_cell an_law_cell cd_law_cell ct_law_cell), sl_law_cell⟩)
    (c_law_cell : PySem.W.codeIn K cd_law_cell "_law_cell" = true)
    (k_law_cell : PySem.W.keepIn K (.ref f_law_cell) = true)
    (a_law_dice : PySem.W.nsIn K mainGlobals "_law_dice" = some (some (.ref f_law_dice)))
    (l_law_dice : K.lookup f_law_dice = some ⟨oc_law_dice, od_law_dice, .func (PySem.W.fnOf "_law_dice" "_law_dice" (defArgs sDice) (defBody sDice) (defScope sDice) .none kV_law_dice dc_law_dice pm_law_dice an_law_dice cd_law_dice ct_law_dice), sl_law_dice⟩)
    (c_law_dice : PySem.W.codeIn K cd_law_dice "_law_dice" = true)
    (k_law_dice : PySem.W.keepIn K (.ref f_law_dice) = true)
    (a_law_off : PySem.W.nsIn K mainGlobals "_law_off" = some (some (.ref f_law_off)))
    (l_law_off : K.lookup f_law_off = some ⟨oc_law_off, od_law_off, .func (PySem.W.fnOf "_law_off" "_law_off" (defArgs sOff) (defBody sOff) (defScope sOff) .none kV_law_off dc_law_off pm_law_off an_law_off cd_law_off ct_law_off), sl_law_off⟩)
    (c_law_off : PySem.W.codeIn K cd_law_off "_law_off" = true)
    (k_law_off : PySem.W.keepIn K (.ref f_law_off) = true)
    (a_law_chain : PySem.W.nsIn K mainGlobals "_law_chain" = some (some (.ref f_law_chain)))
    (l_law_chain : K.lookup f_law_chain = some ⟨oc_law_chain, od_law_chain, .func (PySem.W.fnOf "_law_chain" "_law_chain" (defArgs sChain) (defBody sChain) (defScope sChain) .none kV_law_chain dc_law_chain pm_law_chain an_law_chain cd_law_chain ct_law_chain), sl_law_chain⟩)
    (c_law_chain : PySem.W.codeIn K cd_law_chain "_law_chain" = true)
    (k_law_chain : PySem.W.keepIn K (.ref f_law_chain) = true)
    (a_law_made : PySem.W.nsIn K mainGlobals "_law_made" = some (some (.ref f_law_made)))
    (l_law_made : K.lookup f_law_made = some ⟨oc_law_made, od_law_made, .func (PySem.W.fnOf "_law_made" "_law_made" (defArgs sMade) (defBody sMade) (defScope sMade) .none kV_law_made dc_law_made pm_law_made an_law_made cd_law_made ct_law_made), sl_law_made⟩)
    (c_law_made : PySem.W.codeIn K cd_law_made "_law_made" = true)
    (k_law_made : PySem.W.keepIn K (.ref f_law_made) = true)
    (a_law_wrong : PySem.W.nsIn K mainGlobals "_law_wrong" = some (some (.ref f_law_wrong)))
    (l_law_wrong : K.lookup f_law_wrong = some ⟨oc_law_wrong, od_law_wrong, .func (PySem.W.fnOf "_law_wrong" "_law_wrong" (defArgs sLawWrong) (defBody sLawWrong) (defScope sLawWrong) .none kV_law_wrong dc_law_wrong pm_law_wrong an_law_wrong cd_law_wrong ct_law_wrong), sl_law_wrong⟩)
    (c_law_wrong : PySem.W.codeIn K cd_law_wrong "_law_wrong" = true)
    (k_law_wrong : PySem.W.keepIn K (.ref f_law_wrong) = true)
    (a_law_refused : PySem.W.nsIn K mainGlobals "_law_refused" = some (some (.ref f_law_refused)))
    (l_law_refused : K.lookup f_law_refused = some ⟨oc_law_refused, od_law_refused, .func (PySem.W.fnOf "_law_refused" "_law_refused" (defArgs sLawRefused) (defBody sLawRefused) (defScope sLawRefused) .none kV_law_refused dc_law_refused pm_law_refused an_law_refused cd_law_refused ct_law_refused), sl_law_refused⟩)
    (c_law_refused : PySem.W.codeIn K cd_law_refused "_law_refused" = true)
    (k_law_refused : PySem.W.keepIn K (.ref f_law_refused) = true)
    (a_law : PySem.W.nsIn K mainGlobals "law" = some (some (.ref f_law)))
    (l_law : K.lookup f_law = some ⟨oc_law, od_law, .func (PySem.W.fnOf "law" "law" (defArgs sLaw) (defBody sLaw) (defScope sLaw) .none kV_law dc_law pm_law an_law cd_law ct_law), sl_law⟩)
    (c_law : PySem.W.codeIn K cd_law "law" = true)
    (k_law : PySem.W.keepIn K (.ref f_law) = true)
    (aC : PySem.W.nsIn K mainGlobals "Chain" = some (some (.ref C)))
    (a_minit : PySem.W.findIn K (.ref C) "__init__" = some (some (.ref f_minit)))
    (i_minit : PySem.W.isFn K (.ref f_minit) = true)
    (l_minit : K.lookup f_minit = some ⟨oc_minit, od_minit, .func (PySem.W.fnOf "__init__" "Chain.__init__" (defArgs (inClass cChain 0)) (defBody (inClass cChain 0)) (defScope (inClass cChain 0)) .none kV_minit dc_minit pm_minit an_minit cd_minit ct_minit), sl_minit⟩)
    (c_minit : PySem.W.codeIn K cd_minit "Chain.__init__" = true)
    (k_minit : PySem.W.keepIn K (.ref f_minit) = true)
    (a_mplaces : PySem.W.findIn K (.ref C) "places" = some (some (.ref f_mplaces)))
    (i_mplaces : PySem.W.isFn K (.ref f_mplaces) = true)
    (l_mplaces : K.lookup f_mplaces = some ⟨oc_mplaces, od_mplaces, .func (PySem.W.fnOf "places" "Chain.places" (defArgs (inClass cChain 1)) (defBody (inClass cChain 1)) (defScope (inClass cChain 1)) .none kV_mplaces dc_mplaces pm_mplaces an_mplaces cd_mplaces ct_mplaces), sl_mplaces⟩)
    (c_mplaces : PySem.W.codeIn K cd_mplaces "Chain.places" = true)
    (k_mplaces : PySem.W.keepIn K (.ref f_mplaces) = true)
    (a_mtold : PySem.W.findIn K (.ref C) "told" = some (some (.ref f_mtold)))
    (i_mtold : PySem.W.isFn K (.ref f_mtold) = true)
    (l_mtold : K.lookup f_mtold = some ⟨oc_mtold, od_mtold, .func (PySem.W.fnOf "told" "Chain.told" (defArgs (inClass cChain 2)) (defBody (inClass cChain 2)) (defScope (inClass cChain 2)) .none kV_mtold dc_mtold pm_mtold an_mtold cd_mtold ct_mtold), sl_mtold⟩)
    (c_mtold : PySem.W.codeIn K cd_mtold "Chain.told" = true)
    (k_mtold : PySem.W.keepIn K (.ref f_mtold) = true)
    (pg : PySem.W.plainGet K C Str.empty = true)
    (hd : PySem.W.hasDictIn K C = true)
    (po : PySem.W.plainOver K C = true)
    (sa : PySem.W.findIn K (.ref C) "__setattr__" = some (some (.builtin "object.__setattr__")))
    (mk : PySem.W.makesIn K C = true)
    (kc : PySem.W.keepIn K (.ref C) = true)
    (nM : PySem.W.findIn K (.ref C) "_many" = some none)
    (nV : PySem.W.findIn K (.ref C) "_moves" = some none)
    (gMOST_PLACES : PySem.W.nsIn K mainGlobals "MOST_PLACES" = some (some (.int 6 tMOST_PLACES)))
    (gMOST_MOVES : PySem.W.nsIn K mainGlobals "MOST_MOVES" = some (some (.int 8 tMOST_MOVES)))
    (gMOST_WEIGHT : PySem.W.nsIn K mainGlobals "MOST_WEIGHT" = some (some (.int 99 tMOST_WEIGHT)))
    (zlen : PySem.W.nsIn K mainGlobals "len" = some none)
    (zabs : PySem.W.nsIn K mainGlobals "abs" = some none)
    (zmax : PySem.W.nsIn K mainGlobals "max" = some none)
    (zmin : PySem.W.nsIn K mainGlobals "min" = some none)
    (zint : PySem.W.nsIn K mainGlobals "int" = some none)
    (zrange : PySem.W.nsIn K mainGlobals "range" = some none)
    (zsorted : PySem.W.nsIn K mainGlobals "sorted" = some none)
    (ztuple : PySem.W.nsIn K mainGlobals "tuple" = some none)
    (zisinstance : PySem.W.nsIn K mainGlobals "isinstance" = some none)
    (zall : PySem.W.nsIn K mainGlobals "all" = some none)
    (zenumerate : PySem.W.nsIn K mainGlobals "enumerate" = some none)
    (zlist : PySem.W.nsIn K mainGlobals "list" = some none)
    (zValueError : PySem.W.nsIn K mainGlobals "ValueError" = some none)
    (eLongError : PySem.W.nsIn K mainGlobals "LongError" = some (some (.ref ALongError)))
    (eBadChain : PySem.W.nsIn K mainGlobals "BadChain" = some (some (.ref ABadChain)))
    (eBadText : PySem.W.nsIn K mainGlobals "BadText" = some (some (.ref ABadText)))
    (eNoSuch : PySem.W.nsIn K mainGlobals "NoSuch" = some (some (.ref ANoSuch)))
    (eNotOne : PySem.W.nsIn K mainGlobals "NotOne" = some (some (.ref ANotOne)))
    (eNeverOne : PySem.W.nsIn K mainGlobals "NeverOne" = some (some (.ref ANeverOne)))
    (eNotOrdered : PySem.W.nsIn K mainGlobals "NotOrdered" = some (some (.ref ANotOrdered)))
    (eTooMany : PySem.W.nsIn K mainGlobals "TooMany" = some (some (.ref ATooMany)))
    (xkBadChain : PySem.W.keepIn K (.ref ABadChain) = true)
    (xxBadChain : PySem.W.excIn K ABadChain [.type "ValueError", .type "Exception", .type "BaseException", .type "object"] "ValueError.__new__" = true)
    (xbBadChain : PySem.W.subIn K (.ref ABadChain) (.type "BaseException") = some true)
    (xtBadChain : PySem.W.typeIn K (.ref ABadChain) = some (.type "type"))
    (xex : PySem.W.exmOne K (.ref ABadChain) (.ref ALongError) = some true)
    (xg : PySem.W.findIn K (.ref ABadChain) "__getattribute__" = some (some (.builtin "BaseException.__getattribute__")))
    (xh : PySem.W.findIn K (.ref ABadChain) "__getattr__" = some none)
    (xd : PySem.W.hasDictIn K ABadChain = true)
    (xa : PySem.W.findIn K (.ref ABadChain) "__class__" = some (some (.builtin "object.__class__")))
    (xn : PySem.W.specialIn K (.builtin "object.__class__") "__get__" = some (some (.builtin "getset_descriptor.__get__")))
    (xs : PySem.W.takesIn K (.builtin "object.__class__") = some true)
    (xm : PySem.W.mroIn K ABadChain (.type "object") = some true)
    (xno : PySem.W.kitAny K (.ref ABadChain) [.ref ABadText, .ref ANeverOne, .ref ANoSuch, .ref ANotOne, .ref ANotOrdered, .ref ATooMany] = some false)
    (xy : PySem.W.kitOne K (.ref ABadChain) (.ref ABadChain) = some true)
    (xv : PySem.W.kitOne K (.ref ABadChain) (.type "ValueError") = some true)
    (lM_is_move : K.lookup cM_is_move = some ⟨eM_is_move, ddM_is_move, .fields vsM_is_move, slM_is_move⟩)
    (vM_is_move : vsM_is_move[11]? = some (.ref tM_is_move))
    (hM_is_move : PySem.W.codeHdIn K cM_is_move tM_is_move = true)
    (nT_is_move : K.lookup tM_is_move = none) :
    LamX.LawAtS l w K CX0 6 63 "_law_script" mg fa h := by
  have e := hfa.symm.trans (PySem.W.mg_of X G a_law)
  cases e
  have FM_is_move : FunT K "_is_move" "_is_move" sIsMove f_is_move _ cM_is_move := ⟨⟨_, _, _, _, _, _, _, _, rfl, l_is_move, c_is_move⟩, k_is_move⟩
  have F_is_move := fun_mk (st := sIsMove) l_is_move c_is_move k_is_move
  have b_is_move := F_is_move.binds (ps := ["many", "move"]) fun _ _ _ _ _ _ us hl => match us, hl with | [_, _], _ => rfl
  have g_is_move := PySem.W.mg_of X G a_is_move
  have D_is_move : Df K mg "_is_move" sIsMove ["many", "move"] f_is_move _ := ⟨F_is_move, b_is_move, g_is_move⟩
  have F_law_cell := fun_mk (st := sCell) l_law_cell c_law_cell k_law_cell
  have b_law_cell := F_law_cell.binds (ps := ["_law_script", "_law_k"]) fun _ _ _ _ _ _ us hl => match us, hl with | [_, _], _ => rfl
  have g_law_cell := PySem.W.mg_of X G a_law_cell
  have D_law_cell : Df K mg "_law_cell" sCell ["_law_script", "_law_k"] f_law_cell _ := ⟨F_law_cell, b_law_cell, g_law_cell⟩
  have F_law_dice := fun_mk (st := sDice) l_law_dice c_law_dice k_law_dice
  have b_law_dice := F_law_dice.binds (ps := ["_law_script", "_law_k"]) fun _ _ _ _ _ _ us hl => match us, hl with | [_, _], _ => rfl
  have g_law_dice := PySem.W.mg_of X G a_law_dice
  have D_law_dice : Df K mg "_law_dice" sDice ["_law_script", "_law_k"] f_law_dice _ := ⟨F_law_dice, b_law_dice, g_law_dice⟩
  have F_law_off := fun_mk (st := sOff) l_law_off c_law_off k_law_off
  have b_law_off := F_law_off.binds (ps := ["_law_d", "_law_most"]) fun _ _ _ _ _ _ us hl => match us, hl with | [_, _], _ => rfl
  have g_law_off := PySem.W.mg_of X G a_law_off
  have D_law_off : Df K mg "_law_off" sOff ["_law_d", "_law_most"] f_law_off _ := ⟨F_law_off, b_law_off, g_law_off⟩
  have F_law_chain := fun_mk (st := sChain) l_law_chain c_law_chain k_law_chain
  have b_law_chain := F_law_chain.binds (ps := ["_law_d", "_law_most"]) fun _ _ _ _ _ _ us hl => match us, hl with | [_, _], _ => rfl
  have g_law_chain := PySem.W.mg_of X G a_law_chain
  have D_law_chain : Df K mg "_law_chain" sChain ["_law_d", "_law_most"] f_law_chain _ := ⟨F_law_chain, b_law_chain, g_law_chain⟩
  have F_law_made := fun_mk (st := sMade) l_law_made c_law_made k_law_made
  have b_law_made := F_law_made.binds (ps := ["_law_told"]) fun _ _ _ _ _ _ us hl => match us, hl with | [_], _ => rfl
  have g_law_made := PySem.W.mg_of X G a_law_made
  have D_law_made : Df K mg "_law_made" sMade ["_law_told"] f_law_made _ := ⟨F_law_made, b_law_made, g_law_made⟩
  have F_law_wrong := fun_mk (st := sLawWrong) l_law_wrong c_law_wrong k_law_wrong
  have b_law_wrong := F_law_wrong.binds (ps := ["_law_d", "_law_told"]) fun _ _ _ _ _ _ us hl => match us, hl with | [_, _], _ => rfl
  have g_law_wrong := PySem.W.mg_of X G a_law_wrong
  have D_law_wrong : Df K mg "_law_wrong" sLawWrong ["_law_d", "_law_told"] f_law_wrong _ := ⟨F_law_wrong, b_law_wrong, g_law_wrong⟩
  have F_law_refused := fun_mk (st := sLawRefused) l_law_refused c_law_refused k_law_refused
  have b_law_refused := F_law_refused.binds (ps := ["_law_told"]) fun _ _ _ _ _ _ us hl => match us, hl with | [_], _ => rfl
  have g_law_refused := PySem.W.mg_of X G a_law_refused
  have D_law_refused : Df K mg "_law_refused" sLawRefused ["_law_told"] f_law_refused _ := ⟨F_law_refused, b_law_refused, g_law_refused⟩
  have F_law := fun_mk (st := sLaw) l_law c_law k_law
  have g_law := PySem.W.mg_of X G a_law
  have F_minit := fun_mk (st := inClass cChain 0) l_minit c_minit k_minit
  have b_minit := F_minit.binds (ps := ["self", "many", "moves"]) fun _ _ _ _ _ _ us hl => match us, hl with | [_, _, _], _ => rfl
  have F_mplaces := fun_mk (st := inClass cChain 1) l_mplaces c_mplaces k_mplaces
  have b_mplaces := F_mplaces.binds (ps := ["self"]) fun _ _ _ _ _ _ us hl => match us, hl with | [_], _ => rfl
  have F_mtold := fun_mk (st := inClass cChain 2) l_mtold c_mtold k_mtold
  have b_mtold := F_mtold.binds (ps := ["self"]) fun _ _ _ _ _ _ us hl => match us, hl with | [_], _ => rfl
  have gC := PySem.W.mg_of X G aC
  have GMOST_PLACES := PySem.W.mg_of X G gMOST_PLACES
  have GMOST_MOVES := PySem.W.mg_of X G gMOST_MOVES
  have GMOST_WEIGHT := PySem.W.mg_of X G gMOST_WEIGHT
  have Zlen := PySem.W.mg_none_of X G zlen
  have Zabs := PySem.W.mg_none_of X G zabs
  have Zmax := PySem.W.mg_none_of X G zmax
  have Zmin := PySem.W.mg_none_of X G zmin
  have Zint := PySem.W.mg_none_of X G zint
  have Zrange := PySem.W.mg_none_of X G zrange
  have Zsorted := PySem.W.mg_none_of X G zsorted
  have Ztuple := PySem.W.mg_none_of X G ztuple
  have Zisinstance := PySem.W.mg_none_of X G zisinstance
  have Zall := PySem.W.mg_none_of X G zall
  have Zenumerate := PySem.W.mg_none_of X G zenumerate
  have Zlist := PySem.W.mg_none_of X G zlist
  have ZValueError := PySem.W.mg_none_of X G zValueError
  have tabE_is_move : h.get? tM_is_move = some { cls := .none, data := .fields #[] } := by
    obtain ⟨a', o', fd', c', P', oc, vc, g1, g2, g3, g4, e1, e3, e4, e5⟩ := TO_is_move
    rw [g_is_move] at g1
    cases g1
    have q1 := X _ _ l_is_move
    rw [q1] at g2
    cases g2
    cases g3
    cases g4
    have q2 := X _ _ lM_is_move
    rw [q2] at e1
    cases e1
    cases e3
    rw [vM_is_move] at e4
    cases e4
    exact e5
  have LT : LawTxt K mg f_law_cell f_law_dice f_law_off _ _ _ := ⟨F_law_cell, b_law_cell, g_law_cell, F_law_dice, b_law_dice, g_law_dice, F_law_off, b_law_off, g_law_off, Zlen, Zabs, Zmax, Zmin, Zint, Zrange, Zsorted, Ztuple⟩
  have CL' : Cls K C := ⟨pg, hd, po, sa⟩
  have CH : ChTxt K mg f_is_move cM_is_move tM_is_move _ C f_minit _ := ⟨FM_is_move, b_is_move, g_is_move, F_minit, b_minit, ⟨mk, a_minit, i_minit, kc⟩, CL', nM, nV, gC, ⟨_, GMOST_PLACES⟩, ⟨_, GMOST_MOVES⟩, ⟨_, GMOST_WEIGHT⟩, Zlen, Zisinstance, Ztuple, Zrange, Zall, Zenumerate, Zlist⟩
  have CM : ChM K C f_mplaces f_mtold _ _ := ⟨F_mplaces, b_mplaces, ⟨a_mplaces, i_mplaces, k_mplaces⟩, F_mtold, b_mtold, ⟨a_mtold, i_mtold, k_mtold⟩, CL', nM, nV⟩
  have N_BadChain : OwnE K mg "BadChain" ABadChain := ⟨PySem.W.mg_of X G eBadChain, xkBadChain, xxBadChain, xbBadChain, xtBadChain⟩
  have R : RefG K mg "BadChain" "BadText" "NeverOne" "NoSuch" "NotOne" "NotOrdered" "TooMany" ALongError ABadChain ABadText ANeverOne ANoSuch ANotOne ANotOrdered ATooMany := ⟨PySem.W.mg_of X G eLongError, xex, N_BadChain, ⟨xg, xh, xbBadChain, xd, xa, xn, xs, xm⟩, PySem.W.mg_of X G eBadText, PySem.W.mg_of X G eNeverOne, PySem.W.mg_of X G eNoSuch, PySem.W.mg_of X G eNotOne, PySem.W.mg_of X G eNotOrdered, PySem.W.mg_of X G eTooMany, xno, xy, xv, Zisinstance, ZValueError⟩
  refine ⟨PySem.W.fnOf "law" "law" (defArgs sLaw) (defBody sLaw) (defScope sLaw) .none kV_law dc_law pm_law an_law cd_law ct_law, [(cM_is_move, tM_is_move)], spLaw K tM_is_move, fun p hp => ?_, fun p hp => ?_, fun p hp => ?_, fun s v => .of_eq rfl, fun H a ns hl hbits hT hS => ?_, fun base hK hG hTB => ?_⟩
  · have e : p = (cM_is_move, tM_is_move) := by simpa using hp
    rw [e]
    exact tabE_is_move
  · have e : p = (cM_is_move, tM_is_move) := by simpa using hp
    rw [e]
    exact nT_is_move
  · have e : p = (cM_is_move, tM_is_move) := by simpa using hp
    rw [e]
    exact PySem.W.codeHd_of_K X hM_is_move
  · exact ⟨a, ns, rfl, hS, hl, ⟨#[], hT (cM_is_move, tM_is_move) (by simp), by simp [TriplesOk]⟩, fun _ => rfl⟩
  · have TBx := hTB (cM_is_move, tM_is_move) (by simp)
    have TB : GxR.TabB base mg cM_is_move tM_is_move := ⟨TBx.code, TBx.bm, TBx.gP⟩
    have GM : FnOk l.prog w K mg base (L2.CX l.prog w) 4 f_law_made _ ["_law_told"] (spMadeX C ABadChain tM_is_move) := ok_madeX F_law_made CH N_BadChain TB
    have GR : FnOk l.prog w K mg base CX0 5 f_law_refused _ ["_law_told"] (spRf tM_is_move) := ok_refused F_law_refused R F_law_made.kp b_law_made g_law_made GM
    exact ok_law F_law LT D_law_chain D_law_wrong D_law_refused CH CM TB GR Zlist Zisinstance
end Lg
open PySem PySem.W PyProof.Rows
set_option maxRecDepth 100000 in
set_option maxHeartbeats 0 in
theorem PySem.Challenge.cw_longago_k01_what_is_no_chain_holds : PySem.Challenge.rw_longago_k01_what_is_no_chain.Holds := by
  w_on; o_law; k_head; (case hw => w_witness2)
  k_fill
  refine Lg.walk_tab (l := PySem.Challenge.rw_longago_k01_what_is_no_chain) (n := 63) (k := 6) (x := "_law_script") (CX := fun _ => L2.CX0) "_is_move" rfl (by decide) rfl ⟨rfl, by decide, by decide⟩ (by decide +kernel) (fun w h Y => PySem.W.kIn_of Y) ?F (fun _ _ _ _ _ z => z)
  case F =>
    intro w mg fa h KX G hmg TO0
    refine' Lg.all_mk KX G hmg TO0 ?a_is_move ?l_is_move ?c_is_move ?k_is_move ?a_law_cell ?l_law_cell ?c_law_cell ?k_law_cell ?a_law_dice ?l_law_dice ?c_law_dice ?k_law_dice ?a_law_off ?l_law_off ?c_law_off ?k_law_off ?a_law_chain ?l_law_chain ?c_law_chain ?k_law_chain ?a_law_made ?l_law_made ?c_law_made ?k_law_made ?a_law_wrong ?l_law_wrong ?c_law_wrong ?k_law_wrong ?a_law_refused ?l_law_refused ?c_law_refused ?k_law_refused ?a_law ?l_law ?c_law ?k_law ?aC ?a_minit ?i_minit ?l_minit ?c_minit ?k_minit ?a_mplaces ?i_mplaces ?l_mplaces ?c_mplaces ?k_mplaces ?a_mtold ?i_mtold ?l_mtold ?c_mtold ?k_mtold ?pg ?hd ?po ?sa ?mk ?kc ?nM ?nV ?gMOST_PLACES ?gMOST_MOVES ?gMOST_WEIGHT ?zlen ?zabs ?zmax ?zmin ?zint ?zrange ?zsorted ?ztuple ?zisinstance ?zall ?zenumerate ?zlist ?zValueError ?eLongError ?eBadChain ?eBadText ?eNoSuch ?eNotOne ?eNeverOne ?eNotOrdered ?eTooMany ?xkBadChain ?xxBadChain ?xbBadChain ?xtBadChain ?xex ?xg ?xh ?xd ?xa ?xn ?xs ?xm ?xno ?xy ?xv ?lM_is_move ?vM_is_move ?hM_is_move ?nT_is_move
    (case a_is_move => k_is)
    (case l_is_move => k_is)
    (case c_is_move => k_is)
    (case k_is_move => k_is)
    (case a_law_cell => k_is)
    (case l_law_cell => k_is)
    (case c_law_cell => k_is)
    (case k_law_cell => k_is)
    (case a_law_dice => k_is)
    (case l_law_dice => k_is)
    (case c_law_dice => k_is)
    (case k_law_dice => k_is)
    (case a_law_off => k_is)
    (case l_law_off => k_is)
    (case c_law_off => k_is)
    (case k_law_off => k_is)
    (case a_law_chain => k_is)
    (case l_law_chain => k_is)
    (case c_law_chain => k_is)
    (case k_law_chain => k_is)
    (case a_law_made => k_is)
    (case l_law_made => k_is)
    (case c_law_made => k_is)
    (case k_law_made => k_is)
    (case a_law_wrong => k_is)
    (case l_law_wrong => k_is)
    (case c_law_wrong => k_is)
    (case k_law_wrong => k_is)
    (case a_law_refused => k_is)
    (case l_law_refused => k_is)
    (case c_law_refused => k_is)
    (case k_law_refused => k_is)
    (case a_law => k_is)
    (case l_law => k_is)
    (case c_law => k_is)
    (case k_law => k_is)
    (case aC => k_is)
    (case a_minit => k_is)
    (case i_minit => k_is)
    (case l_minit => k_is)
    (case c_minit => k_is)
    (case k_minit => k_is)
    (case a_mplaces => k_is)
    (case i_mplaces => k_is)
    (case l_mplaces => k_is)
    (case c_mplaces => k_is)
    (case k_mplaces => k_is)
    (case a_mtold => k_is)
    (case i_mtold => k_is)
    (case l_mtold => k_is)
    (case c_mtold => k_is)
    (case k_mtold => k_is)
    (case pg => k_is)
    (case hd => k_is)
    (case po => k_is)
    (case sa => k_is)
    (case mk => k_is)
    (case kc => k_is)
    (case nM => k_is)
    (case nV => k_is)
    (case gMOST_PLACES => k_is)
    (case gMOST_MOVES => k_is)
    (case gMOST_WEIGHT => k_is)
    (case zlen => k_is)
    (case zabs => k_is)
    (case zmax => k_is)
    (case zmin => k_is)
    (case zint => k_is)
    (case zrange => k_is)
    (case zsorted => k_is)
    (case ztuple => k_is)
    (case zisinstance => k_is)
    (case zall => k_is)
    (case zenumerate => k_is)
    (case zlist => k_is)
    (case zValueError => k_is)
    (case eLongError => first | k_is | rfl | decide +kernel)
    (case eBadChain => first | k_is | rfl | decide +kernel)
    (case eBadText => first | k_is | rfl | decide +kernel)
    (case eNoSuch => first | k_is | rfl | decide +kernel)
    (case eNotOne => first | k_is | rfl | decide +kernel)
    (case eNeverOne => first | k_is | rfl | decide +kernel)
    (case eNotOrdered => first | k_is | rfl | decide +kernel)
    (case eTooMany => first | k_is | rfl | decide +kernel)
    (case xkBadChain => first | k_is | rfl | decide +kernel)
    (case xxBadChain => k_exc)
    (case xbBadChain => first | k_is | rfl | decide +kernel)
    (case xtBadChain => first | k_is | rfl | decide +kernel)
    (case xex => first | k_is | rfl | decide +kernel)
    (case xg => first | k_is | rfl | decide +kernel)
    (case xh => first | k_is | rfl | decide +kernel)
    (case xd => first | k_is | rfl | decide +kernel)
    (case xa => first | k_is | rfl | decide +kernel)
    (case xn => first | k_is | rfl | decide +kernel)
    (case xs => first | k_is | rfl | decide +kernel)
    (case xm => first | k_is | rfl | decide +kernel)
    (case xno => first | k_is | rfl | decide +kernel)
    (case xy => first | k_is | rfl | decide +kernel)
    (case xv => first | k_is | rfl | decide +kernel)
    (case lM_is_move => k_is)
    (case vM_is_move => first | rfl | k_is)
    (case hM_is_move => first | k_is | rfl | decide +kernel)
    (case nT_is_move => first | k_is | rfl | decide +kernel)

