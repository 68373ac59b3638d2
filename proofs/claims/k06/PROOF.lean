import PyProof.Rows.All
import Wide.All
import OpenK.AllK
import Wide.FinOn
import PyProof.EqAt
import PyProof.EqKinds
import PyProof.TupleCall
import HandS.ForMost
import HandS.Conv
import HandS.Codes
import HandS.AnyAll
import HandS.Sort
import HandS.Zip
import HandS.Walk
import HandS.Rev
import HandS.TupMul
import HandS.IsInst
import KE.KEqSeq
import HandS.EndTab
import PySem.Challenge.RW_longago_k06_drawn
set_option Elab.async false
set_option linter.all false
set_option maxRecDepth 100000
set_option maxHeartbeats 4000000
namespace Lg
open PySem PySem.Spec PyProof.Rows L2
def topS (i : Nat) : Stmt := PySem.Challenge.pw_longago_k06_drawn.main.body.getD i (.Pass ⟨0, 0, 0, 0⟩)
abbrev cLongError : Stmt := topS 1
abbrev cBadChain : Stmt := topS 2
abbrev cNoSuch : Stmt := topS 3
abbrev sStepsOf : Stmt := topS 5
abbrev sDrawn : Stmt := topS 6
abbrev sDrawnFrom : Stmt := topS 7
abbrev sAreOne : Stmt := topS 8
abbrev cChain : Stmt := topS 13
abbrev sIsMove : Stmt := topS 14
abbrev sCell : Stmt := topS 16
abbrev sDice : Stmt := topS 17
abbrev sOff : Stmt := topS 18
abbrev sChain : Stmt := topS 19
abbrev sMade : Stmt := topS 20
abbrev sNumbers : Stmt := topS 21
abbrev sLawEnds : Stmt := topS 22
abbrev sLawDrawn : Stmt := topS 23
abbrev sLaw : Stmt := topS 24
/-! ### what is the same in all these texts: heaps -/
/-- all that is tracked, but at d, is as it was -/
def Gr (d : Addr) (H H' : Hp) : Prop := ∀ b o, b ≠ d → H b = some o → H' b = some o
theorem Gr.refl (d : Addr) (H : Hp) : Gr d H H := fun _ _ _ e => e
theorem Gr.trans {d : Addr} {H H1 H2 : Hp} (a : Gr d H H1) (b : Gr d H1 H2) : Gr d H H2 := fun c o n e => b c o n (a c o n e)
theorem Gr.new {d : Addr} {H H1 : Hp} {p : Addr} {o : HO} (a : Gr d H H1) (h : H1 p = none) : Gr d H (upd H1 p o) := fun b u n e => by
  have q := a b u n e
  rw [upd_ne (ne_of_none q h)]
  exact q
theorem Gr.off {d : Addr} {H H1 H2 : Hp} (a : Gr d H H1) (h : ∀ b, b ≠ d → H2 b = H1 b) : Gr d H H2 := fun b u n e => by
  rw [h b n]
  exact a b u n e
theorem same_new {H : Hp} {p : Addr} {o : HO} (h : H p = none) : Same H (upd H p o) := fun b x e => by
  rw [upd_ne (ne_of_none e h)]
  exact e
theorem Gr.of_same {d : Addr} {H H' : Hp} (s : Same H H') : Gr d H H' := fun b o _ e => s b o e
/-- the dice at d -/
def dl (s0 : Int) (l : Addr) (k big : Int) : List V := [.int s0, .ref l, .int k, .int big]
theorem map_int_dl {ns : List Int} {s0 k big : Int} {l : Addr} : ns.map V.int ≠ dl s0 l k big := by
  intro e
  have h : (ns.map V.int)[1]? = some (V.ref l) := by rw [e]; rfl
  rw [List.getElem?_map] at h
  cases q : ns[1]? with
  | none => rw [q] at h; cases h
  | some z => rw [q] at h; cases h
/-- a list that is known ahead of p's making, and p's writing -/
theorem seq_put {K : PySem.W.Frag} {H0 H : Hp} {l p : Addr} {xs : List V} {o : HO} (h0 : SqL K H0 l xs) (n0 : H0 p = none) (h : SqL K H l xs) : SqL K (upd H p o) l xs := by
  have ne : Rd H0 l (.lst xs) → l ≠ p := fun r => by
    rcases r with r | ⟨o', r⟩
    · exact ne_of_none r n0
    · exact ne_of_none r n0
  rcases h0 with r0 | k
  · have n := ne r0
    rcases h with (h | ⟨o', h⟩) | h
    · exact .inl (.inl (by rw [upd_ne n]; exact h))
    · exact .inl (.inr ⟨o', by rw [upd_ne n]; exact h⟩)
    · exact .inr h
  · exact .inr k
/-- the script stands when the dice turns -/
theorem seq_turn {K : PySem.W.Frag} {H H' : Hp} {d l l' : Addr} {ns : List Int} {s0 k big : Int} (hd : H d = some (.lst (dl s0 l' k big))) (h : SqL K H l (ns.map V.int)) (q : ∀ b, b ≠ d → H' b = H b) : SqL K H' l (ns.map V.int) := by
  rcases h with (h | ⟨o, h⟩) | h
  · refine .inl (.inl ?_)
    rw [q]
    · exact h
    · intro z
      rw [z, hd] at h
      injection h with h
      injection h with h
      exact map_int_dl h.symm
  · refine .inl (.inr ⟨o, ?_⟩)
    rw [q]
    · exact h
    · intro z
      rw [z, hd] at h
      cases h
  · exact .inr h
def Dc (K : PySem.W.Frag) (l : Addr) (ns : List Int) (H : Hp) (d : Addr) : Prop := ∃ (s0 k big : Int), H d = some (.lst (dl s0 l k big)) ∧ SqL K H l (ns.map V.int) ∧ ns.length ≤ 63 ∧ 0 ≤ s0 ∧ s0 < 2147483647 ∧ 0 ≤ k ∧ 0 ≤ big
theorem Dc.same {K : PySem.W.Frag} {H H' : Hp} {l d : Addr} {ns : List Int} (s : Same H H') (h : Dc K l ns H d) : Dc K l ns H' d := by
  obtain ⟨s0, k, big, h1, h2, h3⟩ := h
  exact ⟨s0, k, big, s _ _ h1, s.seq h2, h3⟩
theorem Dc.seq {K : PySem.W.Frag} {H : Hp} {l d : Addr} {ns : List Int} (h : Dc K l ns H d) : SqL K H l (ns.map V.int) := by
  obtain ⟨s0, k, big, h1, h2, h3⟩ := h
  exact h2
theorem Dc.new {K : PySem.W.Frag} {H : Hp} {l d p : Addr} {ns : List Int} {o : HO} (h : Dc K l ns H d) (n : H p = none) : Dc K l ns (upd H p o) d := h.same (same_new n)
theorem Dc.some {K : PySem.W.Frag} {H : Hp} {l d : Addr} {ns : List Int} (h : Dc K l ns H d) : ∃ s0 k big, H d = Option.some (HO.lst (dl s0 l k big)) := by
  obtain ⟨s0, k, big, h1, _⟩ := h
  exact ⟨s0, k, big, h1⟩
theorem Dc.ne {K : PySem.W.Frag} {H : Hp} {l d p : Addr} {ns : List Int} (h : Dc K l ns H d) (n : H p = none) : p ≠ d := by
  obtain ⟨s0, k, big, e⟩ := h.some
  exact (ne_of_none e n).symm
/-- the dice is a list that begins with an int and a ref: no other list that we know -/
theorem Dc.ne_of {K : PySem.W.Frag} {H : Hp} {l d p : Addr} {ns : List Int} {u : HO} (h : Dc K l ns H d) (n : H p = Option.some u) (q : ∀ s0 l k big, u ≠ .lst (dl s0 l k big)) : p ≠ d := by
  obtain ⟨s0, k, big, e⟩ := h.some
  intro z
  rw [z, e] at n
  exact q _ _ _ _ (Option.some.inj n).symm
/-- another list is written, one that is newer than the script -/
theorem Dc.turn {K : PySem.W.Frag} {H0 H : Hp} {l d d0 p : Addr} {ns : List Int} {o : HO} (h : Dc K l ns H d) (h0 : Dc K l ns H0 d0) (n0 : H0 p = none) (n : p ≠ d) : Dc K l ns (upd H p o) d := by
  obtain ⟨s0, k, big, h1, h2, h3⟩ := h
  refine ⟨s0, k, big, ?_, seq_put h0.seq n0 h2, h3⟩
  rw [upd_ne n.symm]
  exact h1
/-! ### a chain's data -/
abbrev Mv := Int × List Int
def GoodRow (many : Nat) (row : List Int) : Prop := row.length = many ∧ ∀ x ∈ row, 0 ≤ x ∧ x < (many : Int)
def GoodMv (many : Nat) (m : Mv) : Prop := 1 ≤ m.1 ∧ m.1 ≤ 99 ∧ GoodRow many m.2
structure Good (many : Nat) (ms : List Mv) : Prop where
  m1 : 1 ≤ many
  m6 : many ≤ 6
  l1 : 1 ≤ ms.length
  l8 : ms.length ≤ 8
  mv : ∀ m ∈ ms, GoodMv many m
def MoveAt (H : Hp) (v : V) (m : Mv) : Prop := ∃ a q, v = .ref a ∧ H a = some (.tup [.int m.1, .ref q]) ∧ H q = some (.tup (m.2.map V.int))
abbrev MovesAt (H : Hp) : List V → List Mv → Prop := Paired (MoveAt H)
theorem MoveAt.same {H H' : Hp} {v : V} {m : Mv} (s : ∀ b xs, H b = some (.tup xs) → H' b = some (.tup xs)) (h : MoveAt H v m) : MoveAt H' v m := by
  obtain ⟨a, q, e, h1, h2⟩ := h
  exact ⟨a, q, e, s _ _ h1, s _ _ h2⟩
theorem MovesAt.same {H H' : Hp} (s : ∀ b xs, H b = some (.tup xs) → H' b = some (.tup xs)) : ∀ {vs : List V} {ms : List Mv}, MovesAt H vs ms → MovesAt H' vs ms
  | _, _, .nil => .nil
  | _, _, .cons h t => .cons (h.same s) (MovesAt.same s t)
theorem MovesAt.snoc {H : Hp} {v : V} {m : Mv} (h : MoveAt H v m) : ∀ {vs : List V} {ms : List Mv}, MovesAt H vs ms → MovesAt H (vs ++ [v]) (ms ++ [m])
  | _, _, .nil => .cons h .nil
  | _, _, .cons q t => .cons q (MovesAt.snoc h t)
theorem MovesAt.get {H : Hp} : ∀ {vs : List V} {ms : List Mv} {i : Nat} {m : Mv}, MovesAt H vs ms → ms[i]? = some m → ∃ v, vs[i]? = some v ∧ MoveAt H v m
  | _, _, _, _, .nil, e => by simp at e
  | _, _, 0, _, .cons h _, e => by
    simp at e
    subst e
    exact ⟨_, rfl, h⟩
  | _, _, i + 1, m, .cons _ t, e => by
    obtain ⟨v, h1, h2⟩ := MovesAt.get (i := i) (m := m) t (by simpa using e)
    exact ⟨v, by simpa using h1, h2⟩
theorem MovesAt.get' {H : Hp} : ∀ {vs : List V} {ms : List Mv} {i : Nat} {v : V}, MovesAt H vs ms → vs[i]? = some v → ∃ m, ms[i]? = some m ∧ MoveAt H v m
  | _, _, _, _, .nil, e => by simp at e
  | _, _, 0, _, .cons h _, e => by
    simp at e
    subst e
    exact ⟨_, rfl, h⟩
  | _, _, i + 1, v, .cons _ t, e => by
    obtain ⟨m, h1, h2⟩ := MovesAt.get' (i := i) (v := v) t (by simpa using e)
    exact ⟨m, by simpa using h1, h2⟩
/-- a told chain: (many, moves) at t, the moves' list at m -/
def ToldAt (H : Hp) (t m : Addr) (many : Nat) (vs : List V) (ms : List Mv) : Prop := H t = some (.tup [.int (many : Int), .ref m]) ∧ H m = some (.lst vs) ∧ MovesAt H vs ms
theorem Gr.tups {d l : Addr} {ns : List Int} {H H' : Hp} {K : PySem.W.Frag} (hd : Dc K l ns H d) (g : Gr d H H') : ∀ b xs, H b = some (.tup xs) → H' b = some (.tup xs) := fun b xs e =>
  g b _ (hd.ne_of e fun _ _ _ _ q => nomatch q) e
theorem Same.tups {H H' : Hp} (g : Same H H') : ∀ b xs, H b = some (.tup xs) → H' b = some (.tup xs) := fun b xs e => g b _ e
theorem ifD {c A B : Prop} [Decidable c] (hc : c) (h : A) : if decide c = true then A else B := by
  rw [decide_eq_true hc]
  exact iteT h
theorem small8 {n : Nat} (h : n ≤ 8) : n < sizeLine := Nat.lt_of_le_of_lt h (by decide)
section
variable {P : Program} {w : World} {K : PySem.W.Frag} {mg : Str → Option Value} {base : Heap}
/-! ### _law_cell -/
theorem scCell : FnScope ["_law_script", "_law_k"] ["_law_script", "_law_k"] (defScope sCell) := ⟨rfl, rfl, rfl, by decide +kernel, rfl, by decide +kernel, by decide +kernel⟩
def spCell (K : PySem.W.Frag) : Sp := fun vs H Q _ => ∃ (l : Addr) (ns : List Int) (j : Int), vs = [.ref l, .int j] ∧ SqL K H l (ns.map V.int) ∧ 0 ≤ j ∧ ∀ x : Int, Q (.int x) H
theorem ok_cell {f : Addr} {fd : FuncData} {k : Nat} (F : Fun K "_law_cell" "_law_cell" sCell f fd) (ml : mg "len" = none) : FnOk P w K mg base CX0 (k + 1) f fd ["_law_script", "_law_k"] (spCell K) := by
  refine F.ok scCell (fun vs H Q E h => ?_) (fun cdv A outer s H vs Q E hr h => ?_)
  · obtain ⟨l, ns, j, rfl, _⟩ := h
    rfl
  · obtain ⟨l, ns, j, rfl, hS, hj, q⟩ := h
    refine ⟨_, pss_cons (ps_if (pt_cmpR op_lt (pv 1) (pe_callB call_len_seq (by rfl) ml PySem.boot_len (pa_cons (pv 0) pa_nil)) (nomark _))
        (pss_one (ps_ret (pe_ix ix_list (pv 0) (pv 1) (fun _ _ => rfl)))) pss_nil)
      (pss_one (ps_ret pe_int)), ?_⟩
    refine ⟨.int j, rfl, .ref l, rfl, l, ns.map V.int, rfl, .inl hS, j, _, rfl, rfl, _, rfl, ite2 (fun e => ?_) (fun e => ?_)⟩
    · have e1 : j < ((ns.map V.int).length : Int) := of_decide_eq_true e
      rw [List.length_map] at e1
      have hn : j.toNat < ns.length := by omega
      have ej : j = ((j.toNat : Nat) : Int) := by omega
      have g : (ns.map V.int)[j.toNat]? = some (.int ns[j.toNat]) := by
        rw [List.getElem?_map, List.getElem?_eq_getElem hn]
        rfl
      exact ⟨.ref l, rfl, .int j, rfl, l, _, j, _, rfl, rfl, hS, at_of ej g, q _⟩
    · exact q 0
/-! ### _law_dice -/
theorem scDice : FnScope ["_law_script", "_law_k", "_law_cell_here"] ["_law_script", "_law_k"] (defScope sDice) := ⟨rfl, rfl, rfl, by decide +kernel, rfl, by decide +kernel, by decide +kernel⟩
def spDice (K : PySem.W.Frag) : Sp := fun vs H Q _ => ∃ (l : Addr) (ns : List Int) (j : Int), vs = [.ref l, .int j] ∧ SqL K H l (ns.map V.int) ∧ ns.length ≤ 63 ∧ 0 ≤ j ∧ ∀ H' d, Same H H' → H d = none → Dc K l ns H' d → Q (.ref d) H'
theorem abs_nn (x : Int) : 0 ≤ (if x < 0 then -x else x) := by
  split <;> omega
theorem ok_dice {f fC : Addr} {fd fdC : FuncData} (F : Fun K "_law_dice" "_law_dice" sDice f fd) (FC : Fun K "_law_cell" "_law_cell" sCell fC fdC) (bC : Binds K fdC ["_law_script", "_law_k"] []) (gC : mg "_law_cell" = some (.ref fC))
    (ml : mg "len" = none) (ma : mg "abs" = none) (mi : mg "int" = none) : FnOk P w K mg base CX0 2 f fd ["_law_script", "_law_k"] (spDice K) := by
  have GC : FnOk P w K mg base CX0 1 fC fdC ["_law_script", "_law_k"] (spCell K) := ok_cell FC ml
  refine F.ok scDice (fun vs H Q E h => ?_) (fun cdv A outer s H vs Q E hr h => ?_)
  · obtain ⟨l, ns, j, rfl, _⟩ := h
    rfl
  · obtain ⟨l, ns, j, rfl, hS, hl, hj, q⟩ := h
    refine ⟨_, pss_cons (ps_set (i := 2) scDice.nd rfl (.inl rfl) (pe_callB call_abs (by rfl) ma (by decide +kernel) (pa_cons (pe_call GC hr (by rfl) gC FC.kp bC .nil pass0 (pa_cons (pv 0) (pa_cons (pv 1) pa_nil))) pa_nil)))
      (pss_one (ps_ret (pe_lst (pa_cons (pe_op op_mod (pv 2) pe_int) (pa_cons (pv 0) (pa_cons (pe_op op_add (pv 1) pe_int)
        (pa_cons (pe_op op_mul (pe_callTy call_int1 (by rfl) mi (by decide +kernel) (pa_cons (pe_cmpR op_ge (pv 2) (pe_op op_pow pe_int pe_int) (nomark _)) pa_nil)) (pv 2)) pa_nil))))))), ?_⟩
    refine ⟨.ref l, rfl, .int j, rfl, l, ns, j, rfl, hS, hj, fun x => ?_⟩
    refine ⟨x, rfl, ?_⟩
    have ha := abs_nn x
    generalize (if x < 0 then -x else x) = c at ha ⊢
    have m0 : 0 ≤ c % 2147483647 := Int.emod_nonneg _ (by decide)
    have m1 : c % 2147483647 < 2147483647 := Int.emod_lt_of_pos _ (by decide)
    refine ⟨.int c, rfl, c, 2147483647, rfl, rfl, (by show (0 : Int) < 2147483647; decide), .ref l, rfl, .int j, rfl, j, 1, rfl, rfl, ?_⟩
    refine ⟨.int c, rfl, 10, 18, rfl, rfl, ⟨by decide, by decide, by decide⟩, c, _, rfl, rfl, .inr ⟨_, rfl, ?_⟩⟩
    refine ⟨.int c, rfl, _, c, rfl, rfl, .inl ?_, ?_⟩
    · split <;> decide
    · refine ⟨by show 4 ≤ sizeLine; decide, fun d nd => ?_⟩
      refine q _ d (same_new nd) nd ⟨_, _, _, upd_same, (same_new nd).seq hS, hl, m0, m1, by omega, ?_⟩
      split
      · omega
      · omega
/-! ### _law_off -/
theorem scOff : FnScope ["_law_d", "_law_most", "_law_found", "_law_more"] ["_law_d", "_law_most"] (defScope sOff) := ⟨rfl, rfl, rfl, by decide +kernel, rfl, by decide +kernel, by decide +kernel⟩
def spOff (K : PySem.W.Frag) : Sp := fun vs H Q _ => ∃ (d l : Addr) (ns : List Int) (most : Int), vs = [.ref d, .int most] ∧ Dc K l ns H d ∧ 1 ≤ most ∧ most ≤ 1000000 ∧ ∀ (r : Nat) H', (r : Int) < most → Dc K l ns H' d → (∀ b, b ≠ d → H' b = H b) → Q (.int (r : Int)) H'
theorem max1 (x : Int) (h : 0 ≤ x) : 1 ≤ (if x > 1 then x else 1) := by
  split <;> omega
theorem ok_off {f fC : Addr} {fd fdC : FuncData} (F : Fun K "_law_off" "_law_off" sOff f fd) (FC : Fun K "_law_cell" "_law_cell" sCell fC fdC) (bC : Binds K fdC ["_law_script", "_law_k"] []) (gC : mg "_law_cell" = some (.ref fC))
    (ml : mg "len" = none) (ma : mg "abs" = none) (mm : mg "max" = none) : FnOk P w K mg base CX0 2 f fd ["_law_d", "_law_most"] (spOff K) := by
  have GC : FnOk P w K mg base CX0 1 fC fdC ["_law_script", "_law_k"] (spCell K) := ok_cell FC ml
  refine F.ok scOff (fun vs H Q E h => ?_) (fun cdv A outer s H vs Q E hr h => ?_)
  · obtain ⟨d, l, ns, most, rfl, _⟩ := h
    rfl
  · obtain ⟨d, l, ns, most, rfl, ⟨s0, k, big, hD, hS, hl, z0, z1, hk, hb⟩, hm1, hm2, q⟩ := h
    refine ⟨_, pss_cons (ps_if (pt_cmpR op_gt (pe_ix ix_list (pv 0) pe_int (fun _ _ => rfl)) pe_int (nomark _))
        (pss_cons (ps_set (i := 2) scOff.nd rfl (.inl rfl) (pe_op op_mod (pe_ix ix_list (pv 0) pe_int (fun _ _ => rfl)) (pv 1)))
          (pss_cons (ps_asg (pe_op op_fdiv (pe_ix ix_list (pv 0) pe_int (fun _ _ => rfl)) (pv 1)) (pg_sub (pv 0) pe_int set_list))
            (pss_one (ps_ret (pv 2))))) pss_nil)
      (pss_cons (ps_set (i := 3) scOff.nd rfl (.inl rfl) (pe_callB call_abs (by rfl) ma (by decide +kernel) (pa_cons (pe_call GC hr (by rfl) gC FC.kp bC .nil pass0
          (pa_cons (pe_ix ix_list (pv 0) pe_int (fun _ _ => rfl)) (pa_cons (pe_op op_mod (pe_ix ix_list (pv 0) pe_int (fun _ _ => rfl))
            (pe_callB (call_max2 rfl) (by rfl) mm (by decide +kernel) (pa_cons pe_int (pa_cons (pe_callB call_len_seq (by rfl) ml PySem.boot_len (pa_cons (pe_ix ix_list (pv 0) pe_int (fun _ _ => rfl)) pa_nil)) pa_nil)))) pa_nil))) pa_nil)))
      (pss_cons (ps_asg (pe_op op_add (pe_ix ix_list (pv 0) pe_int (fun _ _ => rfl)) pe_int) (pg_sub (pv 0) pe_int set_list))
      (pss_cons (ps_asg (pe_op op_mod (pe_op op_add (pe_op op_add (pe_op op_mul (pe_ix ix_list (pv 0) pe_int (fun _ _ => rfl)) pe_int) pe_int) (pv 3)) pe_int) (pg_sub (pv 0) pe_int set_list))
      (pss_one (ps_ret (pe_op op_mod (pe_op op_fdiv (pe_ix ix_list (pv 0) pe_int (fun _ _ => rfl)) pe_int) (pv 1)))))))
      , ?_⟩
    have hD0 : SqL K H d (dl s0 l k big) := SqL.of hD
    refine ⟨.ref d, rfl, d, _, 3, _, rfl, rfl, hD0, atI_nat (j := 3) rfl, big, 0, rfl, rfl, _, rfl, ite2 (fun e => ?_) (fun e => ?_)⟩
    · have e1 : 0 < big := of_decide_eq_true e
      refine ⟨.ref d, rfl, d, _, 3, _, rfl, rfl, hD0, atI_nat (j := 3) rfl, .int most, rfl, big, most, rfl, rfl, (by show 0 < most; omega), ?_⟩
      refine ⟨.ref d, rfl, d, _, 3, _, rfl, rfl, hD0, atI_nat (j := 3) rfl, .int most, rfl, big, most, rfl, rfl, ⟨by show 0 < most; omega, by show most < 1073741824; omega⟩, ?_⟩
      refine ⟨.ref d, rfl, d, _, 3, 3, rfl, rfl, hD, rfl, ?_⟩
      have r0 : 0 ≤ big % most := Int.emod_nonneg _ (by omega)
      have r1 : big % most < most := Int.emod_lt_of_pos _ (by omega)
      have er : big % most = (((big % most).toNat : Nat) : Int) := by omega
      refine ⟨.int (big % most), rfl, ?_⟩
      rw [er]
      refine q _ _ (by omega) ⟨s0, k, big / most, upd_same, seq_turn hD hS (fun b hb => upd_ne hb), hl, z0, z1, hk, Int.ediv_nonneg hb (by omega)⟩ (fun b hb => upd_ne hb)
    · refine ⟨.ref d, rfl, d, _, 1, _, rfl, rfl, hD0, atI_nat (j := 1) rfl, .ref d, rfl, d, _, 2, _, rfl, rfl, hD0, atI_nat (j := 2) rfl, ?_⟩
      refine ⟨.ref d, rfl, d, _, 1, _, rfl, rfl, hD0, atI_nat (j := 1) rfl, l, _, rfl, .inl hS, 1, _, rfl, ?_⟩
      have hx := max1 (((ns.map V.int).length : Nat) : Int) (by omega)
      generalize (if (((ns.map V.int).length : Nat) : Int) > 1 then (((ns.map V.int).length : Nat) : Int) else 1) = mx at hx ⊢
      refine ⟨k, mx, rfl, rfl, (by show 0 < mx; omega), l, ns, k % mx, rfl, hS, Int.emod_nonneg _ (by omega), fun x => ⟨x, rfl, ?_⟩⟩
      have ha := abs_nn x
      generalize (if x < 0 then -x else x) = c at ha ⊢
      -- d[2] = d[2] + 1
      refine ⟨.ref d, rfl, d, _, 2, _, rfl, rfl, hD0, atI_nat (j := 2) rfl, k, 1, rfl, rfl, .ref d, rfl, d, _, 2, 2, rfl, rfl, hD, rfl, ?_⟩
      have g1 : (upd H d (.lst (dl s0 l (k + 1) big))) d = some (.lst (dl s0 l (k + 1) big)) := upd_same
      have g2 : SqL K (upd H d (.lst (dl s0 l (k + 1) big))) d (dl s0 l (k + 1) big) := SqL.of g1
      refine ⟨.ref d, rfl, d, _, 0, _, rfl, rfl, g2, atI_nat (j := 0) rfl, s0, 48271, rfl, rfl, .inl ⟨by omega, by omega⟩, s0 * 48271, 11, rfl, rfl, .int c, rfl, s0 * 48271 + 11, c, rfl, rfl, s0 * 48271 + 11 + c, 2147483647, rfl, rfl, (by show (0 : Int) < 2147483647; decide), ?_⟩
      have m0 : 0 ≤ (s0 * 48271 + 11 + c) % 2147483647 := Int.emod_nonneg _ (by decide)
      have m1 : (s0 * 48271 + 11 + c) % 2147483647 < 2147483647 := Int.emod_lt_of_pos _ (by decide)
      refine ⟨.ref d, rfl, d, _, 0, 0, rfl, rfl, g1, rfl, ?_⟩
      rw [upd_upd]
      have g3 : (upd H d (.lst (dl ((s0 * 48271 + 11 + c) % 2147483647) l (k + 1) big))) d = some (.lst (dl ((s0 * 48271 + 11 + c) % 2147483647) l (k + 1) big)) := upd_same
      have g4 : SqL K (upd H d (.lst (dl ((s0 * 48271 + 11 + c) % 2147483647) l (k + 1) big))) d (dl ((s0 * 48271 + 11 + c) % 2147483647) l (k + 1) big) := SqL.of g3
      refine ⟨.ref d, rfl, d, _, 0, _, rfl, rfl, g4, atI_nat (j := 0) rfl, ((s0 * 48271 + 11 + c) % 2147483647), 64, rfl, rfl, ⟨by decide, by decide⟩, .int most, rfl, ((s0 * 48271 + 11 + c) % 2147483647) / 64, most, rfl, rfl, (by show 0 < most; omega), ?_⟩
      have r0 : 0 ≤ ((s0 * 48271 + 11 + c) % 2147483647) / 64 % most := Int.emod_nonneg _ (by omega)
      have r1 : ((s0 * 48271 + 11 + c) % 2147483647) / 64 % most < most := Int.emod_lt_of_pos _ (by omega)
      have er : ((s0 * 48271 + 11 + c) % 2147483647) / 64 % most = (((((s0 * 48271 + 11 + c) % 2147483647) / 64 % most).toNat : Nat) : Int) := by omega
      show Q (.int (((s0 * 48271 + 11 + c) % 2147483647) / 64 % most)) _
      rw [er]
      exact q _ _ (by omega) ⟨((s0 * 48271 + 11 + c) % 2147483647), k + 1, big, g3, seq_turn hD hS (fun b hb => upd_ne hb), hl, m0, m1, by omega, hb⟩ (fun b hb => upd_ne hb)
end
section
variable {P : Program} {w : World} {K : PySem.W.Frag} {mg : Str → Option Value} {base : Heap}
/-! ### _law_chain -/
def nChain : List Str := ["_law_d", "_law_most", "_law_many", "_law_way", "_law_moves", "_law_k", "_law_row", "_law_weight", "_law_place"]
theorem scChain : FnScope ["_law_d", "_law_most", "_law_many", "_law_way", "_law_moves", "_law_k", "_law_row", "_law_weight", "_law_place"] ["_law_d", "_law_most"] (defScope sChain) := ⟨rfl, rfl, rfl, by decide +kernel, rfl, by decide +kernel, by decide +kernel⟩
def spChain (K : PySem.W.Frag) : Sp := fun vs H Q _ => ∃ (d l : Addr) (ns : List Int) (most : Nat), vs = [.ref d, .int (most : Int)] ∧ Dc K l ns H d ∧ 1 ≤ most ∧ most ≤ 6 ∧
  ∀ (t m : Addr) (many : Nat) (ws : List V) (ms : List Mv) H', Good many ms → many ≤ most → ToldAt H' t m many ws ms → Dc K l ns H' d → Gr d H H' → Q (.ref t) H'
/-- what the law's texts call -/
structure LawTxt (K : PySem.W.Frag) (mg : Str → Option Value) (fC fD fO : Addr) (fdC fdD fdO : FuncData) : Prop where
  FC : Fun K "_law_cell" "_law_cell" sCell fC fdC
  bC : Binds K fdC ["_law_script", "_law_k"] []
  gC : mg "_law_cell" = some (.ref fC)
  FD : Fun K "_law_dice" "_law_dice" sDice fD fdD
  bD : Binds K fdD ["_law_script", "_law_k"] []
  gD : mg "_law_dice" = some (.ref fD)
  FO : Fun K "_law_off" "_law_off" sOff fO fdO
  bO : Binds K fdO ["_law_d", "_law_most"] []
  gO : mg "_law_off" = some (.ref fO)
  ml : mg "len" = none
  ma : mg "abs" = none
  mm : mg "max" = none
  mn : mg "min" = none
  mi : mg "int" = none
  mr : mg "range" = none
  ms : mg "sorted" = none
  mt : mg "tuple" = none
section
variable {fC fD fO : Addr} {fdC fdD fdO : FuncData}
theorem LawTxt.off (T : LawTxt K mg fC fD fO fdC fdD fdO) : FnOk P w K mg base CX0 2 fO fdO ["_law_d", "_law_most"] (spOff K) := ok_off T.FO T.FC T.bC T.gC T.ml T.ma T.mm
theorem LawTxt.dice (T : LawTxt K mg fC fD fO fdC fdD fdO) : FnOk P w K mg base CX0 2 fD fdD ["_law_script", "_law_k"] (spDice K) := ok_dice T.FD T.FC T.bC T.gC T.ml T.ma T.mi
theorem perm_row {many : Nat} {xs ys : List Int} (p : ys.Perm xs) (h : GoodRow many xs) : GoodRow many ys := ⟨p.length_eq.trans h.1, fun x hx => h.2 x (p.mem_iff.mp hx)⟩
theorem clamp (m x : Int) (h : 0 ≤ m) : 0 ≤ (if (if x < m then x else m) > 0 then (if x < m then x else m) else 0) ∧ (if (if x < m then x else m) > 0 then (if x < m then x else m) else 0) < m + 1 := by
  split <;> split at * <;> omega
theorem ok_chain {f : Addr} {fd : FuncData} (F : Fun K "_law_chain" "_law_chain" sChain f fd) (T : LawTxt K mg fC fD fO fdC fdD fdO) : FnOk P w K mg base CX0 3 f fd ["_law_d", "_law_most"] (spChain K) := by
  have GO : FnOk P w K mg base CX0 2 fO fdO ["_law_d", "_law_most"] (spOff K) := T.off
  refine F.ok scChain (fun vs H Q E h => ?_) (fun cdv A outer s H vs Q E hr h => ?_)
  · obtain ⟨d, l, ns, most, rfl, _⟩ := h
    rfl
  · obtain ⟨d, l, ns, most, rfl, hD, hm1, hm6, q⟩ := h
    refine ⟨_, pss_cons (ps_set (i := 2) scChain.nd rfl (.inr rfl) (pe_op op_add pe_int (pe_call GO hr (by rfl) T.gO T.FO.kp T.bO .nil pass0 (pa_cons (pv 0) (pa_cons (pv 1) pa_nil)))))
      (pss_cons (ps_set (i := 3) scChain.nd rfl (.inl rfl) (pe_call GO hr (by rfl) T.gO T.FO.kp T.bO .nil pass0 (pa_cons (pv 0) (pa_cons pe_int pa_nil))))
      (pss_cons (ps_set (i := 4) scChain.nd rfl (.inl rfl) (pe_lst pa_nil))
      (pss_cons (ps_for PassesOwn.never rfl (pi_range1 (by rfl) T.mr (pa_cons (pe_op op_add pe_int (pe_call GO hr (by rfl) T.gO T.FO.kp T.bO .nil pass0 (pa_cons (pv 0)
            (pa_cons (pe_ix ix_list (pe_lst (pa_cons pe_int (pa_cons pe_int (pa_cons pe_int pa_nil)))) (pe_call GO hr (by rfl) T.gO T.FO.kp T.bO .nil pass0 (pa_cons (pv 0) (pa_cons pe_int pa_nil))) (fun _ _ => rfl)) pa_nil)))) pa_nil))
          (pg_name (i := 5) scChain.nd rfl (.inl rfl))
          (pss_cons (ps_setLc (i := 6) (own := [("_law_place", 8)]) (g := gName 8) (tt := tYes) rfl scChain.nd rfl rfl (sw_true rfl rfl rfl (by decide +kernel)) (pi_range1 (by rfl) T.mr (pa_cons (pv 2) pa_nil)) (blkOk_by (N := nChain) (sc := defScope sChain) (by decide +kernel))
              (fun _ _ _ _ _ => pg_name (i := 8) scChain.nd rfl (.inl rfl)) (fun _ _ _ _ _ => pts_nil)
              (fun _ _ _ _ _ => pe_call GO hr (by rfl) T.gO T.FO.kp T.bO .nil pass0 (pa_cons (pv 0) (pa_cons (pv 2) pa_nil))))
          (C8.pss_cut (ps_if (pt_cmpR op_eq (pv 3) pe_int (nomark _)) (pss_one (ps_set (i := 6) scChain.nd rfl (.inl rfl) (pe_callB cr_sorted (by rfl) T.ms (by decide +kernel) (pa_cons (pv 6) pa_nil)))) pss_nil)
          (C8.pss_cut (ps_if (pt_cmpR op_eq (pv 3) pe_int (nomark _)) (pss_one
              (ps_setLc (i := 6) (own := [("_law_place", 8)]) (g := gName 8) (tt := tYes) rfl scChain.nd rfl rfl (sw_true rfl rfl rfl (by decide +kernel)) (pi_range1 (by rfl) T.mr (pa_cons (pv 2) pa_nil)) (blkOk_by (N := nChain) (sc := defScope sChain) (by decide +kernel))
              (fun _ _ _ _ _ => pg_name (i := 8) scChain.nd rfl (.inl rfl)) (fun _ _ _ _ _ => pts_nil)
              (fun _ _ _ _ _ => pe_callB (call_max2 rfl) (by rfl) T.mm (by decide +kernel) (pa_cons pe_int (pa_cons (pe_callB (call_min2 rfl) (by rfl) T.mn (by decide +kernel) (pa_cons (pe_op op_sub (pv 2) pe_int) (pa_cons
                (pe_op op_sub (pe_op op_add (pv 8) (pe_call GO hr (by rfl) T.gO T.FO.kp T.bO .nil pass0 (pa_cons (pv 0) (pa_cons pe_int pa_nil)))) pe_int) pa_nil))) pa_nil))))) pss_nil)
          (pss_cons (ps_set (i := 7) scChain.nd rfl (.inl rfl) (pe_ix ix_list (pe_lst (pa_cons pe_int (pa_cons (pe_op op_add pe_int (pe_call GO hr (by rfl) T.gO T.FO.kp T.bO .nil pass0 (pa_cons (pv 0) (pa_cons pe_int pa_nil))))
              (pa_cons (pe_op op_add pe_int (pe_call GO hr (by rfl) T.gO T.FO.kp T.bO .nil pass0 (pa_cons (pv 0) (pa_cons pe_int pa_nil)))) pa_nil)))) (pe_call GO hr (by rfl) T.gO T.FO.kp T.bO .nil pass0 (pa_cons (pv 0) (pa_cons pe_int pa_nil))) (fun _ _ => rfl)))
          (pss_one (ps_expr (pe_bm PySem.F.plainAttrs_list PySem.F.slot_list_append PySem.F.type_list_append mt_append (pv 4) (pa_cons (pe_tup (pa_cons (pv 7) (pa_cons (pe_callTy call_tuple_of (by rfl) T.mt (by decide +kernel) (pa_cons (pv 6) pa_nil)) pa_nil))) pa_nil)))))))))
      (pss_one (ps_ret (pe_tup (pa_cons (pv 2) (pa_cons (pv 4) pa_nil)))))))), ?_⟩
    -- many, way, moves
    refine ⟨.ref d, rfl, .int most, rfl, d, l, ns, _, rfl, hD, by omega, by omega, fun r H1 hr1 hD1 o1 => ?_⟩
    refine ⟨1, r, rfl, rfl, .ref d, rfl, d, l, ns, _, rfl, hD1, by omega, by omega, fun way H2 hr2 hD2 o2 => ?_⟩
    obtain ⟨many, em⟩ : ∃ many : Nat, many = 1 + r := ⟨_, rfl⟩
    have em2 : (1 : Int) + (r : Int) = (many : Int) := by omega
    have g2 : Gr d H H2 := ((Gr.refl d H).off o1).off o2
    refine ⟨Nat.zero_le _, fun m nm => ?_⟩
    have hD3 : Dc K l ns (upd H2 m (.lst [])) d := hD2.new nm
    have g3 : Gr d H (upd H2 m (.lst [])) := g2.new nm
    have hm3 : (upd H2 m (.lst [])) m = some (.lst []) := upd_same
    -- the loop's range
    refine ⟨.ref d, rfl, (by show 3 ≤ sizeLine; decide), fun L nL => ?_⟩
    have hD4 := hD3.new (o := .lst [.int 4, .int 4, .int 8]) nL
    have g4 : Gr d H (upd (upd H2 m (.lst [])) L (.lst [.int 4, .int 4, .int 8])) := g3.new nL
    have nLm : L ≠ m := fun z => by rw [z, upd_same] at nL; cases nL
    have hm4 : (upd (upd H2 m (.lst [])) L (.lst [.int 4, .int 4, .int 8])) m = some (.lst []) := by rw [upd_ne (Ne.symm nLm)]; exact hm3
    have hL4 : (upd (upd H2 m (.lst [])) L (.lst [.int 4, .int 4, .int 8])) L = some (.lst [.int 4, .int 4, .int 8]) := upd_same
    generalize (upd (upd H2 m (.lst [])) L (.lst [.int 4, .int 4, .int 8])) = H4 at hD4 g4 hm4 hL4 ⊢
    refine ⟨.ref d, rfl, d, l, ns, _, rfl, hD4, by omega, by omega, fun r3 H5 hr3 hD5 o5 => ?_⟩
    have nmd : m ≠ d := hD2.ne nm
    have nLd : L ≠ d := hD3.ne nL
    have hL5 : H5 L = some (.lst [.int 4, .int 4, .int 8]) := by rw [o5 _ nLd]; exact hL4
    have hm5 : H5 m = some (.lst []) := by rw [o5 _ nmd]; exact hm4
    have g5 : Gr d H H5 := g4.off o5
    obtain ⟨c, hc4, hc8, hc⟩ : ∃ c : Int, 4 ≤ c ∧ c ≤ 8 ∧ ([.int 4, .int 4, .int 8] : List V)[r3]? = some (.int c) := by
      have h3 : r3 < 3 := by omega
      match r3, h3 with
      | 0, _ => exact ⟨4, by decide, by decide, rfl⟩
      | 1, _ => exact ⟨4, by decide, by decide, rfl⟩
      | 2, _ => exact ⟨8, by decide, by decide, rfl⟩
    refine ⟨L, _, _, _, rfl, rfl, SqL.of hL5, atI_nat hc, d, l, ns, _, rfl, hD5, by omega, by omega, fun cnt H6 hr6 hD6 o6 => ?_⟩
    have hm6' : H6 m = some (.lst []) := by rw [o6 _ nmd]; exact hm5
    have g6 : Gr d H H6 := g5.off o6
    refine ⟨1, cnt, rfl, rfl, _, rfl, by omega, by omega, ?_⟩
    have en : ((1 : Int) + (cnt : Int)).toNat = 1 + cnt := by omega
    refine for_range (lo := 0) (n := ((1 : Int) + (cnt : Int)).toNat)
      (fun i σ H' => ∃ y5 y6 y7 ms ws, σ = [some (.ref d), some (.int (most : Int)), some (.int ((1 : Int) + (r : Int))), some (.int (way : Int)), some (.ref m), y5, y6, y7, none] ∧
        Dc K l ns H' d ∧ Gr d H H' ∧ H' m = some (.lst ws) ∧ MovesAt H' ws ms ∧ ms.length = i ∧ ∀ mv ∈ ms, GoodMv many mv)
      ⟨none, none, none, [], [], rfl, hD6, g6, hm6', .nil, rfl, fun _ z => nomatch z⟩ ?_ ?_
    · rintro i σ H7 hi ⟨y5, y6, y7, ms, ws, rfl, hD7, g7, hm7, hM7, hl7, hg7⟩
      rw [en] at hi
      -- row = [off(d, many) for place in range(many)]
      refine ⟨_, rfl, _, rfl, by omega, by omega, fun D nD => ?_⟩
      have nDd : D ≠ d := hD7.ne nD
      have er : ((1 : Int) + (r : Int)).toNat = many := by omega
      refine lc_range (lo := 0) (n := ((1 : Int) + (r : Int)).toNat)
        (fun j H' => ∃ row : List Int, H' D = some (.lst (row.map V.int)) ∧ row.length = j ∧ (∀ x ∈ row, 0 ≤ x ∧ x < (many : Int)) ∧ Dc K l ns H' d ∧ Gr d H7 H')
        ⟨[], upd_same, rfl, (fun _ z => nomatch z), hD7.new nD, (Gr.refl d H7).new nD⟩ ?_ ?_
      · rintro j H8 hj ⟨row, hrow, hrl, hrx, hD8, g8⟩
        refine ⟨rfl, .ref d, rfl, _, rfl, d, l, ns, _, rfl, hD8, by omega, by omega, fun x H9 hx hD9 o9 => ?_⟩
        have hrow9 : H9 D = some (.lst (row.map V.int)) := by rw [o9 _ nDd]; exact hrow
        refine ⟨_, hrow9, ?_, row ++ [(x : Int)], ?_, ?_, ?_, hD9.turn hD7 nD nDd, ?_⟩
        · rw [List.length_map, hrl]
          exact small8 (by omega)
        · rw [upd_same, List.map_append]
          rfl
        · rw [List.length_append, hrl]
          rfl
        · intro z hz
          rcases List.mem_append.mp hz with hz | hz
          · exact hrx z hz
          · have e : z = (x : Int) := by simpa using hz
            omega
        · intro b o nb e
          have e8 := g8.off o9 b o nb e
          rw [upd_ne (ne_of_none e nD)]
          exact e8
      · rintro H8 ⟨row, hrow, hrl, hrx, hD8, g8⟩
        have hR : GoodRow many row := ⟨hrl.trans er, hrx⟩
        let Mid : L2.St → Hp → Prop := fun σ H9 => ∃ D9 row, σ = [some (.ref d), some (.int (most : Int)), some (.int ((1 : Int) + (r : Int))), some (.int (way : Int)), some (.ref m), some (.int (0 + (i : Int))), some (.ref D9), y7, none] ∧
          H9 D9 = some (.lst (row.map V.int)) ∧ GoodRow many row ∧ Dc K l ns H9 d ∧ Gr d H7 H9
        have mid0 : Mid [some (.ref d), some (.int (most : Int)), some (.int ((1 : Int) + (r : Int))), some (.int (way : Int)), some (.ref m), some (.int (0 + (i : Int))), some (.ref D), y7, none] H8 := ⟨D, row, rfl, hrow, hR, hD8, g8⟩
        refine ⟨Mid, ⟨_, rfl, rfl, _, rfl, ite2 (fun e => ?_) (fun e => mid0)⟩, ?_⟩
        · -- row = sorted(row)
          refine ⟨_, rfl, D, row, rfl, SqL.of hrow, by omega, fun ns' p hp _ np => ?_⟩
          exact ⟨p, ns', rfl, upd_same, perm_row hp hR, hD8.new np, g8.new np⟩
        · rintro σ9 H9 ⟨D9, row9, rfl, hrow9, hR9, hD9, g9⟩
          refine ⟨Mid, ⟨_, rfl, rfl, _, rfl, ite2 (fun e => ?_) (fun e => ⟨D9, row9, rfl, hrow9, hR9, hD9, g9⟩)⟩, ?_⟩
          · -- row = [max(0, min(many - 1, ..)) ..]
            refine ⟨_, rfl, _, rfl, by omega, by omega, fun D' nD' => ?_⟩
            have nDd' : D' ≠ d := hD9.ne nD'
            refine lc_range (lo := 0) (n := ((1 : Int) + (r : Int)).toNat)
              (fun j H' => ∃ row : List Int, H' D' = some (.lst (row.map V.int)) ∧ row.length = j ∧ (∀ x ∈ row, 0 ≤ x ∧ x < (many : Int)) ∧ Dc K l ns H' d ∧ Gr d H9 H')
              ⟨[], upd_same, rfl, (fun _ z => nomatch z), hD9.new nD', (Gr.refl d H9).new nD'⟩ ?_ ?_
            · rintro j H10 hj ⟨row', hrow', hrl', hrx', hD10, g10⟩
              refine ⟨rfl, _, rfl, _, _, rfl, rfl, _, rfl, .ref d, rfl, d, l, ns, _, rfl, hD10, by omega, by omega, fun x H11 hx hD11 o11 => ?_⟩
              refine ⟨_, _, rfl, rfl, _, _, rfl, rfl, _, _, rfl, _, _, rfl, ?_⟩
              have cl := clamp ((1 : Int) + (r : Int) - 1) (0 + (j : Int) + (x : Int) - 1) (by omega)
              generalize (if (if 0 + (j : Int) + (x : Int) - 1 < (1 : Int) + (r : Int) - 1 then 0 + (j : Int) + (x : Int) - 1 else (1 : Int) + (r : Int) - 1) > 0 then
                (if 0 + (j : Int) + (x : Int) - 1 < (1 : Int) + (r : Int) - 1 then 0 + (j : Int) + (x : Int) - 1 else (1 : Int) + (r : Int) - 1) else 0) = z at cl ⊢
              have hrow9 : H11 D' = some (.lst (row'.map V.int)) := by rw [o11 _ nDd']; exact hrow'
              refine ⟨_, hrow9, ?_, row' ++ [z], ?_, ?_, ?_, hD11.turn hD9 nD' nDd', ?_⟩
              · rw [List.length_map, hrl']
                exact small8 (by omega)
              · rw [upd_same, List.map_append]
                rfl
              · rw [List.length_append, hrl']
                rfl
              · intro y hy
                rcases List.mem_append.mp hy with hy | hy
                · exact hrx' y hy
                · have e : y = z := by simpa using hy
                  omega
              · intro b o nb e
                have e8 := g10.off o11 b o nb e
                rw [upd_ne (ne_of_none e nD')]
                exact e8
            · rintro H10 ⟨row', hrow', hrl', hrx', hD10, g10⟩
              exact ⟨D', row', rfl, hrow', ⟨hrl'.trans er, hrx'⟩, hD10, g9.trans g10⟩
          · rintro σ10 H10 ⟨D10, row, rfl, hrow, hR, hD10, g10⟩
            -- weight = [1, 1 + off(d, 4), 1 + off(d, 99)][off(d, 3)]
            have g10' : Gr d H H10 := g7.trans g10
            refine ⟨.ref d, rfl, d, l, ns, _, rfl, hD10, by omega, by omega, fun x1 H11 hx1 hD11 o11 => ?_⟩
            refine ⟨1, x1, rfl, rfl, .ref d, rfl, d, l, ns, _, rfl, hD11, by omega, by omega, fun x2 H12 hx2 hD12 o12 => ?_⟩
            refine ⟨1, x2, rfl, rfl, (by show 3 ≤ sizeLine; decide), fun W nW => ?_⟩
            have hD13 := hD12.new (o := .lst [.int 1, .int (1 + (x1 : Int)), .int (1 + (x2 : Int))]) nW
            have nWd : W ≠ d := hD12.ne nW
            have g13 : Gr d H10 (upd H12 W (.lst [.int 1, .int (1 + (x1 : Int)), .int (1 + (x2 : Int))])) := (((Gr.refl d H10).off o11).off o12).new nW
            have hW13 : (upd H12 W (.lst [.int 1, .int (1 + (x1 : Int)), .int (1 + (x2 : Int))])) W = some (.lst [.int 1, .int (1 + (x1 : Int)), .int (1 + (x2 : Int))]) := upd_same
            refine ⟨.ref d, rfl, d, l, ns, _, rfl, hD13, by omega, by omega, fun x3 H14 hx3 hD14 o14 => ?_⟩
            have hW14 : H14 W = some (.lst [.int 1, .int (1 + (x1 : Int)), .int (1 + (x2 : Int))]) := by rw [o14 _ nWd]; exact hW13
            have g14 : Gr d H10 H14 := g13.off o14
            obtain ⟨wt, hw1, hw9, hw⟩ : ∃ c : Int, 1 ≤ c ∧ c ≤ 99 ∧ ([.int 1, .int (1 + (x1 : Int)), .int (1 + (x2 : Int))] : List V)[x3]? = some (.int c) := by
              have h3 : x3 < 3 := by omega
              match x3, h3 with
              | 0, _ => exact ⟨1, by decide, by decide, rfl⟩
              | 1, _ => exact ⟨1 + (x1 : Int), by omega, by omega, rfl⟩
              | 2, _ => exact ⟨1 + (x2 : Int), by omega, by omega, rfl⟩
            refine ⟨W, _, _, _, rfl, rfl, SqL.of hW14, atI_nat hw, ?_⟩
            -- moves.append((weight, tuple(row)))
            have nm' : ∀ {H'}, Dc K l ns H' d → H' m = H' m := fun _ => rfl
            have hm14 : H14 m = some (.lst ws) := (g10.trans g14) m _ nmd hm7
            have nD10 : D10 ≠ d := hD10.ne_of hrow fun s0 l k big z => by
              injection z with z
              exact map_int_dl z
            have hrow14 : H14 D10 = some (.lst (row.map V.int)) := g14 D10 _ nD10 hrow
            refine ⟨.ref m, rfl, .inl ⟨rfl, _, SqL.of hm14⟩, .int wt, rfl, .ref D10, rfl, D10, _, rfl, .inl ⟨SqL.of hrow14, fun tq ntq => ?_⟩⟩
            refine ⟨by show 2 ≤ sizeLine; decide, fun tp ntp => ?_⟩
            have g16 : Same H14 (upd (upd H14 tq (.tup (row.map V.int))) tp (.tup [.int wt, .ref tq])) := (same_new ntq).trans (same_new ntp)
            have htp : (upd (upd H14 tq (.tup (row.map V.int))) tp (.tup [.int wt, .ref tq])) tp = some (.tup [.int wt, .ref tq]) := upd_same
            have htq : (upd (upd H14 tq (.tup (row.map V.int))) tp (.tup [.int wt, .ref tq])) tq = some (.tup (row.map V.int)) := by
              rw [upd_ne (ne_of_none upd_same ntp)]
              exact upd_same
            have hD16 := hD14.same g16
            generalize (upd (upd H14 tq (.tup (row.map V.int))) tp (.tup [.int wt, .ref tq])) = H16 at g16 htp htq hD16 ⊢
            have hm16 := g16 m _ hm14
            have gt : Gr d H7 H16 := (g10.trans g14).trans (Gr.of_same g16)
            have hM16 : MovesAt H16 ws ms := hM7.same (gt.tups (K := K) hD7)
            have hl := hM16.length
            refine ⟨m, _, _, rfl, rfl, hm16, by rw [hl]; exact small8 (by omega), ?_⟩
            refine ⟨some (.int (0 + (i : Int))), some (.ref D10), some (.int wt), ms ++ [(wt, row)], ws ++ [.ref tp], rfl, hD16.turn hD2 nm nmd, ?_, upd_same, ?_, by rw [List.length_append, hl7]; rfl, ?_⟩
            · intro b o nb e
              by_cases hb : b = m
              · rw [hb] at e nb
                have z := g2 m o nb e
                rw [nm] at z
                cases z
              · rw [upd_ne hb]
                exact (g7.trans gt) b o nb e
            · refine MovesAt.same (H := H16) ?_ (MovesAt.snoc ⟨tp, tq, rfl, htp, htq⟩ hM16)
              intro b xs e
              rw [upd_ne]
              · exact e
              · intro z
                rw [z, hm16] at e
                cases e
            · intro mv hmv
              rcases List.mem_append.mp hmv with hmv | hmv
              · exact hg7 mv hmv
              · have e : mv = (wt, row) := by simpa using hmv
                subst e
                exact ⟨hw1, hw9, hR⟩
    · rintro σ7 H7 ⟨y5, y6, y7, ms, ws, rfl, hD7, g7, hm7, hM7, hl7, hg7⟩
      refine ⟨_, rfl, .ref m, rfl, (by show 2 ≤ sizeLine; decide), fun t nt => ?_⟩
      refine q t m many ws ms _ ⟨by omega, by omega, by omega, by omega, hg7⟩ (by omega) ⟨?_, same_new nt _ _ hm7, hM7.same (Same.tups (same_new nt))⟩ (hD7.new nt) (g7.new nt)
      rw [← em2]
      exact upd_same
end
end
/-! ### all(x in range(y) for x in a tuple of ints): a rule of our own -/
/-- the element: x in range(y), y a captured int -/
def eltR (x y : Str) (p1 p2 p3 p4 p5 : Pos) : Expr := .Compare (.Name x p1) [.In] [.Call (.Name "range" p2) [.Name y p3] [] p4] p5
def inR (n z : Int) : Bool := decide (0 ≤ z ∧ z < n)
theorem elt_range {prog : Program} {w : World} {cenv : Env} {A : Around} {E : Value → Shared → Prop} {x y : Str} {p1 p2 p3 p4 p5 : Pos} {s : Shared} {m mg mb : Str → Option Value} {cc : Addr} {z n : Int} {t u : Tok}
    (kf : cenv.scope.kind = .function) (kx : cenv.kindOf x = some .local) (ky : cenv.kindOf y = some .free) (kr : cenv.kindOf "range" = some .globalImplicit) (hm : s.heap.Ns cenv.locals m) (ex : m x = some (.int z t))
    (hc : cenv.cells.lookup y = some cc) (ec : s.heap.IsCell cc (some (.int n u))) (hg : s.heap.Ns cenv.globals mg) (nr : mg "range" = none) (hb : s.heap.Ns cenv.builtins mb) (br : mb "range" = some (.type "range"))
    (dx : (x == ("__debug__" : Str)) = false) (dy : (y == ("__debug__" : Str)) = false) (cy : (y == ("__classdict__" : Str)) = false) :
    wpAny (model prog w) A (eval (eltR x y p1 p2 p3 p4 p5) cenv) (fun v s' => v = .bool (inR n z) ∧ Keeps s s') E s := by
  refine wpAny_Compare1 (wpAny_Name (wpAny_loadName_local kf kx hm ex ?_) dx) (by rfl)
  refine wpAny_Call_Name_kw (Calls.Name_function_global kf kr (Calls.loadGlobal_builtin hg nr hb br ?_) (by decide))
  refine PyProof.Rows.callWith_type1 (Calls.spliced_cons (wpAny_Name (wpAny_loadName_free kf ky hc ec ?_ cy) dy)) (by rfl) (by rfl)
  refine Calls.spliced_nil (call_range_1 ?_)
  have ho := Heap.get?_push_size s.heap (o := { cls := .type "range", data := .fields #[.int 0 s.toks, .int n u, .int 1 (s.toks + 1)] }) rfl
  show wpAny _ _ (do return Value.bool (← contains (Value.ref s.heap.objs.size) (Value.int z t))) _ _ _
  refine wpAny_bind (wpAny_contains_slot (T := "range") ⟨_, ho, rfl⟩ F.slot_range_contains (call_meets F.slot_range_contains ⟨_, ho, rfl⟩ F.entry_range_contains (F.args_range_contains_2 _ _) (q_contains s.heap.objs.size 0 n z s.toks u (s.toks + 1) t) ⟨ho, ?_⟩))
  refine wpAny_truthy_bool (wpAny_pure ⟨?_, _, _, rfl, fun b o e => Heap.get?_push_of_some _ e⟩)
  rw [place1]
  rfl
open GxR in
/-- the walk that all(..) makes, once the generator stands at g -/
def AllReady (X : Cx) (pins : List (Addr × Obj)) (σ : L2.St) (H1 : Hp) (P : Addr) (bs : List Bool) (g : Addr) (s5 : Shared) : Prop :=
  ∃ (fp wr : List Addr) (G : Array GenState → Array GenState → Prop) (F : Nat → Value → Prop) (St : Nat → Shared → Prop) (tr : Nat → Bool),
    WalksS X.prog X.w X.A.in1 g fp wr G bs.length F St ∧ St 0 s5 ∧ TruthOf X.prog X.w X.A.in1 F tr ∧ (∀ j b, bs[j]? = some b → tr j = b) ∧
    ∀ s', Moved wr G s5 s' → ∃ H2, Tabbed P H1 H2 ∧ Inv X pins σ H2 s'
theorem clo_one {cells : List (Str × Addr)} : ∀ (names : List (Str × NameKind)) (acc : List (Str × Addr)) (y : Str) (cc : Addr), (∀ p ∈ names, p.2 = .free → cells.lookup p.1 = some ((cells.lookup p.1).getD 0)) → cells.lookup y = some cc →
    ((y, NameKind.free) ∈ names ∨ acc.lookup y = some cc) → (cloFrom cells names acc).lookup y = some cc := by
  intro names
  induction names with
  | nil =>
    intro acc y cc _ _ h
    rcases h with h | h
    · cases h
    · exact h
  | cons p r ih =>
    intro acc y cc hf hy h
    obtain ⟨n, kd⟩ := p
    unfold cloFrom
    have hf' : ∀ p ∈ r, p.2 = .free → cells.lookup p.1 = some ((cells.lookup p.1).getD 0) := fun p hp => hf p (List.mem_cons_of_mem _ hp)
    by_cases hk : (kd == NameKind.free) = true
    · rw [if_pos hk]
      refine ih _ y cc hf' hy ?_
      by_cases hn : y = n
      · subst hn
        refine .inr ?_
        rw [List.lookup_cons_self, hy]
        rfl
      · rcases h with h | h
        · rcases List.mem_cons.mp h with e | e
          · injection e with e1 _
            exact absurd e1 hn
          · exact .inl e
        · refine .inr ?_
          rw [List.lookup_cons, show (y == n) = false from by simpa using hn]
          exact h
    · rw [if_neg hk]
      refine ih _ y cc hf' hy ?_
      rcases h with h | h
      · rcases List.mem_cons.mp h with e | e
        · injection e with _ e2
          exact absurd (by rw [← e2]; rfl) hk
        · exact .inl e
      · exact .inr h
/-- the generator's code object: there already, or made and put into the table -/
theorem gen_code {M : Model} {A : Around} {env : Env} {c P : Addr} {gpos : Pos} {q : Str} {scope : Scope} {E : Value → Shared → Prop} {Q : Value → Shared → Prop} {s : Shared} {ps : Array Value} (hcode : env.code = .ref c) (cd : PySem.W.CodeHd s.heap c P)
    (hP : s.heap.get? P = some { cls := .none, data := .fields ps }) (ht : TriplesOk ps.toList)
    (h : ∀ (code : Value) (h3 : Heap) (tk : Nat) (more : Array Value), Heap.ExtBut P s.heap h3 → s.heap.objs.size ≤ h3.objs.size → h3.get? P = some { cls := .none, data := .fields (ps ++ more) } → TriplesOk (ps ++ more).toList → Q code { s with heap := h3, toks := tk }) :
    wpAny M A (genexprCode env gpos q scope) Q E s := by
  match hf : codeAmong gpos ps.toList with
  | some cv => exact wpAny_genexprCode_hit hcode (cd.code hP ht) hf (h cv s.heap s.toks #[] (Heap.ExtBut.refl _ _) (Nat.le_refl _) (by rw [Array.append_empty]; exact hP) (by rw [Array.append_empty]; exact ht))
  | none =>
    refine wpAny_genexprCodeX hcode (cd.code hP ht) (cd.tab hP) hf fun c' h' tk hx hge hlt hco _ htab _ => h _ h' tk _ hx (Nat.le_trans hge (Nat.le_of_lt hlt)) htab.2 ?_
    obtain ⟨_, _, _, _, _, _, _, _, _, _, _, _, _, _, _, _, _, _, _, htr, _⟩ := hco
    exact htr
section
variable {X : Cx} {pins : List (Addr × Obj)} {σ : L2.St} {H : Hp} {s : Shared}
open GxR in
theorem gen_range {c P : Addr} {iter : Expr} {x y : Str} {px gpos p1 p2 p3 p4 p5 : Pos} {scope : Scope} {te : TE} {k i : Nat} {Q' : Value → Shared → Prop} {R : List Int → Int → Hp → Prop}
    (hr : Room k X.A) (TB : TabB X.base X.mg c P) (hcode : X.env.code = .ref c) (S : GenS X.env scope x) (hi : PE X iter te) (hy : X.N[i]? = some y) (vy : X.env.kindOf y = some .cell) (fy : (y, NameKind.free) ∈ scope.names) (ly : scope.names.lookup y = some .free)
    (lr : scope.names.lookup ("range" : Str) = some .globalImplicit) (nr : X.mg "range" = none) (dx : (x == ("__debug__" : Str)) = false) (dy : (y == ("__debug__" : Str)) = false) (cy : (y == ("__classdict__" : Str)) = false)
    (hs : ∀ v, genFold iter X.env v = pure v) (I : Inv X pins σ H s) (h : te σ H fun v H1 => ∃ (a : Addr) (ns : List Int) (n : Int), v = .ref a ∧ SqT X.K H1 a (ns.map V.int) ∧ TabG H1 P ∧ σ[i]? = some (some (.int n)) ∧ R ns n H1)
    (hQ : ∀ ns n H1 g s5, R ns n H1 → AllReady X pins σ H1 P (ns.map (inR n)) g s5 → Q' (.ref g) s5) :
    wpAny (model X.prog X.w) X.A (eval (.GeneratorExp (eltR x y p1 p2 p3 p4 p5) [⟨.Name x px, iter, [], 0⟩] scope gpos) X.env) Q' X.xe s := by
  refine wpAny_GeneratorExp_walksQ hr.hd S.co (closure_ok S.free) S.cell S.dot S.loc S.kind (by have := hr.dp; omega) ?_ hs
  refine thn (hi.run pins s σ H _ I h) fun xv s1 ⟨v, H1, I1, r1, a, ns, n, ev, hT, hTab, hn, hR⟩ => ?_
  subst ev
  obtain rfl : xv = Value.ref a := r1
  obtain ⟨its, rv, hTup, hz⟩ := I1.tuple hT
  have tupAt : s1.heap.IsTuple a its.toArray := hTup
  -- the captured int
  obtain ⟨cc, u, hcc, hcell⟩ : ∃ (cc : Addr) (u : Tok), X.env.cells.lookup y = some cc ∧ s1.heap.IsCell cc (some (.int n u)) := by
    obtain ⟨m, _, hl⟩ := I1.loc
    obtain ⟨uv, ru, lk⟩ := hl i y (.int n) hy hn (.inr (.inl vy))
    obtain ⟨u, eu⟩ := ru
    subst eu
    rcases lk with ⟨k1, _⟩ | ⟨_, cc, e1, e2⟩
    · rw [vy] at k1
      cases k1
    · exact ⟨cc, u, e1, e2⟩
  obtain ⟨mb, bb1, bb2⟩ := I1.mod.blt
  have lenI : its.toArray.size = ns.length := by
    have e := rv.length
    rw [List.length_map] at e
    simp only [List.size_toArray]
    omega
  obtain ⟨ps, hP, hps⟩ := hTab
  refine wpAny_pyIter_tuple tupAt ?_
  -- it: the iterator's object
  let it : Obj := { cls := .type "tuple_iterator", data := .fields #[.ref a, .int 0 0] }
  have atP : s1.heap.get? P = some { cls := .none, data := .fields ps } := I1.hok P _ hP
  have ltP : P < s1.heap.objs.size := Heap.lt_size atP
  have limI : (s1.heap.push it).NoLimit := I1.nolimit.push it
  have keepI : ∀ b o, s1.heap.get? b = some o → (s1.heap.push it).get? b = some o := fun b o e => Heap.get?_push_of_some _ e
  have codeI : PySem.W.CodeHd (s1.heap.push it) c P := TB.code.keeps fun b o e => keepI b o (I1.bk b o e)
  have ltS : cStatics < s1.heap.objs.size := let ⟨_, q, _⟩ := I1.nolimit; q.lt
  have neS : cStatics ≠ P := fun e => by
    obtain ⟨_, ⟨o', es, ep, g1, g2, _⟩, _⟩ := I1.nolimit
    rw [e, atP] at g1
    cases g1
    cases g2
  have szI : (s1.heap.push it).objs.size = s1.heap.objs.size + 1 := Heap.size_push ..
  have iterI : (s1.heap.push it).IsTupleIter s1.heap.objs.size a 0 := ⟨_, Heap.get?_push_size _ rfl, rfl, rfl⟩
  have tupI : (s1.heap.push it).IsTuple a its.toArray := by
    obtain ⟨o, e, r⟩ := tupAt
    exact ⟨o, keepI _ _ e, r⟩
  have neIt : a ≠ s1.heap.objs.size := by
    obtain ⟨o, e, _⟩ := tupAt
    exact Nat.ne_of_lt (Heap.lt_size e)
  have neAP : a ≠ P := fun e => by
    obtain ⟨o, g, _, nn, dd⟩ := tupAt
    rw [e, atP] at g
    cases g
    cases dd
  have Wk : ∀ A' : Around, A'.handled = none → Walks X.prog X.w A' s1.heap.objs.size [s1.heap.objs.size, a] [s1.heap.objs.size] its.toArray.size (fun j v => its.toArray[j]? = some v) (fun j hp => hp.IsTupleIter s1.heap.objs.size a j ∧ hp.IsTuple a its.toArray) :=
    fun A' hA => Walks.tuple hA s1.heap.objs.size a neIt its.toArray
  refine ⟨limI, gen_code hcode codeI (keepI _ _ atP) hps fun code h3 tk more hx hge hP3 ht3 => ?_⟩
  have hge2 : s1.heap.objs.size + 1 ≤ h3.objs.size := by
    rw [← szI]
    exact hge
  have keep3 : ∀ b o, b ≠ P → s1.heap.get? b = some o → h3.get? b = some o := fun b o nb e => hx b o nb (keepI b o e)
  obtain ⟨bm, ob, f1, f2, f3, f4, f5, f6, f7, f8⟩ := TB.bm
  have glob3 : h3.Ns X.env.globals X.mg := by
    rw [I1.ok.glob]
    exact ((I1.mod.glob.keeps I1.bk).push it).extBut hx TB.gP
  refine wpAny_builtinsFor (m := X.mg) glob3 f1 f2 (keep3 _ _ f4 (I1.bk _ _ f5)) f6 f7 f8 ?_
  refine ⟨s1.heap.objs.size, [s1.heap.objs.size, a], [s1.heap.objs.size], its.toArray.size, fun j v => its.toArray[j]? = some v, _, fun _ => true, fun j v => ∃ z, ns[j]? = some z ∧ v = .bool (inR n z), rfl, Wk, ?_, ?_, limI.extBut hx neS, ?_, ?_, ?_⟩
  · refine ⟨?_, ?_⟩
    · obtain ⟨o, e, r⟩ := iterI
      exact ⟨o, hx _ _ (Nat.ne_of_gt ltP) e, r⟩
    · obtain ⟨o, e, r⟩ := tupI
      exact ⟨o, hx _ _ neAP e, r⟩
  · intro b hb
    show b < h3.objs.size
    rcases List.mem_cons.mp hb with e | e
    · rw [e]
      exact Nat.lt_of_succ_le hge2
    · have e2 : b = a := by simpa using e
      obtain ⟨o, g, _⟩ := tupAt
      have lta := Heap.lt_size g
      rw [e2]
      exact Nat.lt_of_lt_of_le lta (by omega)
  · intro hmem
    have e : cStatics = s1.heap.objs.size := by simpa using hmem
    rw [e] at ltS
    exact Nat.lt_irrefl _ ltS
  · intro href hhref
    refine ⟨fun A' E' j v s₂ m₂ hA hPv ha2 hb2 hk => ?_, fun A' E' j v s₂ m₂ hA hPv _ ha2 hb2 hk => ?_⟩
    · simp only [List.forIn_nil]
      exact wpAny_pure ⟨rfl, s₂.heap, s₂.toks, rfl, fun _ _ e => e⟩
    · -- what stood ahead of the generator stands
      have old : ∀ b o, b ≠ P → s1.heap.get? b = some o → s₂.heap.get? b = some o := fun b o nb e => by
        refine hk b (List.mem_range.mpr ?_) (fun z => ?_) o (hhref b o (keep3 b o nb e))
        · exact Nat.lt_of_lt_of_le (Heap.lt_size e) (by show s1.heap.objs.size ≤ h3.objs.size; omega)
        · have e2 : b = s1.heap.objs.size := by simpa using z
          exact Nat.ne_of_lt (Heap.lt_size e) e2
      have nPb : ∀ b o, X.base.get? b = some o → b ≠ P := fun b o e z => by
        have q := (I1.bs b o e).2
        rw [z, hP] at q
        cases q
      have hjv : its[j]? = some v := by simpa using hPv
      obtain ⟨zv, ez, rz⟩ : ∃ z, ns[j]? = some z ∧ RelV (.int z) v := by
        have hj : j < ns.length := by
          obtain ⟨h, _⟩ := List.getElem?_eq_some_iff.mp hjv
          simpa [lenI] using (show j < its.toArray.size by simpa using h)
        obtain ⟨uu, g1, g2⟩ := rv.get (i := j) (x := .int ns[j]) (by rw [List.getElem?_map, List.getElem?_eq_getElem hj]; rfl)
        rw [hjv] at g1
        cases g1
        exact ⟨_, List.getElem?_eq_getElem hj, g2⟩
      obtain ⟨tz, rfl⟩ := rz
      have cellS : s₂.heap.IsCell cc (some (.int n u)) := by
        obtain ⟨o, e, d⟩ := hcell
        refine ⟨o, old _ _ (fun z => ?_) e, d⟩
        rw [z, atP] at e
        cases e
        cases d
      have gS : s₂.heap.Ns mainGlobals X.mg := by
        obtain ⟨o, es, ep, e, r⟩ := I1.mod.glob
        exact ⟨o, es, ep, old _ _ (nPb _ _ e) (I1.bk _ _ e), r⟩
      have bS : s₂.heap.Ns builtinsNs mb := by
        obtain ⟨o, es, ep, e, r⟩ := bb1
        exact ⟨o, es, ep, old _ _ (nPb _ _ e) (I1.bk _ _ e), r⟩
      have hclo : (cloFrom X.env.cells scope.names []).lookup y = some cc := clo_one _ _ _ _ (fun p hp hf => by
        obtain ⟨c', ec'⟩ := S.free p hp hf
        rw [ec']
        rfl) hcc (.inl fy)
      refine thn (elt_range (x := x) (y := y) S.kind S.loc ly lr ha2 hb2 hclo cellS (mg := X.mg) (by show s₂.heap.Ns X.env.globals X.mg; rw [I1.ok.glob]; exact gS) nr bS ((bb2 "range" (by decide)).trans (by decide +kernel)) dx dy cy) fun v' s3 hv => ⟨⟨zv, ez, hv.1⟩, hv.2⟩
  · intro g h5 tk5 gs hbare hag hsz5 hk5 W5 hat
    have e0 : passing (fun _ => true) its.toArray.size 0 = List.range its.toArray.size := GxR.passing_true _
    rw [e0] at W5
    rw [List.length_range, lenI] at W5
    have oldA : ∀ b o, s1.heap.get? b = some o → b ∉ h3.objs.size :: [s1.heap.objs.size] := fun b o e hb => by
      have l0 := Heap.lt_size e
      rcases List.mem_cons.mp hb with z | z
      · rw [z] at l0
        exact absurd (Nat.lt_of_lt_of_le l0 (Nat.le_of_succ_le hge2)) (Nat.lt_irrefl _)
      · have z2 : b = s1.heap.objs.size := by simpa using z
        exact Nat.ne_of_lt l0 z2
    have W6 := W5.in4_1
    rw [show ns.length = (ns.map (inR n)).length from (List.length_map _).symm] at W6
    rw [lenI, show ns.length = (ns.map (inR n)).length from (List.length_map _).symm] at hat
    refine hQ ns n H1 g _ hR ⟨_, _, _, _, _, fun j => (ns.map (inR n)).getD j false, W6, hat, ?_, fun j b hb => by show (ns.map (inR n)).getD j false = b; rw [List.getD_eq_getElem?_getD, hb]; rfl, fun s' hm => ?_⟩
    · intro j yv sj Qj Ej hy hQj
      obtain ⟨i', hij, z, hz', rfl⟩ := hy
      obtain ⟨hj, ej⟩ := List.getElem?_eq_some_iff.mp hij
      rw [List.getElem_range] at ej
      subst ej
      refine wpAny_truthy_bool ?_
      have eb : (ns.map (inR n)).getD j false = inR n z := by
        rw [List.getD_eq_getElem?_getD, List.getElem?_map, hz']
        rfl
      have hQj' : Qj ((ns.map (inR n)).getD j false) sj := hQj
      rw [eb] at hQj'
      exact hQj'
    · have J := inv_tab (more := more) (h' := s'.heap) (g' := s'.gens) (d' := s'.drawn) (t' := s'.toks) I1 hP (fun b o nb e => hm.heap b o (oldA b o e) (hk5 b o (keep3 b o nb e))) (hm.heap P _ (oldA P _ atP) (hk5 P _ hP3)) (AllBare.movedS (I1.bare.push hbare) hm)
      rw [sh_eta s1 s' hm.os] at J
      exact ⟨upd H1 P (.tbl (ps ++ more)), ⟨⟨ps ++ more, upd_same, ht3⟩, fun b hb => upd_ne hb⟩, J⟩
/-- all(x in range(y) for x in e): e a tuple of ints, y an int in slot i -/
def tAllR (K : PySem.W.Frag) (P : Addr) (i : Nat) (te : TE) : TE := fun σ H Q => te σ H fun v H1 => ∃ (a : Addr) (ns : List Int) (n : Int), v = .ref a ∧ SqT K H1 a (ns.map V.int) ∧ GxR.TabG H1 P ∧ σ[i]? = some (some (.int n)) ∧
  ∀ H2, GxR.Tabbed P H1 H2 → Q (.bl (ns.all (inR n))) H2
theorem all_tr : ∀ (bs : List Bool) (tr : Nat → Bool), (∀ j b, bs[j]? = some b → tr j = b) → (List.range bs.length).all tr = bs.all id := by
  intro bs tr h
  rw [Bool.eq_iff_iff, List.all_eq_true, List.all_eq_true]
  constructor
  · intro g b hb
    obtain ⟨j, hj, e⟩ := List.getElem_of_mem hb
    have q := g j (List.mem_range.mpr hj)
    rw [h j b (by rw [List.getElem?_eq_getElem hj, e])] at q
    exact q
  · intro g j hj
    have hj' := List.mem_range.mp hj
    rw [h j bs[j] (List.getElem?_eq_getElem hj')]
    exact g _ (List.getElem_mem hj')
theorem pe_allR {c P : Addr} {iter : Expr} {x y : Str} {px p pos gpos p1 p2 p3 p4 p5 : Pos} {scope : Scope} {te : TE} {k i : Nat}
    (hr : Room k X.A) (hg : Gl X "all") (hm : X.mg "all" = none) (TB : GxR.TabB X.base X.mg c P) (hcode : X.env.code = .ref c) (S : GxR.GenS X.env scope x) (hi : PE X iter te) (hy : X.N[i]? = some y) (vy : X.env.kindOf y = some .cell) (fy : (y, NameKind.free) ∈ scope.names) (ly : scope.names.lookup y = some .free)
    (lr : scope.names.lookup ("range" : Str) = some .globalImplicit) (nr : X.mg "range" = none) (dx : (x == ("__debug__" : Str)) = false) (dy : (y == ("__debug__" : Str)) = false) (cy : (y == ("__classdict__" : Str)) = false)
    (hs : ∀ v, genFold iter X.env v = pure v)
    (he : starEach [.GeneratorExp (eltR x y p1 p2 p3 p4 p5) [⟨.Name x px, iter, [], 0⟩] scope gpos] X.env = (false, eval (.GeneratorExp (eltR x y p1 p2 p3 p4 p5) [⟨.Name x px, iter, [], 0⟩] scope gpos) X.env) :: starEach [] X.env := by rfl) :
    PE X (.Call (.Name "all" p) [.GeneratorExp (eltR x y p1 p2 p3 p4 p5) [⟨.Name x px, iter, [], 0⟩] scope gpos] [] pos) (tAllR X.K P i te) := by
  refine ⟨fun pins s σ H Q I h => wpAny_Call_Name_kw (ld_blt I hg hm (by decide +kernel) (PyProof.Rows.callWith_builtin1 (id := "all") ?_ he (by rfl)))⟩
  rw [he]
  show wpAny _ _ (spliced (_ :: backTo pos (starEach [] X.env))) _ _ s
  refine Calls.spliced_cons (gen_range (R := fun ns n H1 => ∀ H2, GxR.Tabbed P H1 H2 → Q (.bl (ns.all (inR n))) H2) hr TB hcode S hi hy vy fy ly lr nr dx dy cy hs I h fun ns n H1 g s5 hR ⟨fp, wr, G, F, St', tr, W, hst, htr, hb, hI⟩ => Calls.spliced_nil ?_)
  refine call_all_walkS (W.self 0 _ _ _ hst ⟨g, fp, wr, G, _, F, St', _, rfl, W, hst, htr, fun s' hmv => ?_⟩)
  obtain ⟨H2, hT, J⟩ := hI s' hmv
  refine ⟨.bl _, H2, J, rfl, ?_⟩
  rw [all_tr _ tr hb, List.all_map]
  exact hR H2 hT
end
/-! ### a def of the text whose code object is known -/
structure FunT (K : PySem.W.Frag) (x qual : Str) (st : Stmt) (f : Addr) (fd : FuncData) (c : Addr) : Prop where
  ex : ∃ (oc : Value) (od : Option Addr) (kV doc pm : Value) (an : Option Addr) (ct : Value) (osl : Array (Option Value)),
    fd = PySem.W.fnOf x qual (defArgs st) (defBody st) (defScope st) .none kV doc pm an (.ref c) ct ∧ K.lookup f = some ⟨oc, od, .func fd, osl⟩ ∧ PySem.W.codeIn K (.ref c) qual = true
  kp : PySem.W.keepIn K (.ref f) = true
/-- x not in range(..) -/
theorem op_notIn_rng {X : Cx} : OpR X (compareOp .NotIn) (fun x y H Q => ∃ i a lo hi, x = V.int i ∧ y = V.ref a ∧ H a = some (.rng lo hi) ∧ Q (.bl (!decide (lo ≤ i ∧ i < hi))) H) := by
  intro pins s σ H x y v u Q I rx ry ⟨i, a, lo, hi, ex, ey, ha, q⟩
  subst ex ey
  obtain ⟨k, rfl⟩ := rx
  have e2 : u = Value.ref a := ry
  subst e2
  obtain ⟨t1, t2, t3, ho⟩ := I.hok a _ ha
  show wpAny _ _ (do return Value.bool (!(← contains (Value.ref a) (Value.int i k)))) _ _ s
  refine wpAny_bind (wpAny_contains_slot (T := "range") ⟨_, ho, rfl⟩ F.slot_range_contains (call_meets F.slot_range_contains ⟨_, ho, rfl⟩ F.entry_range_contains (F.args_range_contains_2 _ _) (q_contains a lo hi i t1 t2 t3 k) ⟨ho, wpAny_truthy_bool ?_⟩))
  refine wpAny_pure ⟨.bl _, H, I, rfl, ?_⟩
  rw [place1]
  exact q
section
variable {P : Program} {w : World} {K : PySem.W.Frag} {mg : Str → Option Value} {base : Heap}
/-! ### _is_move -/
theorem scIsMove : FnScope ["many", "move", "weight", "whither"] ["many", "move"] (defScope sIsMove) := ⟨rfl, rfl, rfl, by decide +kernel, rfl, by decide +kernel, by decide +kernel⟩
def isMv (many : Int) (m : Mv) : Bool := decide (1 ≤ m.1 ∧ m.1 < 100) && decide ((m.2.length : Int) = many) && m.2.all (inR many)
def spIsMove (T : Addr) : Sp := fun vs H Q _ => ∃ (many : Int) (v : V) (m : Mv), vs = [.int many, v] ∧ MoveAt H v m ∧ GxR.TabG H T ∧ ∀ H', Gr T H H' → GxR.TabG H' T → Q (.bl (isMv many m)) H'
/-- the program's names that a chain leans on -/
structure ChTxt (K : PySem.W.Frag) (mg : Str → Option Value) (fM cM tM : Addr) (fdM : FuncData) (C fI : Addr) (fdI : FuncData) : Prop where
  FM : FunT K "_is_move" "_is_move" sIsMove fM fdM cM
  bM : Binds K fdM ["many", "move"] []
  gM : mg "_is_move" = some (.ref fM)
  FI : Fun K "__init__" "Chain.__init__" (inClass cChain 0) fI fdI
  bI : Binds K fdI ["self", "many", "moves"] []
  mC : Mk K C fI
  cl : Cls K C
  nM : NoAttr K C "_many"
  nV : NoAttr K C "_moves"
  gC : mg "Chain" = some (.ref C)
  gP : ∃ t, mg "MOST_PLACES" = some (.int 6 t)
  gV : ∃ t, mg "MOST_MOVES" = some (.int 8 t)
  gW : ∃ t, mg "MOST_WEIGHT" = some (.int 99 t)
  ml : mg "len" = none
  mi : mg "isinstance" = none
  mt : mg "tuple" = none
  mr : mg "range" = none
  ma : mg "all" = none
  me : mg "enumerate" = none
  mL : mg "list" = none
section
variable {fM cM tM : Addr} {fdM : FuncData} {C fI : Addr} {fdI : FuncData}
theorem genS_move {L f : Addr} {cdv : Value} {scope : Scope} (hs : scope.names = [((".0" : Str), .local), (("place" : Str), .local), (("many" : Str), .free), (("range" : Str), .globalImplicit)]) (hk : scope.kind = .function) (hc : scope.isCoroutine = false) (ha : (envOfC "_is_move" (defScope sIsMove) L f cdv).cells.lookup ("many" : Str) ≠ none) :
    GxR.GenS (envOfC "_is_move" (defScope sIsMove) L f cdv) scope "place" := by
  refine ⟨hk, hc, ?_, ?_, ?_, ?_⟩
  · rw [hs]
    decide +kernel
  · rw [hs]
    decide +kernel
  · rw [hs]
    decide +kernel
  · intro y hy hf
    rw [hs] at hy
    have e : y.1 = ("many" : Str) := by
      rcases List.mem_cons.mp hy with e | hy
      · rw [e] at hf
        cases hf
      rcases List.mem_cons.mp hy with e | hy
      · rw [e] at hf
        cases hf
      rcases List.mem_cons.mp hy with e | hy
      · rw [e]
      rcases List.mem_cons.mp hy with e | hy
      · rw [e] at hf
        cases hf
      · cases hy
    rw [e]
    cases q : (envOfC "_is_move" (defScope sIsMove) L f cdv).cells.lookup ("many" : Str) with
    | none => exact absurd q ha
    | some c => exact ⟨c, rfl⟩
theorem ok_ismove (T : ChTxt K mg fM cM tM fdM C fI fdI) (TB : GxR.TabB base mg cM tM) : FnOk P w K mg base CX0 1 fM fdM ["many", "move"] (spIsMove tM) := by
  obtain ⟨oc, od, kV, doc, pm, an, ct, osl, efd, lk, hcd⟩ := T.FM.ex
  subst efd
  obtain ⟨tw, gW⟩ := T.gW
  refine fn_of (N := ["many", "move", "weight", "whither"]) lk hcd scIsMove (fun vs H Q E h => ?_) (fun A outer s H vs Q E hr h => ?_)
  · obtain ⟨many, v, m, rfl, _⟩ := h
    rfl
  · obtain ⟨many, v, m, rfl, ⟨a, b, rfl, ha, hb⟩, hTab, q⟩ := h
    refine ⟨_, pss_cons (ps_if (PW.pt (pw_or (pt_not (pt_val (pe_callB RZ.call_isTy (by rfl) T.mi (by decide +kernel) (pa_cons (pv 1) (pa_cons (pe_bltn (v := .ty "tuple") (by rfl) T.mt (by decide +kernel) rfl) pa_nil)))))
          (pw_or1 (pt_cmpR op_ne (pe_callB call_len_seq (by rfl) T.ml PySem.boot_len (pa_cons (pv 1) pa_nil)) pe_int (nomark _))))) (pss_one (ps_ret pe_bl)) pss_nil)
      (pss_cons (ps_asg (pv 1) (pg_tup rfl (pgs_cons (pg_name (i := 2) scIsMove.nd rfl (.inl rfl)) (pgs_cons (pg_name (i := 3) scIsMove.nd rfl (.inl rfl)) pgs_nil))))
      (pss_cons (ps_if (pt_cmpR op_notIn_rng (pv 2) (pe_callTy cr_range2 (by rfl) T.mr (by decide +kernel) (pa_cons pe_int (pa_cons (pe_op op_add (pe_glob (v := .int 99) (by rfl) gW ⟨_, rfl⟩) pe_int) pa_nil))) rfl) (pss_one (ps_ret pe_bl)) pss_nil)
      (pss_cons (ps_if (PW.pt (pw_or (pt_not (pt_val (pe_callB RZ.call_isTy (by rfl) T.mi (by decide +kernel) (pa_cons (pv 3) (pa_cons (pe_bltn (v := .ty "tuple") (by rfl) T.mt (by decide +kernel) rfl) pa_nil)))))
          (pw_or1 (pt_cmpR op_ne (pe_callB call_len_seq (by rfl) T.ml PySem.boot_len (pa_cons (pv 3) pa_nil)) (pv 0) (nomark _))))) (pss_one (ps_ret pe_bl)) pss_nil)
      (pss_one (ps_ret (pe_allR (k := 0) (x := "place") (y := "many") (i := 0) hr (by rfl) T.ma TB rfl (genS_move (by rfl) rfl rfl ?hcell) (pv 3) rfl rfl (by decide +kernel) (by decide +kernel) (by decide +kernel) T.mr (by decide) (by decide) (by decide) (fun _ => rfl) (by rfl))))))), ?_⟩
    case hcell =>
      intro z
      have q : ((envOfC "_is_move" (defScope sIsMove) s.heap.objs.size fM (.ref cM)).cells.lookup ("many" : Str)).isSome = true := PySem.W.cellsFrom_some _ _ _ (.inl (by decide +kernel))
      rw [z] at q
      cases q
    have neT : ∀ {p : Addr}, H p = none → p ≠ tM := fun np z => by
      obtain ⟨ps, e, _⟩ := hTab
      rw [z, e] at np
      cases np
    refine ⟨.ref a, rfl, .ref a, "tuple", rfl, .tup ha, true, rfl, ?_⟩
    refine ⟨.ref a, rfl, a, _, rfl, .inr (SqT.of ha), rfl, _, rfl, iteNS rfl ?_⟩
    refine ⟨.ref a, rfl, a, _, rfl, SqT.of ha, rfl, .int m.1, [.ref b], rfl, .ref b, [], rfl, rfl, ?_⟩
    refine ⟨.int m.1, rfl, 99, 1, rfl, rfl, 1, 100, rfl, fun r nr => ⟨m.1, r, 1, 100, rfl, rfl, upd_same, _, rfl, ?_⟩⟩
    have g1 : Same H (upd H r (.rng 1 100)) := same_new nr
    have tab1 : GxR.TabG (upd H r (.rng 1 100)) tM := by
      obtain ⟨ps, e, t⟩ := hTab
      exact ⟨ps, g1 _ _ e, t⟩
    have hb1 := g1 _ _ hb
    by_cases h1 : 1 ≤ m.1 ∧ m.1 < 100
    · refine iteNS h1 ?_
      refine ⟨.ref b, rfl, .ref b, "tuple", rfl, .tup hb1, true, rfl, ?_⟩
      refine ⟨.ref b, rfl, b, _, rfl, .inr (SqT.of hb1), .int many, rfl, rfl, _, rfl, ?_⟩
      by_cases h2 : (((m.2.map V.int).length : Nat) : Int) = many
      · refine iteNS (congrArg V.int h2) ?_
        refine ⟨.ref b, rfl, b, m.2, many, rfl, SqT.of hb1, tab1, rfl, fun H2 ⟨t2, k2⟩ => ?_⟩
        have e : isMv many m = m.2.all (inR many) := by
          unfold isMv
          rw [List.length_map] at h2
          rw [decide_eq_true h1, decide_eq_true h2, Bool.true_and, Bool.true_and]
        have q2 := q H2 (fun x o nx ex => by rw [k2 x nx]; exact g1 _ _ ex) t2
        rw [e] at q2
        exact q2
      · have e : isMv many m = false := by
          unfold isMv
          rw [List.length_map] at h2
          rw [decide_eq_false h2, Bool.and_false, Bool.false_and]
        have q2 := q _ (Gr.of_same g1) tab1
        rw [e] at q2
        have h3 : ¬ V.int (((m.2.map V.int).length : Nat) : Int) = V.int many := fun z => h2 (V.int.inj z)
        show if (!decide (V.int (((m.2.map V.int).length : Nat) : Int) = V.int many)) = true then _ else _
        rw [decide_eq_false h3]
        exact q2
    · have e : isMv many m = false := by
        unfold isMv
        rw [decide_eq_false h1, Bool.false_and, Bool.false_and]
      have q2 := q _ (Gr.of_same g1) tab1
      rw [e] at q2
      rw [decide_eq_false h1]
      exact q2
end
end
section
variable {P : Program} {w : World} {K : PySem.W.Frag} {mg : Str → Option Value} {base : Heap}
variable {fM cM tM : Addr} {fdM : FuncData} {C fI : Addr} {fdI : FuncData}
/-! ### class Chain -/
theorem scInit : FnScope ["self", "many", "moves", "number", "move"] ["self", "many", "moves"] (defScope (inClass cChain 0)) := ⟨rfl, rfl, rfl, by decide +kernel, rfl, by decide +kernel, by decide +kernel⟩
def chF (many : Int) (a : Addr) : List (Str × V) := putF "_moves" (.ref a) (putF "_many" (.int many) [])
theorem ne_mm : ¬ (("_many" : Str) = "_moves") := by decide +kernel
theorem chF_many (many : Int) (a : Addr) : (chF many a).lookup ("_many" : Str) = some (.int many) := by
  unfold chF
  rw [lookup_putF, if_neg ne_mm, lookup_putF, if_pos rfl]
theorem chF_moves (many : Int) (a : Addr) : (chF many a).lookup ("_moves" : Str) = some (.ref a) := by
  unfold chF
  rw [lookup_putF, if_pos rfl]
theorem chF_no (many : Int) (a : Addr) {m : Str} (h1 : ¬ m = "_many") (h2 : ¬ m = "_moves") : (chF many a).lookup m = none := by
  unfold chF
  rw [lookup_putF, if_neg h2, lookup_putF, if_neg h1]
  all_goals rfl
def ChainAt (C : Addr) (H : Hp) (x : Addr) (many : Nat) (ms : List Mv) : Prop := ∃ dx a ws, H x = some (.ins C dx (chF (many : Int) a)) ∧ H a = some (.lst ws) ∧ MovesAt H ws ms
theorem ChainAt.same {C : Addr} {H H' : Hp} {x : Addr} {many : Nat} {ms : List Mv} (s : Same H H') (h : ChainAt C H x many ms) : ChainAt C H' x many ms := by
  obtain ⟨dx, a, ws, h1, h2, h3⟩ := h
  exact ⟨dx, a, ws, s _ _ h1, s _ _ h2, h3.same (Same.tups s)⟩
theorem moves_no_dl {H : Hp} {ws : List V} {ms : List Mv} (h : MovesAt H ws ms) (s0 : Int) (l : Addr) (k big : Int) : HO.lst ws ≠ .lst (dl s0 l k big) := by
  intro z
  injection z with z
  subst z
  cases h with
  | cons a _ =>
    obtain ⟨_, _, e, _⟩ := a
    cases e
theorem ChainAt.gr {C d l : Addr} {ns : List Int} {H H' : Hp} {x : Addr} {many : Nat} {ms : List Mv} (hd : Dc K l ns H d) (s : Gr d H H') (h : ChainAt C H x many ms) : ChainAt C H' x many ms := by
  obtain ⟨dx, a, ws, h1, h2, h3⟩ := h
  exact ⟨dx, a, ws, s _ _ (hd.ne_of h1 fun _ _ _ _ z => nomatch z) h1, s _ _ (hd.ne_of h2 (moves_no_dl h3)) h2, h3.same (s.tups hd)⟩
/-- all that is tracked, but at x and t, is as it was -/
def Gr2 (x t : Addr) (H H' : Hp) : Prop := ∀ b o, b ≠ x → b ≠ t → H b = some o → H' b = some o
def spInitG (C T : Addr) : Sp := fun vs H Q _ => ∃ (x dx l : Addr) (many : Nat) (ws : List V) (ms : List Mv), vs = [.ref x, .int (many : Int), .ref l] ∧ H x = some (.ins C dx []) ∧ H l = some (.lst ws) ∧ MovesAt H ws ms ∧ Good many ms ∧ GxR.TabG H T ∧
  ∀ H', ChainAt C H' x many ms → Gr2 x T H H' → GxR.TabG H' T → Q .non H'
theorem isMv_good {many : Nat} {m : Mv} (h : GoodMv many m) : isMv (many : Int) m = true := by
  obtain ⟨h1, h2, h3, h4⟩ := h
  unfold isMv
  rw [decide_eq_true (show 1 ≤ m.1 ∧ m.1 < 100 from ⟨h1, by omega⟩), decide_eq_true (show (m.2.length : Int) = (many : Int) by rw [h3]), Bool.true_and, Bool.true_and, List.all_eq_true]
  intro x hx
  unfold inR
  exact decide_eq_true (h4 x hx)
theorem ok_initG (T : ChTxt K mg fM cM tM fdM C fI fdI) (TB : GxR.TabB base mg cM tM) : FnOk P w K mg base CX0 2 fI fdI ["self", "many", "moves"] (spInitG C tM) := by
  have GM : FnOk P w K mg base CX0 1 fM fdM ["many", "move"] (spIsMove tM) := ok_ismove T TB
  obtain ⟨tp, gP⟩ := T.gP
  obtain ⟨tv, gV⟩ := T.gV
  refine T.FI.ok scInit (fun vs H Q E h => ?_) (fun cdv A outer s H vs Q E hr h => ?_)
  · obtain ⟨x, dx, l, many, ws, ms, rfl, _⟩ := h
    rfl
  · obtain ⟨x, dx, l, many, ws, ms, rfl, hx, hl, hM, G, hTab, q⟩ := h
    have lenW := hM.length
    refine ⟨_, pss_cons (ps_if (pt_not (pt_chain op_le op_le pe_int (pv 1) (pe_glob (v := .int 6) (by rfl) gP ⟨_, rfl⟩))) pss_never pss_nil)
      (pss_cons (ps_if (pt_not (pt_chain op_le op_le pe_int (pe_callB call_len_seq (by rfl) T.ml PySem.boot_len (pa_cons (pv 2) pa_nil)) (pe_glob (v := .int 8) (by rfl) gV ⟨_, rfl⟩))) pss_never pss_nil)
      (pss_cons (ps_for PassesOwn.never rfl (pi_enum (by rfl) T.me (pa_cons (pv 2) pa_nil)) (pg_tup rfl (pgs_cons (pg_name (i := 3) scInit.nd rfl (.inl rfl)) (pgs_cons (pg_name (i := 4) scInit.nd rfl (.inl rfl)) pgs_nil)))
          (pss_one (ps_if (pt_not (pt_val (pe_call GM hr (by rfl) T.gM T.FM.kp T.bM .nil pass0 (pa_cons (pv 1) (pa_cons (pv 4) pa_nil))))) pss_never pss_nil)))
      (pss_cons (ps_fld (pv 0) (pv 1) rfl)
      (pss_one (ps_fld (pv 0) (pe_callTy call_list_of (by rfl) T.mL (by decide +kernel) (pa_cons (pv 2) pa_nil)) rfl))))), ?_⟩
    have G1 := G.m1
    have G2 := G.m6
    have G3 := G.l1
    have G4 := G.l8
    refine ⟨.int (many : Int), rfl, 1, (many : Int), rfl, rfl, _, rfl, ifD (by omega) ⟨_, _, rfl, rfl, _, rfl, iteNS (by omega) ?_⟩⟩
    have hS : SqL K H l ws := SqL.of hl
    refine ⟨.ref l, rfl, l, ws, rfl, .inl hS, 1, _, rfl, rfl, _, rfl, ifD (by omega) ⟨_, _, rfl, rfl, _, rfl, iteNS (by omega) ?_⟩⟩
    -- for number, move in enumerate(moves)
    have nxT : x ≠ tM := fun z => by
      obtain ⟨ps, e, _⟩ := hTab
      rw [z, e] at hx
      cases hx
    have nlT : l ≠ tM := fun z => by
      obtain ⟨ps, e, _⟩ := hTab
      rw [z, e] at hl
      cases hl
    have nxl : x ≠ l := ne_of hx hl (fun z => nomatch z)
    have tupK : ∀ {H'}, Gr tM H H' → ∀ b xs, H b = some (.tup xs) → H' b = some (.tup xs) := fun {H'} g b xs e => g b _ (fun z => by
      obtain ⟨ps, e2, _⟩ := hTab
      rw [z, e2] at e
      cases e) e
    refine ⟨.ref l, rfl, l, ws, rfl, hS, for_it (walk_enum (K := K) (a := l) (xs := ws)) (fun i σ H' => ∃ y3 y4, σ = [some (.ref x), some (.int (many : Int)), some (.ref l), y3, y4] ∧ Gr tM H H' ∧ GxR.TabG H' tM)
      ⟨none, none, rfl, Gr.refl _ _, hTab⟩ (fun i σ H' hi ⟨y3, y4, e, g, t⟩ => SqL.of (g l _ nlT hl)) ?_ ?_⟩
    · rintro i z σ H1 H2 hi ⟨y3, y4, rfl, g1, t1⟩ ⟨Tp, u, v, rfl, nT, rfl, eu, ev⟩
      have g2 : Gr tM H (upd H1 Tp (.tup [u, v])) := g1.new nT
      have t2 : GxR.TabG (upd H1 Tp (.tup [u, v])) tM := by
        obtain ⟨ps, e, t⟩ := t1
        exact ⟨ps, (same_new nT) _ _ e, t⟩
      refine ⟨Tp, [u, v], rfl, SqT.of upd_same, rfl, u, [v], rfl, v, [], rfl, rfl, ?_⟩
      obtain ⟨m, em, hm⟩ := hM.get' ev
      have hgood := G.mv m (List.mem_of_getElem? em)
      have hm2 : MoveAt (upd H1 Tp (.tup [u, v])) v m := hm.same (tupK g2)
      refine ⟨.int (many : Int), rfl, v, rfl, (many : Int), v, m, rfl, hm2, t2, fun H3 g3 t3 => ?_⟩
      rw [isMv_good hgood]
      refine ⟨true, rfl, ?_⟩
      exact ⟨some u, some v, rfl, g2.trans g3, t3⟩
    · rintro σ H1 ⟨y3, y4, rfl, g1, t1⟩
      have hx1 := g1 x _ nxT hx
      have hl1 := g1 l _ nlT hl
      refine ⟨.int (many : Int), rfl, .ref x, rfl, x, C, dx, [], rfl, hx1, T.cl, T.nM, (by show 0 < 1000; decide), ?_⟩
      have hx2 : (upd H1 x (.ins C dx (putF "_many" (.int (many : Int)) []))) x = some (.ins C dx (putF "_many" (.int (many : Int)) [])) := upd_same
      have hl2 : (upd H1 x (.ins C dx (putF "_many" (.int (many : Int)) []))) l = some (.lst ws) := by
        rw [upd_ne (Ne.symm nxl)]
        exact hl1
      refine ⟨.ref l, rfl, l, ws, rfl, .inl (SqL.of hl2), fun a na => ?_⟩
      have nxa : x ≠ a := ne_of_none hx2 na
      refine ⟨.ref x, rfl, x, C, dx, _, rfl, (by rw [upd_ne nxa]; exact hx2), T.cl, T.nV, (by show 1 < 1000; decide), ?_⟩
      have naH1 : H1 a = none := by
        rw [upd_ne (Ne.symm nxa)] at na
        exact na
      have keepT : ∀ b o, b ≠ x → H1 b = some o → (upd (upd (upd H1 x (.ins C dx (putF "_many" (.int (many : Int)) []))) a (.lst ws)) x (.ins C dx (chF (many : Int) a))) b = some o := fun b o nb e => by
        rw [upd_ne nb, upd_ne (ne_of_none e naH1), upd_ne nb]
        exact e
      have ntx : ∀ xs, H1 x ≠ some (.tup xs) := fun xs z => by
        rw [hx1] at z
        cases z
      refine q _ ⟨dx, a, ws, upd_same, ?_, hM.same fun b xs e => ?_⟩ (fun b o nb nt e => keepT b o nb (g1 b o nt e)) ?_
      · rw [upd_ne (Ne.symm nxa)]
        exact upd_same
      · have e1 := tupK g1 b xs e
        refine keepT b _ (fun z => ?_) e1
        rw [z] at e1
        exact ntx xs e1
      · obtain ⟨ps, e, t⟩ := t1
        exact ⟨ps, keepT _ _ (Ne.symm nxT) e, t⟩
/-! ### places, told -/
theorem scPlaces : FnScope ["self"] ["self"] (defScope (inClass cChain 1)) := ⟨rfl, rfl, rfl, by decide +kernel, rfl, by decide +kernel, by decide +kernel⟩
theorem scTold : FnScope ["self"] ["self"] (defScope (inClass cChain 2)) := ⟨rfl, rfl, rfl, by decide +kernel, rfl, by decide +kernel, by decide +kernel⟩
def spPlaces (C : Addr) : Sp := fun vs H Q _ => ∃ (x : Addr) (many : Nat) (ms : List Mv), vs = [.ref x] ∧ ChainAt C H x many ms ∧ Q (.int (many : Int)) H
def spTold (C : Addr) : Sp := fun vs H Q _ => ∃ (x : Addr) (many : Nat) (ms : List Mv), vs = [.ref x] ∧ ChainAt C H x many ms ∧ ∀ (l : Addr) (ws : List V), H l = none → MovesAt (upd H l (.lst ws)) ws ms → Q (.ref l) (upd H l (.lst ws))
theorem ok_places {f : Addr} {fd : FuncData} {k : Nat} (F : Fun K "places" "Chain.places" (inClass cChain 1) f fd) (cl : Cls K C) (nM : NoAttr K C "_many") : FnOk P w K mg base CX0 (k + 1) f fd ["self"] (spPlaces C) := by
  refine F.ok scPlaces (fun vs H Q E h => ?_) (fun cdv A outer s H vs Q E hr h => ?_)
  · obtain ⟨x, many, ms, rfl, _⟩ := h
    rfl
  · obtain ⟨x, many, ms, rfl, ⟨dx, a, ws, h1, h2, h3⟩, q⟩ := h
    exact ⟨_, pss_one (ps_ret (pe_fld (pv 0) rfl)), .ref x, rfl, x, C, dx, _, _, rfl, h1, cl, nM, chF_many _ _, q⟩
theorem ok_told {f : Addr} {fd : FuncData} {k : Nat} (F : Fun K "told" "Chain.told" (inClass cChain 2) f fd) (cl : Cls K C) (nV : NoAttr K C "_moves") (mL : mg "list" = none) : FnOk P w K mg base CX0 (k + 1) f fd ["self"] (spTold C) := by
  refine F.ok scTold (fun vs H Q E h => ?_) (fun cdv A outer s H vs Q E hr h => ?_)
  · obtain ⟨x, many, ms, rfl, _⟩ := h
    rfl
  · obtain ⟨x, many, ms, rfl, ⟨dx, a, ws, h1, h2, h3⟩, q⟩ := h
    exact ⟨_, pss_one (ps_ret (pe_callTy call_list_of (by rfl) mL (by decide +kernel) (pa_cons (pe_fld (pv 0) rfl) pa_nil))), .ref x, rfl, x, C, dx, _, _, rfl, h1, cl, nV, chF_moves _ _, a, ws, rfl, .inl (SqL.of h2), fun l nl => q l ws nl (h3.same (Same.tups (same_new nl)))⟩
/-! ### _law_made -/
theorem scMade : FnScope ["_law_told"] ["_law_told"] (defScope sMade) := ⟨rfl, rfl, rfl, by decide +kernel, rfl, by decide +kernel, by decide +kernel⟩
def spMade (C T : Addr) : Sp := fun vs H Q _ => ∃ (t m : Addr) (many : Nat) (ws : List V) (ms : List Mv), vs = [.ref t] ∧ ToldAt H t m many ws ms ∧ Good many ms ∧ GxR.TabG H T ∧ ∀ H' x, ChainAt C H' x many ms → H x = none → Gr T H H' → GxR.TabG H' T → Q (.ref x) H'
theorem ok_made {f : Addr} {fd : FuncData} (F : Fun K "_law_made" "_law_made" sMade f fd) (T : ChTxt K mg fM cM tM fdM C fI fdI) (TB : GxR.TabB base mg cM tM) : FnOk P w K mg base CX0 4 f fd ["_law_told"] (spMade C tM) := by
  have GI : FnOk P w K mg base CX0 2 fI fdI ["self", "many", "moves"] (spInitG C tM) := ok_initG T TB
  refine F.ok scMade (fun vs H Q E h => ?_) (fun cdv A outer s H vs Q E hr h => ?_)
  · obtain ⟨t, m, many, ws, ms, rfl, _⟩ := h
    rfl
  · obtain ⟨t, m, many, ws, ms, rfl, ⟨h1, h2, h3⟩, G, ⟨ps, hT, htr⟩, q⟩ := h
    refine ⟨_, pss_one (ps_ret (pe_make T.mC GI hr (by rfl) T.gC T.bI .nil pass0 (pa_cons (pe_ix ix_tup (pv 0) pe_int (fun _ _ => rfl)) (pa_cons (pe_callTy call_list_of (by rfl) T.mL (by decide +kernel) (pa_cons (pe_ix ix_tup (pv 0) pe_int (fun _ _ => rfl)) pa_nil)) pa_nil)))), ?_⟩
    refine ⟨.ref t, rfl, t, _, 0, _, rfl, rfl, SqT.of h1, atI_nat (j := 0) rfl, .ref t, rfl, t, _, 1, _, rfl, rfl, SqT.of h1, atI_nat (j := 1) rfl, m, ws, rfl, .inl (SqL.of h2), fun l nl x dx nx ndx nxd => ?_⟩
    have s1 : Same H (upd H l (.lst ws)) := same_new nl
    have s2 : Same (upd H l (.lst ws)) (upd (upd H l (.lst ws)) dx (.own x)) := same_new ndx
    have nx' : (upd (upd H l (.lst ws)) dx (.own x)) x = none := by
      rw [upd_ne (Ne.symm nxd)]
      exact nx
    have s3 := same_new (o := .ins C dx []) nx'
    have s := (s1.trans s2).trans s3
    refine ⟨x, dx, l, many, ws, ms, rfl, upd_same, (s2.trans s3) _ _ upd_same, h3.same (Same.tups s), G, ⟨ps, s _ _ hT, htr⟩, fun H' hc g t' => ⟨rfl, ?_⟩⟩
    exact q H' x hc (s1.free nx) (fun b o nb e => g b o (ne_of_none (s1 _ _ e) nx) nb (s _ _ e)) t'
end
/-! ### len(set(a list of ints)): a rule of our own, whatever stands twice in it -/
def dist (ns : List Int) : List Int := PyProof.Rows.firstMet (fun i => ns.getD i 0) ns.length
def one (ns : List Int) : Bool := decide (V.int (((dist ns).length : Nat) : Int) = V.int 1)
open RZ in
def tLenSetN (K : PySem.W.Frag) (ta : TE) : TE := fun σ H Q => ta σ H fun x H1 => ∃ (l : Addr) (ns : List Int), x = V.ref l ∧ SqL K H1 l (ns.map V.int) ∧ ns.length < 64 ∧ Q (.int (((dist ns).length : Nat) : Int)) H1
open RZ in
theorem pe_lenSetN {X : Cx} {a : Expr} {ta : TE} {p p2 q pos : Pos} (hg : Gl X "len") (hm : X.mg "len" = none) (hg2 : Gl X "set") (hm2 : X.mg "set" = none) (ha : PE X a ta) (hc : X.calm = true := by rfl)
    (na : starEach [a] X.env = (false, eval a X.env) :: starEach [] X.env := by rfl) : PE X (.Call (.Name "len" p) [.Call (.Name "set" p2) [a] [] q] [] pos) (tLenSetN X.K ta) := by
  refine ⟨fun pins s σ H Q I h => Call_ (ld_blt I hg hm PySem.boot_len (PyProof.Rows.callWith_builtin1 (PyProof.Rows.args_cons (Call_ (ld_blt I hg2 hm2 PyProof.Rows.boot_set
    (PyProof.Rows.callWith_type1 (PyProof.Rows.args_cons (thn (ha.run pins s σ H _ I h) fun v s1 hq => PyProof.Rows.args_nil ?_) na) na rfl))) rfl) rfl rfl))⟩
  obtain ⟨x, H1, I1, r1, l, ns, ex, hq, hl, q1⟩ := hq
  subst ex
  have e0 : v = Value.ref l := r1
  subst e0
  obtain ⟨its, r, pl, hz⟩ := I1.list hq
  have sz : its.toArray.size = ns.length := by
    have e := r.length
    rw [List.length_map] at e
    rw [List.size_toArray, e]
  refine call_set_list (I1.ok.hd hc) pl.isList (by simpa using intsAre_vals r) (by rw [sz]; unfold scanBound; omega) fun h' tk hS hk => PyProof.Rows.args_nil ?_
  rw [sz] at hS
  have hle := PyProof.Rows.firstMet_length_le (fun i => ns.getD i 0) ns.length
  obtain ⟨o, es, ep, t, ho, hex, hd, _, _, _, hf, hn⟩ := hS
  have J : Inv X pins σ H1 { s1 with heap := h', toks := tk } := I1.kept fun b o e => hk b o (Heap.lt_size e) e
  refine call_len_set ho hex hd hf (by rw [hn] <;> omega) ⟨.int (((dist ns).length : Nat) : Int), H1, J.tok _, ⟨_, by rw [hn]; rfl⟩, q1⟩
/-! ### list(reversed(a list)): a rule of our own -/
section
variable {prog : Program} {w : World} {A : Around} {E : Value → Shared → Prop} {s : Shared}
open RT in
/-- the list at S, just made, takes what the iterator gives -/
theorem fill_rev {R : Result → Shared → Prop} {S it l : Addr} {c₀ : Nat} {items : Array Value} (hh : A.handled = none) (hit : s.heap.IsRevIter it l ((items.size : Int) - 1)) (hl : s.heap.IsList l items) (hne : l ≠ it) (hSi : S ≠ it) (hSl : S ≠ l) (hn : items.size ≤ sizeLine)
    (hS : s.heap.get? S = some { cls := .type "list", data := .seq #[] c₀ })
    (hR : ∀ (h' : Heap) (tk : Nat) (acc : Array Value) (c' : Nat), (∀ b o, b ≠ it → b ≠ S → s.heap.get? b = some o → h'.get? b = some o) → h'.get? S = some { cls := .type "list", data := .seq acc c' } →
      ItemsOf (fun i v => items[items.size - 1 - i]? = some v) acc items.size → R (.ok (.ret .none)) { s with heap := h', toks := tk }) :
    wpAny (model prog w) A.in1 (Builtin.List.listExtendWith (.ref S) (.ref it) .none)
      (fun fin s' => match fin with | .done f => R (.ok f) s' | .again c' => c'.quiet = true ∧ codeAny (model prog w) A c' R s') (fun e s' => R (.error e) s') s := by
  have W := (Walks.listRev (prog := prog) (w := w) (A := A.in1) hh it l hne items).toS
  have off : S ∉ [it, l] := fun h => by
    rcases List.mem_cons.mp h with e | e
    · exact hSi e
    · exact hSl (by simpa using e)
  have ty : s.TypeIs (.ref it) "list_reverseiterator" := Heap.IsRevIter.typeIs hit
  have apart : Builtin.List.listSameRef (.ref S) (.ref it) = false := by simp [Builtin.List.listSameRef, hSi]
  have e0 : ((items.size : Nat) : Int) - 1 - ((0 : Nat) : Int) = (items.size : Int) - 1 := by omega
  unfold Builtin.List.listExtendWith
  refine wpAny_bind (wpAny_typeOf ty ?_)
  rw [if_neg (by rw [apart]; decide)]
  refine wpAny_bind (wpAny_pyIter_revIter hit (wpAny_bind (wpAny_holding ?_)))
  unfold Builtin.List.listLengthHint
  refine wpAny_bind (wpAny_specialOf ty nolen_lri ?_)
  show wpAny _ A.in1 (specialOf (Value.ref it) (Str.ofString "__length_hint__") >>= _) _ _ _
  refine wpAny_bind (wpAny_specialOf ty hint_lri ?_)
  generalize hq : ("list_reverseiterator.__length_hint__" : String) = q0
  wp_delta
  rw [show splitId q0 = some ("list_reverseiterator", "__length_hint__") from by subst hq; decide +kernel]
  subst hq
  refine wpAny_bind (wpAny_isInstance (b := true) ty (by rw [isSubtype_type]; kernel_rfl) (wpAny_pure ?_))
  rw [if_neg (by decide)]
  refine wpAny_pure ⟨plainId_quiet F.plain_extend_loop _, codeAny_extend_loopS W hn _ off _ items.size 0 _ _ _ rfl (Nat.zero_le _) ⟨Nat.zero_le _, by rw [e0]; exact hit, hl⟩ hS (ItemsOf.nil _) fun s' acc' c' hm hS' hacc => ?_⟩
  rw [Moved.eq_with hm]
  refine hR s'.heap s'.toks acc' c' (fun b o nb nS e => hm.heap b o (fun hmem => ?_) e) hS' hacc
  rcases List.mem_cons.mp hmem with z | z
  · exact nS z
  · exact nb (List.mem_singleton.mp z)
theorem call_listRev {it l : Addr} {items : Array Value} {Q : Value → Shared → Prop} (hh : A.handled = none) (hit : s.heap.IsRevIter it l ((items.size : Int) - 1)) (hl : s.heap.IsList l items) (hne : l ≠ it) (hn : items.size ≤ sizeLine)
    (hQ : ∀ (h' : Heap) (tk : Nat) (acc : Array Value) (c' : Nat), (∀ b o, b ≠ it → s.heap.get? b = some o → h'.get? b = some o) → h'.get? s.heap.objs.size = some { cls := .type "list", data := .seq acc c' } →
      ItemsOf (fun i v => items[items.size - 1 - i]? = some v) acc items.size → Q (.ref s.heap.objs.size) { s with heap := h', toks := tk }) : wpAny (model prog w) A (call (.type "list") [.ref it]) Q E s := by
  have lti : it < s.heap.objs.size := let ⟨_, g, _⟩ := hit; Heap.lt_size g
  have ltl : l < s.heap.objs.size := let ⟨_, g, _⟩ := hl; Heap.lt_size g
  have hit1 : (s.heap.push { cls := .type "list", data := .seq #[] }).IsRevIter it l ((items.size : Int) - 1) := hit.at fun o e => Heap.get?_push_of_some _ e
  have hl1 : (s.heap.push { cls := .type "list", data := .seq #[] }).IsList l items := hl.push _
  refine callType_codes (Q₁ := fun obj s₁ => obj = .ref s.heap.objs.size ∧ s₁ = { s with heap := s.heap.push { cls := .type "list", data := .seq #[] } }) F.called_list (F.typeCall_list_1 _) F.entry_list_init (code_list_new _ ⟨rfl, rfl⟩) fun obj s₁ h₁ => ?_
  obtain ⟨rfl, rfl⟩ := h₁
  have hS : (s.heap.push { cls := .type "list", data := .seq #[] }).get? s.heap.objs.size = some { cls := .type "list", data := .seq #[] } := Heap.get?_push_size _ rfl
  refine ⟨⟨_, hS, rfl⟩, F.args_list_init_2 _ _, ?_⟩
  show wpAny _ _ (do let old ← Builtin.List.listItems (.ref s.heap.objs.size); Builtin.List.listUpdate (.ref s.heap.objs.size) (fun _ => #[]); letGo old.toList.reverse; Builtin.List.listExtendWith (.ref s.heap.objs.size) (.ref it) .none) _ _ _
  refine wpAny_bind ?_
  unfold Builtin.List.listItems
  refine wpAny_bind (wpAny_seqItems hS rfl (wpAny_pure ?_))
  show wpAny _ _ (updateSeq s.heap.objs.size (fun _ => #[]) >>= fun _ => letGo (#[] : Array Value).toList.reverse >>= fun _ => Builtin.List.listExtendWith (.ref s.heap.objs.size) (.ref it) .none) _ _ _
  refine wpAny_bind (wpAny_updateSeq hS rfl (wpAny_bind (wpAny_letGo ?_)))
  have hS2 := Heap.get?_update_self (Obj.mapSeq (fun _ => (#[] : Array Value))) hS rfl
  have oth : ∀ b o, b ≠ s.heap.objs.size → (s.heap.push { cls := .type "list", data := .seq #[] }).get? b = some o → ((s.heap.push { cls := .type "list", data := .seq #[] }).update s.heap.objs.size (Obj.mapSeq (fun _ => (#[] : Array Value)))).get? b = some o :=
    fun b o hb e => (Heap.get?_update_other _ _ (Ne.symm hb)).trans e
  refine fill_rev hh (hit1.at fun o e => oth _ _ (Nat.ne_of_lt lti) e) ?_ hne (Nat.ne_of_gt lti) (Nat.ne_of_gt ltl) hn hS2 fun h' tk acc c' hk hS' hacc => ⟨rfl, hQ h' tk acc c' (fun b o nb e => hk b o nb (Nat.ne_of_lt (Heap.lt_size e)) (oth b o (Nat.ne_of_lt (Heap.lt_size e)) (Heap.get?_push_of_some _ e))) hS' hacc⟩
  obtain ⟨o, g, r⟩ := hl1
  exact ⟨o, oth _ _ (Nat.ne_of_lt ltl) g, r⟩
end
open RT in
/-- list(reversed(e)), e a list: a new list -/
def tLstRev (K : PySem.W.Frag) (te : TE) : TE := fun σ H Q => te σ H fun v H1 => ∃ (a : Addr) (xs : List V), v = .ref a ∧ SqL K H1 a xs ∧ ∀ q, H1 q = none → Q (.ref q) (upd H1 q (.lst xs.reverse))
open RT in
theorem pe_lstRev {X : Cx} {e : Expr} {te : TE} {p p2 pos pos2 : Pos} (hc : X.calm = true) (hg : Gl X "list") (hm : X.mg "list" = none) (hg2 : Gl X "reversed") (hm2 : X.mg "reversed" = none) (he : PE X e te)
    (hs : starEach [e] X.env = (false, eval e X.env) :: starEach [] X.env := by rfl) (hs2 : starEach [.Call (.Name "reversed" p2) [e] [] pos2] X.env = (false, eval (.Call (.Name "reversed" p2) [e] [] pos2) X.env) :: starEach [] X.env := by rfl) :
    PE X (.Call (.Name "list" p) [.Call (.Name "reversed" p2) [e] [] pos2] [] pos) (tLstRev X.K te) := by
  refine ⟨fun pins s σ H Q I h => Call_ (ld_blt I hg hm boot_list (PyProof.Rows.callWith_type1 (args_cons (Call_ (ld_blt I hg2 hm2 PyProof.Rows.boot_reversed (PyProof.Rows.callWith_type1 (args_cons (thn (he.run pins s σ H _ I h) fun u s1 hq => args_nil ?_) hs) hs rfl))) hs2) hs2 rfl))⟩
  obtain ⟨v, H1, I1, r1, a, xs, ev, hq, q⟩ := hq
  subst ev
  have e0 : u = Value.ref a := r1
  subst e0
  obtain ⟨its, rv, p', hz⟩ := I1.list hq
  have hl := p'.isList
  obtain ⟨ol, hol, _⟩ := id hl
  have hne : a ≠ s1.heap.objs.size := Nat.ne_of_lt (Heap.lt_size hol)
  have hn : its.toArray.size ≤ sizeLine := by rw [List.size_toArray, ← rv.length]; exact hz
  have kp : ∀ b o, s1.heap.get? b = some o → (s1.heap.push (revObj a ((its.toArray.size : Int) - 1))).get? b = some o := fun b o e => Heap.get?_push_of_some _ e
  refine call_reversed_list hl (args_nil ?_)
  obtain ⟨f0, f1, f2, f3, f4, f5⟩ := I1.fpOk (H' := H1) (b := s1.heap.objs.size) (Nat.le_refl _) (I1.hok.fresh (Nat.le_refl _))
  have I2 : Inv X pins σ H1 { s1 with heap := s1.heap.push (revObj a ((its.toArray.size : Int) - 1)) } := I1.kept (t' := s1.toks) kp
  have sz : (s1.heap.push (revObj a ((its.toArray.size : Int) - 1))).objs.size = s1.heap.objs.size + 1 := Heap.size_push ..
  refine call_listRev (s := { s1 with heap := s1.heap.push (revObj a ((its.toArray.size : Int) - 1)) }) (I1.ok.hd hc) ⟨_, Heap.get?_push_size _ rfl, rfl, rfl⟩ (hl.push _) hne hn fun h' tk acc c' hk hS hi => ?_
  have nw : H1 (s1.heap.push (revObj a ((its.toArray.size : Int) - 1))).objs.size = none := I2.hok.fresh (Nat.le_refl _)
  have hS' : h'.get? (s1.heap.push (revObj a ((its.toArray.size : Int) - 1))).objs.size = some { cls := .type "list", data := .seq acc c' } := hS
  have le : s1.heap.objs.size ≤ (s1.heap.push (revObj a ((its.toArray.size : Int) - 1))).objs.size := by
    rw [sz]
    exact Nat.le_succ _
  have new : ObjOk X.prog X.w (upd H1 (s1.heap.push (revObj a ((its.toArray.size : Int) - 1))).objs.size (.lst xs.reverse)) h' (s1.heap.push (revObj a ((its.toArray.size : Int) - 1))).objs.size (.lst xs.reverse) :=
    ⟨by rw [List.length_reverse]; exact hz, acc.toList, c', vals_rev rv hi, by rw [Array.toArray_toList]; exact hS'⟩
  have J := I1.turnedNew (t' := tk) (ch := [s1.heap.objs.size]) (fun b o hb e => hk b o (fun z => hb (by simp [z])) (kp b o e)) (fun b hb => by
    have z : b = s1.heap.objs.size := by simpa using hb
    rw [z]
    exact ⟨f0, f1, f2, f3, f4, f5⟩) le new
  exact ⟨.ref _, _, J, rfl, q _ nw⟩
/-! ### walks back: the mathematics -/
def rowsOf (ms : List Mv) (ns : List Int) : List (List Int) := ns.map fun n => (ms.getD n.toNat (0, [])).2
def goK (f : List Int) (p : Int) : Int := f.getD p.toNat 0
def endsK (many : Nat) (rows : List (List Int)) : Nat → List Int
  | 0 => (List.range many).map fun (i : Nat) => (i : Int)
  | k + 1 => (rows.getD k []).map (goK (endsK many rows k))
theorem endsK_good {many : Nat} {rows : List (List Int)} (h : ∀ r ∈ rows, GoodRow many r) : ∀ k, k ≤ rows.length → GoodRow many (endsK many rows k)
  | 0, _ => by
    refine ⟨by unfold endsK; rw [List.length_map, List.length_range], fun x hx => ?_⟩
    unfold endsK at hx
    obtain ⟨i, hi, rfl⟩ := List.mem_map.mp hx
    have := List.mem_range.mp hi
    omega
  | k + 1, hk => by
    have ih := endsK_good h k (by omega)
    have g : rows.getD k [] = rows[k] := by rw [List.getD_eq_getElem?_getD, List.getElem?_eq_getElem (by omega)]; rfl
    obtain ⟨h1, h2⟩ := h rows[k] (List.getElem_mem (by omega))
    unfold endsK
    rw [g]
    refine ⟨by rw [List.length_map, h1], fun x hx => ?_⟩
    obtain ⟨p, hp, rfl⟩ := List.mem_map.mp hx
    obtain ⟨a, b⟩ := h2 p hp
    have hl : p.toNat < (endsK many rows k).length := by rw [ih.1]; omega
    unfold goK
    rw [List.getD_eq_getElem?_getD, List.getElem?_eq_getElem hl]
    exact ih.2 _ (List.getElem_mem hl)
/-- the first count of steps by which all are one -/
def FirstOne (many : Nat) (rows : List (List Int)) (k : Nat) : Prop := k ≤ rows.length ∧ one (endsK many rows k) = true ∧ ∀ j, j < k → one (endsK many rows j) = false
def NoOne (many : Nat) (rows : List (List Int)) : Prop := ∀ j, j ≤ rows.length → one (endsK many rows j) = false
def DrawnAt (H : Hp) (v : V) (many : Nat) (rows : List (List Int)) : Prop :=
  (∃ (k : Nat) (t : Addr), FirstOne many rows k ∧ v = .ref t ∧ H t = some (.tup [.int (goK (endsK many rows k) 0), .int (k : Int)])) ∨ (NoOne many rows ∧ v = .non)
def NumsOk (ms : List Mv) (ns : List Int) : Prop := ns.length ≤ 1000 ∧ ∀ n ∈ ns, 0 ≤ n ∧ n < (ms.length : Int)
theorem rowsOf_good {many : Nat} {ms : List Mv} {ns : List Int} (G : Good many ms) (h : NumsOk ms ns) : ∀ r ∈ rowsOf ms ns, GoodRow many r := by
  intro r hr
  obtain ⟨n, hn, rfl⟩ := List.mem_map.mp hr
  obtain ⟨a, b⟩ := h.2 n hn
  have hl : n.toNat < ms.length := by omega
  rw [List.getD_eq_getElem?_getD, List.getElem?_eq_getElem hl]
  exact (G.mv _ (List.getElem_mem hl)).2.2
/-- rows that stand as tuples -/
def StepsAt (H : Hp) (S : Addr) (rows : List (List Int)) : Prop := ∃ qs : List Addr, H S = some (.lst (qs.map V.ref)) ∧ Paired (fun q row => H q = some (.tup (row.map V.int))) qs rows
theorem StepsAt.same {H H' : Hp} {S : Addr} {rows : List (List Int)} (s : Same H H') (h : StepsAt H S rows) : StepsAt H' S rows := by
  obtain ⟨qs, e, p⟩ := h
  exact ⟨qs, s _ _ e, L2.Paired.mapP p fun _ _ q => s _ _ q⟩
theorem paired_get {α β : Type} {F : α → β → Prop} : ∀ {l₁ : List α} {l₂ : List β} {i : Nat} {b : β}, Paired F l₁ l₂ → l₂[i]? = some b → ∃ a, l₁[i]? = some a ∧ F a b
  | _, _, _, _, .nil, e => by simp at e
  | _, _, 0, _, .cons h _, e => by
    simp at e
    subst e
    exact ⟨_, rfl, h⟩
  | _, _, i + 1, b, .cons _ t, e => by
    obtain ⟨a, h1, h2⟩ := paired_get (i := i) (b := b) t (by simpa using e)
    exact ⟨a, by simpa using h1, h2⟩
theorem paired_end {α β : Type} {F : α → β → Prop} {a : α} {b : β} (h : F a b) : ∀ {l₁ : List α} {l₂ : List β}, Paired F l₁ l₂ → Paired F (l₁ ++ [a]) (l₂ ++ [b])
  | _, _, .nil => .cons h .nil
  | _, _, .cons q t => .cons q (paired_end h t)
theorem take_snoc {α : Type} {l : List α} {i : Nat} {x : α} (h : l[i]? = some x) : l.take (i + 1) = l.take i ++ [x] := by
  rw [List.take_add_one, h]
  rfl
theorem small1k {n : Nat} (h : n ≤ 1001) : n < sizeLine := Nat.lt_of_le_of_lt h (by decide)
section
variable {P : Program} {w : World} {K : PySem.W.Frag} {mg : Str → Option Value} {base : Heap} {C : Addr}
/-- range(n) as a value -/
theorem cr_range1 {X : Cx} : CallR X (.type "range") (fun vs H Q => ∃ n, vs = [V.int n] ∧ ∀ p, H p = none → Q (.ref p) (upd H p (.rng 0 n))) := by
  intro pins s σ H vs us Q I r ⟨n, ev, q⟩
  subst ev
  cases r with
  | cons rn rr =>
    cases rr
    obtain ⟨t, rfl⟩ := rn
    refine call_range_1 ⟨.ref s.heap.objs.size, upd H s.heap.objs.size (.rng 0 n), I.laid (t' := s.toks + 1 + 1) (fun b o e => Heap.get?_push_of_some _ e) (Nat.le_refl _) ?_, rfl, q _ (I.hok.fresh (Nat.le_refl _))⟩
    exact ⟨s.toks, t, s.toks + 1, Heap.get?_push_size _ rfl⟩
/-! ### steps_of -/
structure ChM (K : PySem.W.Frag) (C fP fT : Addr) (fdP fdT : FuncData) : Prop where
  FP : Fun K "places" "Chain.places" (inClass cChain 1) fP fdP
  bP : Binds K fdP ["self"] []
  hP : Meth K C "places" fP
  FT : Fun K "told" "Chain.told" (inClass cChain 2) fT fdT
  bT : Binds K fdT ["self"] []
  hT : Meth K C "told" fT
  cl : Cls K C
  nM : NoAttr K C "_many"
  nV : NoAttr K C "_moves"
theorem ch_no {many : Int} {a : Addr} : (chF many a).lookup ("places" : Str) = none := chF_no _ _ (by decide +kernel) (by decide +kernel)
theorem ch_noT {many : Int} {a : Addr} : (chF many a).lookup ("told" : Str) = none := chF_no _ _ (by decide +kernel) (by decide +kernel)
def nSt : List Str := ["chain", "numbers", "whithers", "number", "_", "whither"]
theorem scSt : FnScope ["chain", "numbers", "whithers", "number", "_", "whither"] ["chain", "numbers"] (defScope sStepsOf) := ⟨rfl, rfl, rfl, by decide +kernel, rfl, by decide +kernel, by decide +kernel⟩
def spSteps (C : Addr) : Sp := fun vs H Q _ => ∃ (x l : Addr) (many : Nat) (ms : List Mv) (ns : List Int), vs = [.ref x, .ref l] ∧ ChainAt C H x many ms ∧ H l = some (.lst (ns.map V.int)) ∧ NumsOk ms ns ∧ ms.length ≤ 8 ∧
  ∀ S H', Same H H' → H S = none → StepsAt H' S (rowsOf ms ns) → Q (.ref S) H'
theorem ok_steps {f fP fT : Addr} {fd fdP fdT : FuncData} (F : Fun K "steps_of" "steps_of" sStepsOf f fd) (T : ChM K C fP fT fdP fdT) (mr : mg "range" = none) (ml : mg "len" = none) (mL : mg "list" = none) : FnOk P w K mg base CX0 2 f fd ["chain", "numbers"] (spSteps C) := by
  have GT : FnOk P w K mg base CX0 1 fT fdT ["self"] (spTold C) := ok_told T.FT T.cl T.nV mL
  refine F.ok scSt (fun vs H Q E h => ?_) (fun cdv A outer s H vs Q E hr h => ?_)
  · obtain ⟨x, l, many, ms, ns, rfl, _⟩ := h
    rfl
  · obtain ⟨x, l, many, ms, ns, rfl, hC, hl, hN, h8, q⟩ := h
    refine ⟨_, pss_cons (ps_set (i := 2) scSt.nd rfl (.inr rfl) (pe_lc (own := [("_", 4), ("whither", 5)]) (g := gTup K 2 (gCons (gName 4) (gCons (gName 5) gNil))) (tt := tYes) (te := tVar 5) rfl scSt.nd (pi_list (pe_meth0 (pv 0) T.cl T.hT GT hr T.bT .nil pass0)) (blkOk_by (N := nSt) (sc := defScope sStepsOf) (by decide +kernel))
          (fun _ _ _ _ _ => by exact (pg_tup rfl (pgs_cons (pg_name (i := 4) scSt.nd rfl (.inl rfl)) (pgs_cons (pg_name (i := 5) scSt.nd rfl (.inl rfl)) pgs_nil)))) (fun _ _ _ _ _ => pts_nil) (fun _ _ _ _ _ => pv 5)))
      (pss_cons (ps_for PassesOwn.never rfl (pi_list (pv 1)) (pg_name (i := 3) scSt.nd rfl (.inl rfl))
        (pss_one (ps_if (pt_cmpR op_notIn_rng (pv 3) (pe_callTy cr_range1 (by rfl) mr (by decide +kernel) (pa_cons (pe_callB call_len_seq (by rfl) ml PySem.boot_len (pa_cons (pv 2) pa_nil)) pa_nil)) rfl) pss_never pss_nil)))
      (pss_one (ps_ret (pe_lc (own := [("number", 3)]) (g := gName 3) (tt := tYes) (te := tOp (rIxL K) (tVar 2) (tVar 3)) rfl scSt.nd (pi_list (pv 1)) (blkOk_by (N := nSt) (sc := defScope sStepsOf) (by decide +kernel))
          (fun _ _ _ _ _ => pg_name (i := 3) scSt.nd rfl (.inl rfl)) (fun _ _ _ _ _ => pts_nil) (fun _ _ _ _ _ => by exact (pe_ix ix_list (pv 2) (pv 3) (fun _ _ => rfl))))))), ?_⟩
    obtain ⟨dx, a0, ws, h1, h2, h3⟩ := id hC
    refine ⟨.ref x, rfl, x, dx, _, rfl, h1, ch_noT, x, many, ms, rfl, hC, fun lt wl nlt hM => ?_⟩
    have s1 : Same H (upd H lt (.lst wl)) := same_new nlt
    have lenW := hM.length
    -- whithers
    refine ⟨lt, rfl, ⟨_, SqL.of upd_same⟩, fun W nW => ?_⟩
    have hlt : (upd H lt (.lst wl)) lt = some (.lst wl) := upd_same
    generalize upd H lt (.lst wl) = H1 at s1 hM hlt nW ⊢
    refine lc_list (K := K) (a := lt) (xs := wl) (fun i H' => Same H1 H' ∧ ∃ qs : List Addr, qs.length = i ∧ H' W = some (.lst (qs.map V.ref)) ∧ Paired (fun q (m : Mv) => H1 q = some (.tup (m.2.map V.int))) qs (ms.take i))
      ⟨same_new nW, [], rfl, upd_same, .nil⟩ (fun i H' _ h => SqL.of (h.1 _ _ hlt)) ?_ ?_
    · rintro i v H2 hv ⟨s2, qs, el, hW, hp⟩
      obtain ⟨m, em, ⟨ta, tb, rfl, hta, htb⟩⟩ := hM.get' hv
      have hi : i < ms.length := by
        obtain ⟨q1, _⟩ := List.getElem?_eq_some_iff.mp em
        exact q1
      refine ⟨ta, _, rfl, SqT.of (s2 _ _ hta), rfl, .int m.1, [.ref tb], rfl, .ref tb, [], rfl, rfl, rfl, .ref tb, rfl, _, hW, by rw [List.length_map, el]; exact small8 (by omega), ?_⟩
      refine ⟨fun b u e => by rw [upd_ne (ne_of_none e nW)]; exact s2 _ _ e, qs ++ [tb], by rw [List.length_append, el]; rfl, by rw [upd_same, List.map_append]; rfl, ?_⟩
      rw [take_snoc em]
      exact paired_end (F := fun q (m : Mv) => H1 q = some (.tup (m.2.map V.int))) htb hp
    rintro H2 ⟨s2, qs, el, hW, hp⟩
    rw [lenW, List.take_length] at hp
    have s12 := s1.trans s2
    have hl2 := s12 _ _ hl
    have lenQ : qs.length = ms.length := hp.length
    -- the numbers are moves
    refine ⟨.ref l, rfl, l, rfl, ⟨_, SqL.of hl2⟩, for_list (K := K) (a := l) (xs := ns.map V.int) (fun i σ H' => ∃ y3, σ = [some (.ref x), some (.ref l), some (.ref W), y3, none, none] ∧ Same H2 H') ⟨none, rfl, Same.refl _⟩ (fun i σ H' _ ⟨_, _, s3⟩ => SqL.of (s3 _ _ hl2)) ?_ ?_⟩
    · rintro i v σ H3 hv ⟨y3, rfl, s3⟩
      rw [List.getElem?_map] at hv
      obtain ⟨n, hn, rfl⟩ := Option.map_eq_some_iff.mp hv
      obtain ⟨n0, n1⟩ := hN.2 n (List.mem_of_getElem? hn)
      have hW3 := s3 _ _ hW
      refine ⟨.int n, rfl, .ref W, rfl, W, _, rfl, .inl (SqL.of hW3), _, rfl, fun r nr => ⟨n, r, 0, _, rfl, rfl, upd_same, _, rfl, iteNS (by rw [List.length_map, lenQ]; omega) ?_⟩⟩
      exact ⟨some (.int n), rfl, s3.trans (same_new nr)⟩
    · rintro σ H3 ⟨y3, rfl, s3⟩
      have hl3 := s3 _ _ hl2
      have hW3 := s3 _ _ hW
      refine ⟨.ref l, rfl, l, rfl, ⟨_, SqL.of hl3⟩, fun S nS => ?_⟩
      refine lc_list (K := K) (a := l) (xs := ns.map V.int) (fun i H' => Same H3 H' ∧ ∃ ps : List Addr, ps.length = i ∧ H' S = some (.lst (ps.map V.ref)) ∧ Paired (fun q row => H1 q = some (.tup (row.map V.int))) ps ((rowsOf ms ns).take i))
        ⟨same_new nS, [], rfl, upd_same, .nil⟩ (fun i H' _ h => SqL.of (h.1 _ _ hl3)) ?_ ?_
      · rintro i v H4 hv ⟨s4, ps, ep, hS, hp4⟩
        rw [List.getElem?_map] at hv
        obtain ⟨n, hn, rfl⟩ := Option.map_eq_some_iff.mp hv
        obtain ⟨n0, n1⟩ := hN.2 n (List.mem_of_getElem? hn)
        have hi : i < ns.length := by
          obtain ⟨q1, _⟩ := List.getElem?_eq_some_iff.mp hn
          exact q1
        have hnm : n.toNat < ms.length := by omega
        obtain ⟨qa, eqa, hqa⟩ := paired_get hp (List.getElem?_eq_getElem hnm)
        have gW : (qs.map V.ref)[n.toNat]? = some (.ref qa) := by rw [List.getElem?_map, eqa]; rfl
        have en : n = ((n.toNat : Nat) : Int) := by omega
        refine ⟨rfl, .ref W, rfl, .int n, rfl, W, _, n, _, rfl, rfl, SqL.of (s4 _ _ hW3), at_of en gW, _, hS, by rw [List.length_map, ep]; exact small1k (by have := hN.1; omega), ?_⟩
        refine ⟨fun b u e => by rw [upd_ne (ne_of_none e nS)]; exact s4 _ _ e, ps ++ [qa], by rw [List.length_append, ep]; rfl, by rw [upd_same, List.map_append]; rfl, ?_⟩
        have er : (rowsOf ms ns)[i]? = some ms[n.toNat].2 := by
          unfold rowsOf
          rw [List.getElem?_map, hn]
          show some (ms.getD n.toNat (0, [])).2 = _
          rw [List.getD_eq_getElem?_getD, List.getElem?_eq_getElem hnm]
          rfl
        rw [take_snoc er]
        exact paired_end (F := fun q (row : List Int) => H1 q = some (.tup (row.map V.int))) hqa hp4
      · rintro H4 ⟨s4, ps, ep, hS, hp4⟩
        rw [List.length_map, List.take_of_length_le (by unfold rowsOf; rw [List.length_map]; exact Nat.le_refl _)] at hp4
        have s14 := (s2.trans s3).trans s4
        exact q S H4 (s1.trans s14) ((s12.trans s3).free nS) ⟨ps, hS, L2.Paired.mapP hp4 fun _ _ e => s14 _ _ e⟩
/-! ### drawn -/
theorem scOne : FnScope ["ends"] ["ends"] (defScope sAreOne) := ⟨rfl, rfl, rfl, by decide +kernel, rfl, by decide +kernel, by decide +kernel⟩
def spOne (K : PySem.W.Frag) : Sp := fun vs H Q _ => ∃ (l : Addr) (ns : List Int), vs = [.ref l] ∧ H l = some (.lst (ns.map V.int)) ∧ ns.length < 64 ∧ Q (.bl (one ns)) H
theorem ok_one {f : Addr} {fd : FuncData} {k : Nat} (F : Fun K "_are_one" "_are_one" sAreOne f fd) (ml : mg "len" = none) (mS : mg "set" = none) : FnOk P w K mg base CX0 (k + 1) f fd ["ends"] (spOne K) := by
  refine F.ok scOne (fun vs H Q E h => ?_) (fun cdv A outer s H vs Q E hr h => ?_)
  · obtain ⟨l, ns, rfl, _⟩ := h
    rfl
  · obtain ⟨l, ns, rfl, hl, h64, q⟩ := h
    exact ⟨_, pss_one (ps_ret (pe_cmpR op_eq (pe_lenSetN (by rfl) ml (by rfl) mS (pv 0)) pe_int (nomark _))), .ref l, rfl, l, ns, rfl, SqL.of hl, h64, rfl, q⟩
theorem rg_ends (n : Nat) : rgV 0 (n : Int) = ((List.range n).map fun (i : Nat) => (i : Int)).map V.int := by
  unfold rgV
  rw [List.map_map]
  have e : ((n : Int) - 0).toNat = n := by omega
  rw [e]
  refine List.map_congr_left fun i _ => ?_
  show V.int (0 + (i : Int)) = V.int (i : Int)
  rw [Int.zero_add]
end
/-! ### drawn_from, drawn -/
/-- where the walks from these places end -/
def seenK (many : Nat) (rows : List (List Int)) (bs : List Int) (k : Nat) : List Int := bs.map (goK (endsK many rows k))
def FirstB (many : Nat) (rows : List (List Int)) (bs : List Int) (k : Nat) : Prop := k ≤ rows.length ∧ one (seenK many rows bs k) = true ∧ ∀ j, j < k → one (seenK many rows bs j) = false
def NoneB (many : Nat) (rows : List (List Int)) (bs : List Int) : Prop := ∀ j, j ≤ rows.length → one (seenK many rows bs j) = false
def DrawnB (H : Hp) (v : V) (many : Nat) (rows : List (List Int)) (bs : List Int) : Prop :=
  (∃ (k : Nat) (t : Addr), FirstB many rows bs k ∧ v = .ref t ∧ H t = some (.tup [.int (goK (seenK many rows bs k) 0), .int (k : Int)])) ∨ (NoneB many rows bs ∧ v = .non)
theorem goK_zero {many : Nat} {p : Int} (h0 : 0 ≤ p) (h1 : p < (many : Int)) : goK ((List.range many).map fun (i : Nat) => (i : Int)) p = p := by
  unfold goK
  rw [List.getD_eq_getElem?_getD, List.getElem?_map, List.getElem?_range (by omega)]
  show ((p.toNat : Nat) : Int) = p
  omega
theorem seenK_zero {many : Nat} {rows : List (List Int)} {bs : List Int} (h : ∀ b ∈ bs, 0 ≤ b ∧ b < (many : Int)) : seenK many rows bs 0 = bs := by
  have e : seenK many rows bs 0 = bs.map id := List.map_congr_left fun b hb => goK_zero (h b hb).1 (h b hb).2
  rw [e, List.map_id]
theorem seenK_all {many : Nat} {rows : List (List Int)} (h : ∀ r ∈ rows, GoodRow many r) {k : Nat} (hk : k ≤ rows.length) : seenK many rows ((List.range many).map fun (i : Nat) => (i : Int)) k = endsK many rows k := by
  have gE := endsK_good h k hk
  unfold seenK
  rw [List.map_map]
  apply List.ext_getElem?
  intro i
  rw [List.getElem?_map]
  by_cases hi : i < many
  · rw [List.getElem?_range hi, List.getElem?_eq_getElem (by rw [gE.1]; exact hi)]
    show some (goK (endsK many rows k) (i : Int)) = _
    unfold goK
    rw [Int.toNat_natCast, List.getD_eq_getElem?_getD, List.getElem?_eq_getElem (by rw [gE.1]; exact hi)]
    rfl
  · rw [List.getElem?_eq_none_iff.mpr (by rw [List.length_range]; omega), List.getElem?_eq_none_iff.mpr (by rw [gE.1]; omega)]
    rfl
theorem DrawnB.all {H : Hp} {v : V} {many : Nat} {rows : List (List Int)} (h : ∀ r ∈ rows, GoodRow many r) (d : DrawnB H v many rows ((List.range many).map fun (i : Nat) => (i : Int))) : DrawnAt H v many rows := by
  rcases d with ⟨k, t, ⟨hk, h1, h2⟩, e, ht⟩ | ⟨hn, e⟩
  · refine .inl ⟨k, t, ⟨hk, by rw [← seenK_all h hk]; exact h1, fun j hj => by rw [← seenK_all h (by omega)]; exact h2 j hj⟩, e, ?_⟩
    rw [ht, seenK_all h hk]
  · exact .inr ⟨fun j hj => by rw [← seenK_all h hj]; exact hn j hj, e⟩
section
variable {P : Program} {w : World} {K : PySem.W.Frag} {mg : Str → Option Value} {base : Heap} {C : Addr}
def nDf : List Str := ["chain", "begins", "numbers", "steps", "ends", "seen", "far", "place"]
theorem scDf : FnScope ["chain", "begins", "numbers", "steps", "ends", "seen", "far", "place"] ["chain", "begins", "numbers"] (defScope sDrawnFrom) := ⟨rfl, rfl, rfl, by decide +kernel, rfl, by decide +kernel, by decide +kernel⟩
def spDf (K : PySem.W.Frag) (C : Addr) : Sp := fun vs H Q _ => ∃ (x b l : Addr) (many : Nat) (ms : List Mv) (bs ns : List Int), vs = [.ref x, .ref b, .ref l] ∧ ChainAt C H x many ms ∧ Good many ms ∧ SqL K H b (bs.map V.int) ∧ bs.length < 64 ∧ 1 ≤ bs.length ∧ (∀ z ∈ bs, 0 ≤ z ∧ z < (many : Int)) ∧ H l = some (.lst (ns.map V.int)) ∧ NumsOk ms ns ∧
  ∀ v H', Same H H' → DrawnB H' v many (rowsOf ms ns) bs → Q v H'
theorem ok_drawnFrom {f fS fO fP fT : Addr} {fd fdS fdO fdP fdT : FuncData} (F : Fun K "drawn_from" "drawn_from" sDrawnFrom f fd) (FS : Fun K "steps_of" "steps_of" sStepsOf fS fdS) (bS : Binds K fdS ["chain", "numbers"] []) (gS : mg "steps_of" = some (.ref fS))
    (FO : Fun K "_are_one" "_are_one" sAreOne fO fdO) (bO : Binds K fdO ["ends"] []) (gO : mg "_are_one" = some (.ref fO)) (T : ChM K C fP fT fdP fdT) (mr : mg "range" = none) (ml : mg "len" = none) (mL : mg "list" = none) (mS : mg "set" = none) :
    FnOk P w K mg base CX0 3 f fd ["chain", "begins", "numbers"] (spDf K C) := by
  have GS : FnOk P w K mg base CX0 2 fS fdS ["chain", "numbers"] (spSteps C) := ok_steps FS T mr ml mL
  have GO : FnOk P w K mg base CX0 1 fO fdO ["ends"] (spOne K) := ok_one FO ml mS
  have GP : FnOk P w K mg base CX0 1 fP fdP ["self"] (spPlaces C) := ok_places T.FP T.cl T.nM
  refine F.ok scDf (fun vs H Q E h => ?_) (fun cdv A outer s H vs Q E hr h => ?_)
  · obtain ⟨x, b, l, many, ms, bs, ns, rfl, _⟩ := h
    rfl
  · obtain ⟨x, b, l, many, ms, bs, ns, rfl, hC, G, hb, b64, b1, hbs, hl, hN, q⟩ := h
    have r1 : Room 1 _ := hr.mono (by decide)
    refine ⟨_, pss_cons (ps_set (i := 3) scDf.nd rfl (.inl rfl) (pe_call GS hr (by rfl) gS FS.kp bS .nil pass0 (pa_cons (pv 0) (pa_cons (pv 2) pa_nil))))
      (pss_cons (ps_set (i := 4) scDf.nd rfl (.inr rfl) (pe_listRg rfl (by rfl) mL (prg_1 (by rfl) mr (pe_meth0 (pv 0) T.cl T.hP GP r1 T.bP .nil pass0))))
      (pss_cons (ps_set (i := 5) scDf.nd rfl (.inl rfl) (pe_callTy call_list_of (by rfl) mL (by decide +kernel) (pa_cons (pv 1) pa_nil)))
      (pss_cons (ps_set (i := 6) scDf.nd rfl (.inl rfl) pe_int)
      (pss_cons (ps_while PassesOwn.never (PW.pt (pw_and (pt_cmpR op_lt (pv 6) (pe_callB call_len_seq (by rfl) ml PySem.boot_len (pa_cons (pv 3) pa_nil)) (nomark _)) (pw_and1 (pt_not (pt_val (pe_call GO r1 (by rfl) gO FO.kp bO .nil pass0 (pa_cons (pv 5) pa_nil)))))))
        (pss_cons (ps_set (i := 4) scDf.nd rfl (.inr rfl) (pe_lc (own := [("place", 7)]) (g := gName 7) (tt := tYes) (te := tOp (rIxL K) (tVar 4) (tVar 7)) rfl scDf.nd (pi_tup (pe_ix ix_list (pv 3) (pv 6) (fun _ _ => rfl))) (blkOk_by (N := nDf) (sc := defScope sDrawnFrom) (by decide +kernel))
          (fun _ _ _ _ _ => pg_name (i := 7) scDf.nd rfl (.inl rfl)) (fun _ _ _ _ _ => pts_nil) (fun _ _ _ _ _ => by exact (pe_ix ix_list (pv 4) (pv 7) (fun _ _ => rfl)))))
        (pss_cons (ps_setLc (i := 5) (own := [("place", 7)]) (g := gName 7) (tt := tYes) (te := tOp (rIxL K) (tVar 4) (tVar 7)) rfl scDf.nd rfl rfl (sw_true rfl rfl rfl (by decide +kernel)) (pi_list (pv 1)) (blkOk_by (N := nDf) (sc := defScope sDrawnFrom) (by decide +kernel))
          (fun _ _ _ _ _ => pg_name (i := 7) scDf.nd rfl (.inl rfl)) (fun _ _ _ _ _ => pts_nil) (fun _ _ _ _ _ => by exact (pe_ix ix_list (pv 4) (pv 7) (fun _ _ => rfl))))
        (pss_one (ps_aug (i := 6) scDf.nd rfl (.inl rfl) pe_int ip_add)))))
      (pss_cons (ps_if (pt_val (pe_call GO r1 (by rfl) gO FO.kp bO .nil pass0 (pa_cons (pv 5) pa_nil))) (pss_one (ps_ret (pe_tup (pa_cons (pe_ix ix_list (pv 5) pe_int (fun _ _ => rfl)) (pa_cons (pv 6) pa_nil))))) pss_nil)
      (pss_one (ps_ret pe_non))))))), ?_⟩
    have h8 := G.l8
    have m6 := G.m6
    have m1 := G.m1
    refine ⟨.ref x, rfl, .ref l, rfl, x, l, many, ms, ns, rfl, hC, hl, hN, h8, fun S H1 s1 nS hSt => ?_⟩
    have hC1 := hC.same s1
    obtain ⟨dx, a0, ws, h1, h2, h3⟩ := id hC1
    obtain ⟨qs, hS, hp⟩ := hSt
    have gR := rowsOf_good G hN
    have lenR : (rowsOf ms ns).length = ns.length := by
      unfold rowsOf
      rw [List.length_map]
    have lenQ : qs.length = (rowsOf ms ns).length := hp.length
    have n1000 := hN.1
    have gE := endsK_good gR
    have lenSeen : ∀ k, (seenK many (rowsOf ms ns) bs k).length = bs.length := fun k => by
      unfold seenK
      rw [List.length_map]
    refine ⟨.ref x, rfl, x, dx, _, rfl, h1, ch_no, x, many, ms, rfl, hC1, _, rfl, RgOk.of_le (by omega) (by omega) (by omega) (by omega), fun e0 ne0 => ?_⟩
    rw [rg_ends]
    have s2 : Same H1 (upd H1 e0 (.lst ((endsK many (rowsOf ms ns) 0).map V.int))) := same_new ne0
    have hb1 := s1.seq hb
    refine ⟨.ref b, rfl, b, _, rfl, .inl (s2.seq hb1), fun g0 ng0 => ?_⟩
    have s3' : Same (upd H1 e0 (.lst ((endsK many (rowsOf ms ns) 0).map V.int))) (upd (upd H1 e0 (.lst ((endsK many (rowsOf ms ns) 0).map V.int))) g0 (.lst (bs.map V.int))) := same_new ng0
    refine while_by (fun σ H' => ∃ (k : Nat) (e g : Addr), σ = [some (.ref x), some (.ref b), some (.ref l), some (.ref S), some (.ref e), some (.ref g), some (.int (k : Int)), none] ∧ Same H1 H' ∧ k ≤ (rowsOf ms ns).length ∧ H' e = some (.lst ((endsK many (rowsOf ms ns) k).map V.int)) ∧ H' g = some (.lst ((seenK many (rowsOf ms ns) bs k).map V.int)) ∧ ∀ j, j < k → one (seenK many (rowsOf ms ns) bs j) = false)
      (fun σ _ => match σ with | [_, _, _, _, _, _, some (.int k), _] => (rowsOf ms ns).length - k.toNat | _ => 0) ⟨0, e0, g0, rfl, s2.trans s3', Nat.zero_le _, s3' _ _ upd_same, by rw [seenK_zero hbs]; exact upd_same, fun j hj => absurd hj (Nat.not_lt_zero _)⟩ ?_ ?_
    · rintro σ H2 ⟨k, e, g, rfl, s3, hk, he, hg, hbef⟩
      have hS2 := s3 _ _ hS
      obtain ⟨gl, gx⟩ := gE k hk
      have h64 : (seenK many (rowsOf ms ns) bs k).length < 64 := by rw [lenSeen]; exact b64
      -- what follows the loop
      have after : (k = (rowsOf ms ns).length ∨ one (seenK many (rowsOf ms ns) bs k) = true) → tSeq (tIfS (tB (tCall (spOne K) [] E0 (tCons (tVar 5) tNil))) (tRet (tTup (tCons (tOp (rIxL K) (tVar 5) (tC (.int 0))) (tCons (tVar 6) tNil)))) tNext) (tRet (tC .non)) { nx := fun _ H' => Q .non H', rt := Q } [some (.ref x), some (.ref b), some (.ref l), some (.ref S), some (.ref e), some (.ref g), some (.int (k : Int)), none] H2 := by
        intro hex
        refine ⟨.ref g, rfl, g, _, rfl, hg, h64, _, rfl, ite2 (fun c => ?_) (fun c => ?_)⟩
        · have g0 : ((seenK many (rowsOf ms ns) bs k).map V.int)[0]? = some (.int (goK (seenK many (rowsOf ms ns) bs k) 0)) := by
            have h0 : 0 < (seenK many (rowsOf ms ns) bs k).length := by rw [lenSeen]; omega
            rw [List.getElem?_map, List.getElem?_eq_getElem h0]
            unfold goK
            rw [List.getD_eq_getElem?_getD, show (0 : Int).toNat = 0 from rfl, List.getElem?_eq_getElem h0]
            rfl
          refine ⟨.ref g, rfl, g, _, 0, _, rfl, rfl, SqL.of hg, atI_nat (j := 0) g0, .int (k : Int), rfl, (by show 2 ≤ sizeLine; decide), fun t nt => ?_⟩
          exact q _ _ ((s1.trans s3).trans (same_new nt)) (.inl ⟨k, t, ⟨hk, c, hbef⟩, rfl, upd_same⟩)
        · refine q _ _ (s1.trans s3) (.inr ⟨fun j hj => ?_, rfl⟩)
          by_cases hjk : j < k
          · exact hbef j hjk
          · have ek : k = (rowsOf ms ns).length := hex.resolve_right c
            have ej : j = k := by omega
            rw [ej]
            cases ho : one (seenK many (rowsOf ms ns) bs k) with
            | false => rfl
            | true => exact absurd ho c
      refine ⟨.int (k : Int), rfl, .ref S, rfl, S, _, rfl, .inl (SqL.of hS2), _, _, rfl, rfl, _, rfl, ite2 (fun c => ?_) (fun c => ?_)⟩
      · have hlt : k < (rowsOf ms ns).length := by
          have := of_decide_eq_true c
          rw [List.length_map, lenQ] at this
          omega
        refine ⟨.ref g, rfl, g, _, rfl, hg, h64, _, rfl, ?_⟩
        cases ho : one (seenK many (rowsOf ms ns) bs k) with
        | true => exact after (.inr ho)
        | false =>
          refine (if_pos (rfl : (!false) = true)).mpr ?_
          have er := List.getElem?_eq_getElem hlt
          obtain ⟨qa, eqa, hqa⟩ := paired_get hp er
          have gS : (qs.map V.ref)[k]? = some (.ref qa) := by rw [List.getElem?_map, eqa]; rfl
          have hqa2 := s3 _ _ hqa
          obtain ⟨rl, rx⟩ := gR _ (List.getElem_mem hlt)
          refine ⟨.ref S, rfl, .int (k : Int), rfl, S, _, (k : Int), _, rfl, rfl, SqL.of hS2, atI_nat gS, qa, rfl, ⟨_, SqT.of hqa2⟩, fun D nD => ?_⟩
          have eK : endsK many (rowsOf ms ns) (k + 1) = (rowsOf ms ns)[k].map (goK (endsK many (rowsOf ms ns) k)) := by
            show ((rowsOf ms ns).getD k []).map _ = _
            rw [List.getD_eq_getElem?_getD, er]
            rfl
          refine lc_tup (K := K) (a := qa) (xs := ((rowsOf ms ns)[k]).map V.int) (fun i H' => Same H2 H' ∧ H' D = some (.lst ((((rowsOf ms ns)[k].map (goK (endsK many (rowsOf ms ns) k))).take i).map V.int)))
            ⟨same_new nD, by rw [List.take_zero]; exact upd_same⟩ (fun i H' _ h => SqT.of (h.1 _ _ hqa2)) ?_ ?_
          · rintro i v H3 hv ⟨s4, hD⟩
            rw [List.getElem?_map] at hv
            obtain ⟨p, hpp, rfl⟩ := Option.map_eq_some_iff.mp hv
            obtain ⟨p0, p1⟩ := rx p (List.mem_of_getElem? hpp)
            have hpl : p.toNat < (endsK many (rowsOf ms ns) k).length := by omega
            have ge : ((endsK many (rowsOf ms ns) k).map V.int)[p.toNat]? = some (.int (goK (endsK many (rowsOf ms ns) k) p)) := by
              rw [List.getElem?_map, List.getElem?_eq_getElem hpl]
              unfold goK
              rw [List.getD_eq_getElem?_getD, List.getElem?_eq_getElem hpl]
              rfl
            have hi : i < (rowsOf ms ns)[k].length := by
              obtain ⟨q1, _⟩ := List.getElem?_eq_some_iff.mp hpp
              exact q1
            refine ⟨rfl, .ref e, rfl, .int p, rfl, e, _, p, _, rfl, rfl, SqL.of (s4 _ _ he), at_of (show p = ((p.toNat : Nat) : Int) by omega) ge, _, hD, ?_, fun b u eb => by rw [upd_ne (ne_of_none eb nD)]; exact s4 _ _ eb, ?_⟩
            · rw [List.length_map, List.length_take]
              exact small8 (Nat.le_trans (Nat.min_le_left _ _) (by omega))
            · rw [upd_same, take_snoc (x := goK (endsK many (rowsOf ms ns) k) p) (by rw [List.getElem?_map, hpp]; rfl), List.map_append]
              rfl
          · rintro H3 ⟨s4, hD⟩
            rw [List.length_map, List.take_of_length_le (by rw [List.length_map]; exact Nat.le_refl _), ← eK] at hD
            have hb3 : SqL K H3 b (bs.map V.int) := (s3.trans s4).seq hb1
            obtain ⟨gl', gx'⟩ := gE (k + 1) hlt
            refine ⟨.ref b, rfl, b, rfl, ⟨_, hb3⟩, fun D' nD' => ?_⟩
            refine lc_list (K := K) (a := b) (xs := bs.map V.int) (fun i H' => Same H3 H' ∧ H' D' = some (.lst (((seenK many (rowsOf ms ns) bs (k + 1)).take i).map V.int)))
              ⟨same_new nD', by rw [List.take_zero]; exact upd_same⟩ (fun i H' _ h => h.1.seq hb3) ?_ ?_
            · rintro i v H4 hv ⟨s5, hD4⟩
              rw [List.getElem?_map] at hv
              obtain ⟨p, hpp, rfl⟩ := Option.map_eq_some_iff.mp hv
              obtain ⟨p0, p1⟩ := hbs p (List.mem_of_getElem? hpp)
              have hpl : p.toNat < (endsK many (rowsOf ms ns) (k + 1)).length := by omega
              have ge : ((endsK many (rowsOf ms ns) (k + 1)).map V.int)[p.toNat]? = some (.int (goK (endsK many (rowsOf ms ns) (k + 1)) p)) := by
                rw [List.getElem?_map, List.getElem?_eq_getElem hpl]
                unfold goK
                rw [List.getD_eq_getElem?_getD, List.getElem?_eq_getElem hpl]
                rfl
              refine ⟨rfl, .ref D, rfl, .int p, rfl, D, _, p, _, rfl, rfl, SqL.of (s5 _ _ hD), at_of (show p = ((p.toNat : Nat) : Int) by omega) ge, _, hD4, ?_, fun b u eb => by rw [upd_ne (ne_of_none eb nD')]; exact s5 _ _ eb, ?_⟩
              · rw [List.length_map, List.length_take, lenSeen]
                exact small1k (Nat.le_trans (Nat.min_le_right _ _) (by omega))
              · have et : (seenK many (rowsOf ms ns) bs (k + 1))[i]? = some (goK (endsK many (rowsOf ms ns) (k + 1)) p) := by
                  unfold seenK
                  rw [List.getElem?_map, hpp]
                  rfl
                rw [upd_same, take_snoc et, List.map_append]
                rfl
            · rintro H4 ⟨s5, hD4⟩
              rw [List.length_map, List.take_of_length_le (by rw [lenSeen]; exact Nat.le_refl _)] at hD4
              refine ⟨.int (k : Int), rfl, (k : Int), 1, rfl, rfl, ⟨k + 1, D, D', ?_, (s3.trans s4).trans s5, hlt, s5 _ _ hD, hD4, fun j hj => ?_⟩, ?_⟩
              · rfl
              · by_cases hjk : j < k
                · exact hbef j hjk
                · have ej : j = k := by omega
                  rw [ej]
                  exact ho
              · show (rowsOf ms ns).length - ((k : Int) + 1).toNat < (rowsOf ms ns).length - ((k : Int)).toNat
                omega
      · have hge : k = (rowsOf ms ns).length := by
          have h9 : ¬ ((k : Int) < ((qs.map V.ref).length : Int)) := fun z => c (decide_eq_true z)
          rw [List.length_map, lenQ] at h9
          omega
        exact after (.inl hge)
    · rintro σ H2 Q1 Q2 hq ⟨v, e1, u, e2, p, ys, e3, e4, i, j, e5, e6, b, e7, h⟩
      refine ⟨v, e1, u, e2, p, ys, e3, e4, i, j, e5, e6, b, e7, ?_⟩
      cases b with
      | false => exact hq _ _ h
      | true =>
        obtain ⟨z, e8, l2, ns2, e9, e10, e11, k2, e12, h2⟩ := h
        exact ⟨z, e8, l2, ns2, e9, e10, e11, k2, e12, hq _ _ h2⟩
theorem scDr : FnScope ["chain", "numbers"] ["chain", "numbers"] (defScope sDrawn) := ⟨rfl, rfl, rfl, by decide +kernel, rfl, by decide +kernel, by decide +kernel⟩
def spDrawn (C : Addr) : Sp := fun vs H Q _ => ∃ (x l : Addr) (many : Nat) (ms : List Mv) (ns : List Int), vs = [.ref x, .ref l] ∧ ChainAt C H x many ms ∧ Good many ms ∧ H l = some (.lst (ns.map V.int)) ∧ NumsOk ms ns ∧
  ∀ v H', Same H H' → DrawnAt H' v many (rowsOf ms ns) → Q v H'
theorem ok_drawn {f fF fS fO fP fT : Addr} {fd fdF fdS fdO fdP fdT : FuncData} (F : Fun K "drawn" "drawn" sDrawn f fd) (FF : Fun K "drawn_from" "drawn_from" sDrawnFrom fF fdF) (bF : Binds K fdF ["chain", "begins", "numbers"] []) (gF : mg "drawn_from" = some (.ref fF)) (FS : Fun K "steps_of" "steps_of" sStepsOf fS fdS) (bS : Binds K fdS ["chain", "numbers"] []) (gS : mg "steps_of" = some (.ref fS))
    (FO : Fun K "_are_one" "_are_one" sAreOne fO fdO) (bO : Binds K fdO ["ends"] []) (gO : mg "_are_one" = some (.ref fO)) (T : ChM K C fP fT fdP fdT) (mr : mg "range" = none) (ml : mg "len" = none) (mL : mg "list" = none) (mS : mg "set" = none) :
    FnOk P w K mg base CX0 4 f fd ["chain", "numbers"] (spDrawn C) := by
  have GF : FnOk P w K mg base CX0 3 fF fdF ["chain", "begins", "numbers"] (spDf K C) := ok_drawnFrom FF FS bS gS FO bO gO T mr ml mL mS
  have GP : FnOk P w K mg base CX0 1 fP fdP ["self"] (spPlaces C) := ok_places T.FP T.cl T.nM
  refine F.ok scDr (fun vs H Q E h => ?_) (fun cdv A outer s H vs Q E hr h => ?_)
  · obtain ⟨x, l, many, ms, ns, rfl, _⟩ := h
    rfl
  · obtain ⟨x, l, many, ms, ns, rfl, hC, G, hl, hN, q⟩ := h
    have r1 : Room 1 _ := hr.mono (by decide)
    refine ⟨_, pss_one (ps_ret (pe_call GF hr (by rfl) gF FF.kp bF .nil pass0 (pa_cons (pv 0) (pa_cons (pe_listRg rfl (by rfl) mL (prg_1 (by rfl) mr (pe_meth0 (pv 0) T.cl T.hP GP r1 T.bP .nil pass0))) (pa_cons (pv 1) pa_nil))))), ?_⟩
    obtain ⟨dx, a0, ws, h1, h2, h3⟩ := id hC
    have m6 := G.m6
    have m1 := G.m1
    refine ⟨.ref x, rfl, .ref x, rfl, x, dx, _, rfl, h1, ch_no, x, many, ms, rfl, hC, _, rfl, RgOk.of_le (by omega) (by omega) (by omega) (by omega), fun e0 ne0 => ?_⟩
    rw [rg_ends]
    have s1 : Same H (upd H e0 (.lst (((List.range many).map fun (i : Nat) => (i : Int)).map V.int))) := same_new ne0
    refine ⟨.ref l, rfl, x, e0, l, many, ms, _, ns, rfl, hC.same s1, G, SqL.of upd_same, by rw [List.length_map, List.length_range]; omega, by rw [List.length_map, List.length_range]; omega, fun z hz => ?_, s1 _ _ hl, hN, fun v H' s2 hd => q v H' (s1.trans s2) (hd.all (rowsOf_good G hN))⟩
    obtain ⟨i, hi, rfl⟩ := List.mem_map.mp hz
    have := List.mem_range.mp hi
    omega
end
section
variable {P : Program} {w : World} {K : PySem.W.Frag} {mg : Str → Option Value} {base : Heap}
/-! ### _law_numbers -/
def rLenSq (K : PySem.W.Frag) : List V → Hp → VK → Prop := fun xs H Q => ∃ p ys, xs = [V.ref p] ∧ (SqL K H p ys ∨ SqT K H p ys) ∧ Q (.int ((ys.length : Nat) : Int)) H
def nNu : List Str := ["_law_d", "_law_moves", "_law_most", "_law_k"]
theorem scNu : FnScope ["_law_d", "_law_moves", "_law_most", "_law_k"] ["_law_d", "_law_moves", "_law_most"] (defScope sNumbers) := ⟨rfl, rfl, rfl, by decide +kernel, rfl, by decide +kernel, by decide +kernel⟩
def spNu (K : PySem.W.Frag) : Sp := fun vs H Q _ => ∃ (d l m : Addr) (most : Nat) (ns : List Int) (ws : List V), vs = [.ref d, .ref m, .int ((most : Nat) : Int)] ∧ Dc K l ns H d ∧ H m = some (.lst ws) ∧ m ≠ d ∧ 1 ≤ ws.length ∧ ws.length ≤ 8 ∧ most ≤ 900 ∧
  ∀ (r : Addr) (zs : List Int) H', Dc K l ns H' d → Gr d H H' → H r = none → r ≠ d → H' r = some (.lst (zs.map V.int)) → zs.length ≤ most → (∀ z ∈ zs, 0 ≤ z ∧ z < (ws.length : Int)) → Q (.ref r) H'
theorem small900 {n : Nat} (h : n ≤ 900) : n < sizeLine := Nat.lt_of_le_of_lt h (by decide)
theorem ok_numbers {f fC fD fO : Addr} {fd fdC fdD fdO : FuncData} (F : Fun K "_law_numbers" "_law_numbers" sNumbers f fd) (T : LawTxt K mg fC fD fO fdC fdD fdO) : FnOk P w K mg base CX0 3 f fd ["_law_d", "_law_moves", "_law_most"] (spNu K) := by
  have GO : FnOk P w K mg base CX0 2 fO fdO ["_law_d", "_law_most"] (spOff K) := T.off
  refine F.ok scNu (fun vs H Q E h => ?_) (fun cdv A outer s H vs Q E hr h => ?_)
  · obtain ⟨d, l, m, most, ns, ws, rfl, _⟩ := h
    rfl
  · obtain ⟨d, l, m, most, ns, ws, rfl, hD, hm, nmd, w1, w8, h900, q⟩ := h
    refine ⟨_, pss_one (ps_ret (pe_lc (own := [("_law_k", 3)]) (g := gName 3) (tt := tYes) (te := tCall (spOff K) [] E0 (tCons (tVar 0) (tCons (tCB (rLenSq K) (tCons (tVar 1) tNil)) tNil))) rfl scNu.nd
        (pi_range1 (by rfl) T.mr (pa_cons (pe_call GO hr (by rfl) T.gO T.FO.kp T.bO .nil pass0 (pa_cons (pv 0) (pa_cons (pe_op op_add (pv 2) pe_int) pa_nil))) pa_nil)) (blkOk_by (N := nNu) (sc := defScope sNumbers) (by decide +kernel))
        (fun _ _ _ _ _ => pg_name (i := 3) scNu.nd rfl (.inl rfl)) (fun _ _ _ _ _ => pts_nil)
        (fun _ _ _ _ _ => by exact (pe_call GO hr (by rfl) T.gO T.FO.kp T.bO .nil pass0 (pa_cons (pv 0) (pa_cons (pe_callB call_len_seq (by rfl) T.ml PySem.boot_len (pa_cons (pv 1) pa_nil)) pa_nil)))))), ?_⟩
    have m0 : (0 : Int) ≤ ((most : Nat) : Int) := Int.natCast_nonneg _
    refine ⟨.ref d, rfl, .int ((most : Nat) : Int), rfl, _, _, rfl, rfl, d, l, ns, _, rfl, hD, by omega, by omega, fun cnt H1 hc hD1 o1 => ?_⟩
    refine ⟨_, rfl, by omega, by omega, fun D nD => ?_⟩
    have nDd : D ≠ d := hD1.ne nD
    have hm1 : H1 m = some (.lst ws) := by rw [o1 m nmd]; exact hm
    have g1 : Gr d H H1 := (Gr.refl d H).off o1
    have nDH : H D = none := by
      rw [← o1 D nDd]
      exact nD
    refine lc_range (lo := 0) (n := ((cnt : Nat) : Int).toNat) (fun j H' => Dc K l ns H' d ∧ Gr d H1 H' ∧ ∃ zs : List Int, zs.length = j ∧ H' D = some (.lst (zs.map V.int)) ∧ ∀ z ∈ zs, 0 ≤ z ∧ z < (ws.length : Int))
      ⟨hD1.new nD, (Gr.refl d H1).new nD, [], rfl, upd_same, (fun _ z => nomatch z)⟩ ?_ ?_
    · rintro j H2 hj ⟨hD2, g2, zs, el, hz, hin⟩
      have hm2 := g2 m _ nmd hm1
      refine ⟨rfl, .ref d, rfl, .ref m, rfl, m, ws, rfl, .inl (SqL.of hm2), d, l, ns, _, rfl, hD2, by omega, by omega, fun x H3 hx hD3 o3 => ?_⟩
      have hz3 : H3 D = some (.lst (zs.map V.int)) := by rw [o3 D nDd]; exact hz
      refine ⟨_, hz3, by rw [List.length_map, el]; exact small900 (by omega), hD3.turn hD1 nD nDd, ?_, zs ++ [(x : Int)], by rw [List.length_append, el]; rfl, by rw [upd_same, List.map_append]; rfl, ?_⟩
      · intro b o nb e
        rw [upd_ne (ne_of_none e nD)]
        exact (g2.off o3) b o nb e
      · intro z hzz
        rcases List.mem_append.mp hzz with hzz | hzz
        · exact hin z hzz
        · have e : z = (x : Int) := by simpa using hzz
          omega
    · rintro H2 ⟨hD2, g2, zs, el, hz, hin⟩
      exact q D zs H2 hD2 (g1.trans g2) nDH nDd hz (by omega) hin
end
/-! ### _law_ends, _law_drawn: the mathematics -/
def rowN (ms : List Mv) (n : Int) : List Int := (ms.getD n.toNat (0, [])).2
def foldE (many : Nat) (ms : List Mv) (ns : List Int) : List Int := ns.foldl (fun L n => L.map (goK (rowN ms n))) ((List.range many).map fun (i : Nat) => (i : Int))
theorem foldE_snoc {many i : Nat} {ms : List Mv} {ns : List Int} {n : Int} (h : ns[i]? = some n) : foldE many ms (ns.take (i + 1)) = (foldE many ms (ns.take i)).map (goK (rowN ms n)) := by
  unfold foldE
  rw [take_snoc h, List.foldl_append]
  rfl
theorem goK_in {many : Nat} {f : List Int} {p : Int} (h : GoodRow many f) (h0 : 0 ≤ p) (h1 : p < (many : Int)) : 0 ≤ goK f p ∧ goK f p < (many : Int) := by
  have hl : p.toNat < f.length := by rw [h.1]; omega
  unfold goK
  rw [List.getD_eq_getElem?_getD, List.getElem?_eq_getElem hl]
  exact h.2 _ (List.getElem_mem hl)
theorem map_good {many : Nat} {f L : List Int} (hf : GoodRow many f) (hL : GoodRow many L) : GoodRow many (L.map (goK f)) := by
  refine ⟨by rw [List.length_map, hL.1], fun x hx => ?_⟩
  obtain ⟨p, hp, rfl⟩ := List.mem_map.mp hx
  exact goK_in hf (hL.2 p hp).1 (hL.2 p hp).2
theorem rowN_good {many : Nat} {ms : List Mv} {n : Int} (G : Good many ms) (h0 : 0 ≤ n) (h1 : n < (ms.length : Int)) : GoodRow many (rowN ms n) := by
  have hl : n.toNat < ms.length := by omega
  unfold rowN
  rw [List.getD_eq_getElem?_getD, List.getElem?_eq_getElem hl]
  exact (G.mv _ (List.getElem_mem hl)).2.2
theorem range_good (many : Nat) : GoodRow many ((List.range many).map fun (i : Nat) => (i : Int)) := by
  refine ⟨by rw [List.length_map, List.length_range], fun x hx => ?_⟩
  obtain ⟨i, hi, rfl⟩ := List.mem_map.mp hx
  have := List.mem_range.mp hi
  omega
theorem foldE_good {many : Nat} {ms : List Mv} (G : Good many ms) : ∀ {ns L : List Int}, (∀ n ∈ ns, 0 ≤ n ∧ n < (ms.length : Int)) → GoodRow many L → GoodRow many (ns.foldl (fun L n => L.map (goK (rowN ms n))) L)
  | [], _, _, h => h
  | n :: ns, L, hn, hL => by
    rw [List.foldl_cons]
    exact foldE_good G (fun z hz => hn z (List.mem_cons_of_mem _ hz)) (map_good (rowN_good G (hn n List.mem_cons_self).1 (hn n List.mem_cons_self).2) hL)
/-- goK of the identity row -/
theorem goK_id {many : Nat} {p : Int} (h0 : 0 ≤ p) (h1 : p < (many : Int)) : goK ((List.range many).map fun (i : Nat) => (i : Int)) p = p := by
  unfold goK
  rw [List.getD_eq_getElem?_getD, List.getElem?_map, List.getElem?_range (by omega)]
  show ((p.toNat : Nat) : Int) = p
  omega
theorem goK_map {many : Nat} {f g : List Int} {p : Int} (hg : GoodRow many g) (h0 : 0 ≤ p) (h1 : p < (many : Int)) : goK (g.map (goK f)) p = goK f (goK g p) := by
  have hl : p.toNat < g.length := by rw [hg.1]; omega
  unfold goK
  rw [List.getD_eq_getElem?_getD, List.getElem?_map, List.getD_eq_getElem?_getD (l := g), List.getElem?_eq_getElem hl]
  rfl
theorem rows_at {ms : List Mv} {ns : List Int} {k : Nat} {n : Int} (h : ns[k]? = some n) : (rowsOf ms ns).getD k [] = rowN ms n := by
  unfold rowsOf
  rw [List.getD_eq_getElem?_getD, List.getElem?_map, h]
  rfl
/-- walks that begin k steps back, walked from there -/
theorem fold_ends {many : Nat} {ms : List Mv} {ns : List Int} (G : Good many ms) (hN : NumsOk ms ns) : ∀ (k : Nat), k ≤ ns.length → ∀ L : List Int, GoodRow many L →
    ((ns.take k).reverse).foldl (fun L n => L.map (goK (rowN ms n))) L = L.map (goK (endsK many (rowsOf ms ns) k))
  | 0, _, L, hL => by
    show L = L.map (goK (endsK many (rowsOf ms ns) 0))
    have : L.map (goK (endsK many (rowsOf ms ns) 0)) = L.map id := List.map_congr_left fun p hp => goK_id (hL.2 p hp).1 (hL.2 p hp).2
    rw [this, List.map_id]
  | k + 1, hk, L, hL => by
    have hkl : k < ns.length := by omega
    have e := List.getElem?_eq_getElem hkl
    obtain ⟨n0, n1⟩ := hN.2 ns[k] (List.getElem_mem hkl)
    have gr := rowN_good G n0 n1
    have gE : GoodRow many (endsK many (rowsOf ms ns) k) := endsK_good (rowsOf_good G hN) k (by unfold rowsOf; rw [List.length_map]; omega)
    rw [take_snoc e, List.reverse_append, List.reverse_cons, List.reverse_nil, List.nil_append, List.singleton_append, List.foldl_cons, fold_ends G hN k (by omega) _ (map_good gr hL), List.map_map]
    refine List.map_congr_left fun p hp => ?_
    show goK (endsK many (rowsOf ms ns) k) (goK (rowN ms ns[k]) p) = goK (((rowsOf ms ns).getD k []).map (goK (endsK many (rowsOf ms ns) k))) p
    rw [rows_at e, goK_map gr (hL.2 p hp).1 (hL.2 p hp).2]
theorem foldE_back {many : Nat} {ms : List Mv} {ns : List Int} (G : Good many ms) (hN : NumsOk ms ns) (k : Nat) (hk : k ≤ ns.length) : foldE many ms ((ns.take k).reverse) = endsK many (rowsOf ms ns) k := by
  have gE : GoodRow many (endsK many (rowsOf ms ns) k) := endsK_good (rowsOf_good G hN) k (by unfold rowsOf; rw [List.length_map]; exact hk)
  unfold foldE
  rw [fold_ends G hN k hk _ (range_good many), List.map_map]
  apply List.ext_getElem?
  intro i
  rw [List.getElem?_map]
  by_cases hi : i < many
  · rw [List.getElem?_range hi, List.getElem?_eq_getElem (by rw [gE.1]; exact hi)]
    show some (goK (endsK many (rowsOf ms ns) k) (i : Int)) = _
    unfold goK
    rw [Int.toNat_natCast, List.getD_eq_getElem?_getD, List.getElem?_eq_getElem (by rw [gE.1]; exact hi)]
    rfl
  · rw [List.getElem?_eq_none_iff.mpr (by rw [List.length_range]; omega), List.getElem?_eq_none_iff.mpr (by rw [gE.1]; omega)]
    rfl
section
variable {P : Program} {w : World} {K : PySem.W.Frag} {mg : Str → Option Value} {base : Heap}
def nEn : List Str := ["_law_told", "_law_numbers_here", "_law_found", "_law_number", "_law_place"]
theorem scEn : FnScope ["_law_told", "_law_numbers_here", "_law_found", "_law_number", "_law_place"] ["_law_told", "_law_numbers_here"] (defScope sLawEnds) := ⟨rfl, rfl, rfl, by decide +kernel, rfl, by decide +kernel, by decide +kernel⟩
def spEn : Sp := fun vs H Q _ => ∃ (t m l : Addr) (many : Nat) (ws : List V) (ms : List Mv) (ns : List Int), vs = [.ref t, .ref l] ∧ ToldAt H t m many ws ms ∧ Good many ms ∧ H l = some (.lst (ns.map V.int)) ∧ NumsOk ms ns ∧
  ∀ e H', Same H H' → H' e = some (.lst ((foldE many ms ns).map V.int)) → Q (.ref e) H'
theorem ok_ends {f : Addr} {fd : FuncData} {k : Nat} (F : Fun K "_law_ends" "_law_ends" sLawEnds f fd) (mr : mg "range" = none) (mL : mg "list" = none) : FnOk P w K mg base CX0 (k + 1) f fd ["_law_told", "_law_numbers_here"] spEn := by
  refine F.ok scEn (fun vs H Q E h => ?_) (fun cdv A outer s H vs Q E hr h => ?_)
  · obtain ⟨t, m, l, many, ws, ms, ns, rfl, _⟩ := h
    rfl
  · obtain ⟨t, m, l, many, ws, ms, ns, rfl, ⟨ht, hm, hM⟩, G, hl, hN, q⟩ := h
    refine ⟨_, pss_cons (ps_set (i := 2) scEn.nd rfl (.inl rfl) (pe_listRg rfl (by rfl) mL (prg_1 (by rfl) mr (pe_ix ix_tup (pv 0) pe_int (fun _ _ => rfl)))))
      (pss_cons (ps_for PassesOwn.never rfl (pi_list (pv 1)) (pg_name (i := 3) scEn.nd rfl (.inr rfl))
        (pss_one (ps_setLc (i := 2) (own := [("_law_place", 4)]) (g := gName 4) (tt := tYes) (te := tOp (rIxT K) (tOp (rIxT K) (tOp (rIxL K) (tOp (rIxT K) (tVar 0) (tC (.int 1))) (tVar 3)) (tC (.int 1))) (tVar 4)) rfl scEn.nd rfl rfl (sw_true rfl rfl rfl (by decide +kernel)) (pi_list (pv 2)) (blkOk_by (N := nEn) (sc := defScope sLawEnds) (by decide +kernel))
          (fun _ _ _ _ _ => pg_name (i := 4) scEn.nd rfl (.inl rfl)) (fun _ _ _ _ _ => pts_nil)
          (fun _ _ _ _ _ => by exact (pe_ix ix_tup (pe_ix ix_tup (pe_ix ix_list (pe_ix ix_tup (pv 0) pe_int (fun _ _ => rfl)) (pv 3) (fun _ _ => rfl)) pe_int (fun _ _ => rfl)) (pv 4) (fun _ _ => rfl))))))
      (pss_one (ps_ret (pv 2)))), ?_⟩
    have m6 := G.m6
    have lenW := hM.length
    refine ⟨.ref t, rfl, t, _, 0, _, rfl, rfl, SqT.of ht, atI_nat (j := 0) rfl, _, rfl, RgOk.of_le (by omega) (by omega) (by omega) (by omega), fun e0 ne0 => ?_⟩
    rw [rg_ends]
    have s1 : Same H (upd H e0 (.lst (((List.range many).map fun (i : Nat) => (i : Int)).map V.int))) := same_new ne0
    refine ⟨.ref l, rfl, l, rfl, ⟨_, SqL.of (s1 _ _ hl)⟩, for_list (K := K) (a := l) (xs := ns.map V.int) (fun i σ H' => ∃ e y3, σ = [some (.ref t), some (.ref l), some (.ref e), y3, none] ∧ Same H H' ∧ H' e = some (.lst ((foldE many ms (ns.take i)).map V.int)))
      ⟨e0, none, rfl, s1, by rw [List.take_zero]; exact upd_same⟩ (fun i σ H' _ ⟨_, _, _, s, _⟩ => SqL.of (s _ _ hl)) ?_ ?_⟩
    · rintro i v σ H1 hv ⟨e, y3, rfl, s2, he⟩
      rw [List.getElem?_map] at hv
      obtain ⟨n, hn, rfl⟩ := Option.map_eq_some_iff.mp hv
      obtain ⟨n0, n1⟩ := hN.2 n (List.mem_of_getElem? hn)
      have hnm : n.toNat < ms.length := by omega
      obtain ⟨mv, emv, ⟨ta, tb, rfl, hta, htb⟩⟩ := hM.get (List.getElem?_eq_getElem hnm)
      have eR : rowN ms n = ms[n.toNat].2 := by
        unfold rowN
        rw [List.getD_eq_getElem?_getD, List.getElem?_eq_getElem hnm]
        rfl
      have gR := rowN_good G n0 n1
      have gL : GoodRow many (foldE many ms (ns.take i)) := foldE_good G (fun z hz => hN.2 z (List.mem_of_mem_take hz)) (range_good many)
      refine ⟨.ref e, rfl, e, rfl, ⟨_, SqL.of he⟩, fun D nD => ?_⟩
      refine lc_list (K := K) (a := e) (xs := (foldE many ms (ns.take i)).map V.int) (fun j H' => Same H1 H' ∧ H' D = some (.lst ((((foldE many ms (ns.take i)).map (goK (rowN ms n))).take j).map V.int)))
        ⟨same_new nD, by rw [List.take_zero]; exact upd_same⟩ (fun j H' _ h => SqL.of (h.1 _ _ he)) ?_ ?_
      · rintro j u H2 hu ⟨s3, hD⟩
        rw [List.getElem?_map] at hu
        obtain ⟨p, hp, rfl⟩ := Option.map_eq_some_iff.mp hu
        obtain ⟨p0, p1⟩ := gL.2 p (List.mem_of_getElem? hp)
        have hj : j < many := by
          obtain ⟨q1, _⟩ := List.getElem?_eq_some_iff.mp hp
          rw [gL.1] at q1
          exact q1
        have s23 := s2.trans s3
        have hpl : p.toNat < ms[n.toNat].2.length := by rw [← eR, gR.1]; omega
        have gp : (ms[n.toNat].2.map V.int)[p.toNat]? = some (.int (goK (rowN ms n) p)) := by
          rw [List.getElem?_map, List.getElem?_eq_getElem hpl]
          unfold goK
          rw [eR, List.getD_eq_getElem?_getD, List.getElem?_eq_getElem hpl]
          rfl
        refine ⟨rfl, .ref t, rfl, t, _, 1, _, rfl, rfl, SqT.of (s23 _ _ ht), atI_nat (j := 1) rfl, .int n, rfl, m, _, n, _, rfl, rfl, SqL.of (s23 _ _ hm), at_of (show n = ((n.toNat : Nat) : Int) by omega) emv, ta, _, 1, _, rfl, rfl, SqT.of (s23 _ _ hta), atI_nat (j := 1) rfl, ?_⟩
        refine ⟨.int p, rfl, tb, _, p, _, rfl, rfl, SqT.of (s23 _ _ htb), at_of (show p = ((p.toNat : Nat) : Int) by omega) gp, _, hD, ?_, fun b o eb => by rw [upd_ne (ne_of_none eb nD)]; exact s3 _ _ eb, ?_⟩
        · rw [List.length_map, List.length_take]
          exact small8 (Nat.le_trans (Nat.min_le_left _ _) (by omega))
        · rw [upd_same, take_snoc (x := goK (rowN ms n) p) (by rw [List.getElem?_map, hp]; rfl), List.map_append]
          rfl
      · rintro H2 ⟨s3, hD⟩
        rw [List.length_map, List.take_of_length_le (by rw [List.length_map]; exact Nat.le_refl _), ← foldE_snoc hn] at hD
        exact ⟨D, some (.int n), rfl, s2.trans s3, hD⟩
    · rintro σ H1 ⟨e, y3, rfl, s2, he⟩
      rw [List.length_map, List.take_length] at he
      exact ⟨.ref e, rfl, q e H1 s2 he⟩
end
section
variable {P : Program} {w : World} {K : PySem.W.Frag} {mg : Str → Option Value} {base : Heap}
theorem scLd : FnScope ["_law_told", "_law_numbers_here", "_law_far", "_law_ends_here"] ["_law_told", "_law_numbers_here"] (defScope sLawDrawn) := ⟨rfl, rfl, rfl, by decide +kernel, rfl, by decide +kernel, by decide +kernel⟩
def spLd : Sp := fun vs H Q _ => ∃ (t m l : Addr) (many : Nat) (ws : List V) (ms : List Mv) (ns : List Int), vs = [.ref t, .ref l] ∧ ToldAt H t m many ws ms ∧ Good many ms ∧ H l = some (.lst (ns.map V.int)) ∧ NumsOk ms ns ∧
  ∀ v H', Same H H' → DrawnAt H' v many (rowsOf ms ns) → Q v H'
theorem cut_to (xs : List V) (n : Nat) : cutV xs none (some ((n : Nat) : Int)) = xs.take n := by
  unfold cutV
  rw [HT.sIx_none, HT.sIx_nat, List.drop_zero, Nat.sub_zero]
  by_cases h : n ≤ xs.length
  · rw [Nat.min_eq_left h]
  · rw [Nat.min_eq_right (by omega), List.take_of_length_le (Nat.le_refl _), List.take_of_length_le (by omega)]
theorem ToldAt.same {H H' : Hp} {t m : Addr} {many : Nat} {ws : List V} {ms : List Mv} (s : Same H H') (h : ToldAt H t m many ws ms) : ToldAt H' t m many ws ms := ⟨s _ _ h.1, s _ _ h.2.1, h.2.2.same (Same.tups s)⟩
theorem ok_ldrawn {f fE : Addr} {fd fdE : FuncData} (F : Fun K "_law_drawn" "_law_drawn" sLawDrawn f fd) (FE : Fun K "_law_ends" "_law_ends" sLawEnds fE fdE) (bE : Binds K fdE ["_law_told", "_law_numbers_here"] []) (gE : mg "_law_ends" = some (.ref fE))
    (mr : mg "range" = none) (mL : mg "list" = none) (ml : mg "len" = none) (mS : mg "set" = none) (mR : mg "reversed" = none) : FnOk P w K mg base CX0 2 f fd ["_law_told", "_law_numbers_here"] spLd := by
  have GE : FnOk P w K mg base CX0 1 fE fdE ["_law_told", "_law_numbers_here"] spEn := ok_ends FE mr mL
  refine F.ok scLd (fun vs H Q E h => ?_) (fun cdv A outer s H vs Q E hr h => ?_)
  · obtain ⟨t, m, l, many, ws, ms, ns, rfl, _⟩ := h
    rfl
  · obtain ⟨t, m, l, many, ws, ms, ns, rfl, hT, G, hl, hN, q⟩ := h
    refine ⟨_, pss_cons (ps_for PassesOwn.never rfl (pi_range1 (by rfl) mr (pa_cons (pe_op op_add (pe_callB call_len_seq (by rfl) ml PySem.boot_len (pa_cons (pv 1) pa_nil)) pe_int) pa_nil)) (pg_name (i := 2) scLd.nd rfl (.inl rfl))
        (pss_cons (ps_set (i := 3) scLd.nd rfl (.inl rfl) (pe_call GE hr (by rfl) gE FE.kp bE .nil pass0 (pa_cons (pv 0) (pa_cons (pe_lstRev rfl (by rfl) mL (by rfl) mR (pe_slice sl_list (pv 1) po_none (po_some (pv 2)))) pa_nil))))
        (pss_one (ps_if (pt_cmpR op_eq (pe_lenSetN (by rfl) ml (by rfl) mS (pv 3)) pe_int (nomark _)) (pss_one (ps_ret (pe_tup (pa_cons (pe_ix ix_list (pv 3) pe_int (fun _ _ => rfl)) (pa_cons (pv 2) pa_nil))))) pss_nil))))
      (pss_one (ps_ret pe_non)), ?_⟩
    have m6 := G.m6
    have m1 := G.m1
    have n1000 := hN.1
    have lenR : (rowsOf ms ns).length = ns.length := by
      unfold rowsOf
      rw [List.length_map]
    have gE' := endsK_good (rowsOf_good G hN)
    refine ⟨.ref l, rfl, l, _, rfl, .inl (SqL.of hl), _, _, rfl, rfl, _, rfl, by omega, by rw [List.length_map]; omega, ?_⟩
    have en : ((((ns.map V.int).length : Nat) : Int) + 1).toNat = ns.length + 1 := by rw [List.length_map]; omega
    refine for_range (lo := 0) (n := ((((ns.map V.int).length : Nat) : Int) + 1).toNat) (fun i σ H' => ∃ y2 y3, σ = [some (.ref t), some (.ref l), y2, y3] ∧ Same H H' ∧ ∀ j, j < i → one (endsK many (rowsOf ms ns) j) = false)
      ⟨none, none, rfl, Same.refl _, fun j hj => absurd hj (Nat.not_lt_zero _)⟩ ?_ ?_
    · rintro i σ H1 hi ⟨y2, y3, rfl, s1, hbef⟩
      rw [en] at hi
      have ei : (0 : Int) + ((i : Nat) : Int) = ((i : Nat) : Int) := Int.zero_add _
      refine ⟨.ref t, rfl, .ref l, rfl, .int (0 + ((i : Nat) : Int)), rfl, _, rfl, l, _, rfl, SqL.of (s1 _ _ hl), fun c nc => ?_⟩
      rw [ei, cut_to, ← List.map_take]
      have s2 : Same H1 (upd H1 c (.lst ((ns.take i).map V.int))) := same_new nc
      refine ⟨c, _, rfl, SqL.of upd_same, fun r nr => ?_⟩
      rw [← List.map_reverse]
      have s3 : Same (upd H1 c (.lst ((ns.take i).map V.int))) (upd (upd H1 c (.lst ((ns.take i).map V.int))) r (.lst ((ns.take i).reverse.map V.int))) := same_new nr
      have s13 := (s1.trans s2).trans s3
      have hN2 : NumsOk ms (ns.take i).reverse := by
        refine ⟨by rw [List.length_reverse, List.length_take]; exact Nat.le_trans (Nat.min_le_right _ _) n1000, fun n hn => hN.2 n (List.mem_of_mem_take (List.mem_reverse.mp hn))⟩
      refine ⟨t, m, r, many, ws, ms, (ns.take i).reverse, rfl, hT.same s13, G, upd_same, hN2, fun e H2 s4 he => ?_⟩
      rw [foldE_back G hN i (by omega)] at he
      obtain ⟨gl, gx⟩ := gE' i (by omega)
      have h64 : (endsK many (rowsOf ms ns) i).length < 64 := by omega
      refine ⟨.ref e, rfl, e, _, rfl, SqL.of he, h64, rfl, _, rfl, ite2 (fun c1 => ?_) (fun c1 => ?_)⟩
      · have g0 : ((endsK many (rowsOf ms ns) i).map V.int)[0]? = some (.int (goK (endsK many (rowsOf ms ns) i) 0)) := by
          have h0 : 0 < (endsK many (rowsOf ms ns) i).length := by omega
          rw [List.getElem?_map, List.getElem?_eq_getElem h0]
          unfold goK
          rw [List.getD_eq_getElem?_getD, show (0 : Int).toNat = 0 from rfl, List.getElem?_eq_getElem h0]
          rfl
        refine ⟨.ref e, rfl, e, _, 0, _, rfl, rfl, SqL.of he, atI_nat (j := 0) g0, .int ((i : Nat) : Int), rfl, (by show 2 ≤ sizeLine; decide), fun t2 nt2 => ?_⟩
        exact q _ _ ((s13.trans s4).trans (same_new nt2)) (.inl ⟨i, t2, ⟨by omega, c1, hbef⟩, rfl, upd_same⟩)
      · refine ⟨some (.int ((i : Nat) : Int)), some (.ref e), rfl, s13.trans s4, fun j hj => ?_⟩
        by_cases hji : j < i
        · exact hbef j hji
        · have ej : j = i := by omega
          rw [ej]
          cases ho : one (endsK many (rowsOf ms ns) i) with
          | false => rfl
          | true => exact absurd ho c1
    · rintro σ H1 ⟨y2, y3, rfl, s1, hbef⟩
      exact q _ _ s1 (.inr ⟨fun j hj => hbef j (by rw [en]; omega), rfl⟩)
end
theorem dp_ints (K : PySem.W.Frag) (H : Hp) : ∀ ns : List Int, DpAll K H (ns.map V.int) (ns.map PyData.int)
  | [] => .nil
  | n :: ns => .cons (.int n) (dp_ints K H ns)
theorem eqv_ints : ∀ ns : List Int, PyData.eqvAll (ns.map PyData.int) (ns.map PyData.int) = true
  | [] => rfl
  | n :: ns => by
    show ((n == n) && PyData.eqvAll (ns.map PyData.int) (ns.map PyData.int)) = true
    rw [eqv_ints ns]
    simp
theorem dp_lst {K : PySem.W.Frag} {H : Hp} {a : Addr} {ns : List Int} (h : H a = some (.lst (ns.map V.int))) : Dp K H (.ref a) (.list (ns.map PyData.int)) := .lst (SqL.of h) (dp_ints K H ns)
theorem shaped_is (ns : List Int) : SeqAt.shaped (.list (ns.map PyData.int)) = true := PySem.W.ke_shaped_ints ns
theorem eqv_lst (ns : List Int) : PyData.eqv (.list (ns.map PyData.int)) (.list (ns.map PyData.int)) = true := eqv_ints ns
theorem dp_pair {K : PySem.W.Frag} {H : Hp} {t : Addr} {x y : Int} (h : H t = some (.tup [.int x, .int y])) : Dp K H (.ref t) (.tuple [.int x, .int y]) := .tup (SqT.of h) (.cons (.int _) (.cons (.int _) .nil))
theorem eqv_pair (x y : Int) : PyData.eqv (.tuple [.int x, .int y]) (.tuple [.int x, .int y]) = true := by
  show ((x == x) && ((y == y) && true)) = true
  simp
theorem kit_ib (K : PySem.W.Frag) : PySem.W.kitOne K (.type "int") (.type "bool") = some false := kit_ty (by decide +kernel)
theorem hu64 {A : Around} {k : Nat} (hr : Room k A) : A.units + 64 < cLine := by
  have := hr.un
  omega
/-- what is drawn is one thing -/
theorem first_one {many : Nat} {rows : List (List Int)} {j k : Nat} (h1 : FirstOne many rows j) (h2 : FirstOne many rows k) : j = k := by
  obtain ⟨_, a1, b1⟩ := h1
  obtain ⟨_, a2, b2⟩ := h2
  rcases Nat.lt_trichotomy j k with h | h | h
  · rw [b2 j h] at a1
    cases a1
  · exact h
  · rw [b1 k h] at a2
    cases a2
theorem one_none {many : Nat} {rows : List (List Int)} {j : Nat} (h1 : FirstOne many rows j) (h2 : NoOne many rows) : False := by
  obtain ⟨a, b, _⟩ := h1
  rw [h2 j a] at b
  cases b
section
variable {P : Program} {w : World} {K : PySem.W.Frag} {mg : Str → Option Value} {base : Heap} {C : Addr}
theorem flat_rep {α : Type} : ∀ (n : Nat) (x : α), (List.replicate n [x]).flatten = List.replicate n x
  | 0, _ => rfl
  | n + 1, x => by rw [List.replicate_succ, List.flatten_cons, flat_rep n x, List.replicate_succ]; rfl
def spLaw (K : PySem.W.Frag) (T : Addr) : Sp := fun vs H Q _ => ∃ (a : Addr) (ns : List Int), vs = [.ref a] ∧ SqL K H a (ns.map V.int) ∧ ns.length ≤ 63 ∧ GxR.TabG H T ∧ ∀ H', Q (.bl true) H'
def nLaw : List Str := ["_law_script", "_law_told", "_law_d", "_law_numbers_here", "_law_many", "_law_handed", "_law_found", "_law_due", "_law_one"]
theorem scLaw : FnScope ["_law_script", "_law_told", "_law_d", "_law_numbers_here", "_law_many", "_law_handed", "_law_found", "_law_due", "_law_one"] ["_law_script"] (defScope sLaw) := ⟨rfl, rfl, rfl, by decide +kernel, rfl, by decide +kernel, by decide +kernel⟩
/-- a def of the module, named -/
structure Df (K : PySem.W.Frag) (mg : Str → Option Value) (x : Str) (st : Stmt) (ps : List Str) (f : Addr) (fd : FuncData) : Prop where
  F : Fun K x x st f fd
  b : Binds K fd ps []
  g : mg x = some (.ref f)
theorem ok_law {f fc fd' fo fh fM fD fN fL tM : Addr} {fd fdc fdd fdo fdh fdM fdD fdN fdL : FuncData} (F : Fun K "law" "law" sLaw f fd) (T : LawTxt K mg fc fd' fo fdc fdd fdo) (Dh : Df K mg "_law_chain" sChain ["_law_d", "_law_most"] fh fdh)
    (DM : Df K mg "_law_made" sMade ["_law_told"] fM fdM) (DD : Df K mg "drawn" sDrawn ["chain", "numbers"] fD fdD) (DN : Df K mg "_law_numbers" sNumbers ["_law_d", "_law_moves", "_law_most"] fN fdN) (DL : Df K mg "_law_drawn" sLawDrawn ["_law_told", "_law_numbers_here"] fL fdL)
    (GM : FnOk P w K mg base CX0 4 fM fdM ["_law_told"] (spMade C tM)) (GD : FnOk P w K mg base CX0 4 fD fdD ["chain", "numbers"] (spDrawn C)) (GL : FnOk P w K mg base CX0 2 fL fdL ["_law_told", "_law_numbers_here"] spLd)
    (mi : mg "isinstance" = none) (mL : mg "list" = none) (mb : mg "bool" = none) : FnOk P w K mg base CX0 6 f fd ["_law_script"] (spLaw K tM) := by
  have GD' : FnOk P w K mg base CX0 2 fd' fdd ["_law_script", "_law_k"] (spDice K) := T.dice
  have GO : FnOk P w K mg base CX0 2 fo fdo ["_law_d", "_law_most"] (spOff K) := T.off
  have GH : FnOk P w K mg base CX0 3 fh fdh ["_law_d", "_law_most"] (spChain K) := ok_chain Dh.F T
  have GN : FnOk P w K mg base CX0 3 fN fdN ["_law_d", "_law_moves", "_law_most"] (spNu K) := ok_numbers DN.F T
  refine F.ok scLaw (fun vs H Q E h => ?_) (fun cdv A outer s H vs Q E hr h => ?_)
  · obtain ⟨a, ns, rfl, _⟩ := h
    rfl
  · obtain ⟨a, ns, rfl, hS, hl, hTab, q⟩ := h
    have hu := hu64 hr
    have r2 : Room 2 _ := hr.mono (by decide)
    have r3 : Room 3 _ := hr.mono (by decide)
    have r4 : Room 4 _ := hr.mono (by decide)
    refine ⟨_, pss_cons (ps_set (i := 1) scLaw.nd rfl (.inl rfl) (pe_call GH r3 (by rfl) Dh.g Dh.F.kp Dh.b .nil pass0 (pa_cons (pe_call GD' r2 (by rfl) T.gD T.FD.kp T.bD .nil pass0 (pa_cons (pv 0) (pa_cons pe_int pa_nil))) (pa_cons pe_int pa_nil))))
      (pss_cons (ps_set (i := 2) scLaw.nd rfl (.inl rfl) (pe_call GD' r2 (by rfl) T.gD T.FD.kp T.bD .nil pass0 (pa_cons (pv 0) (pa_cons pe_int pa_nil))))
      (pss_cons (ps_set (i := 3) scLaw.nd rfl (.inl rfl) (pe_call GN r3 (by rfl) DN.g DN.F.kp DN.b .nil pass0 (pa_cons (pv 2) (pa_cons (pe_ix ix_tup (pv 1) pe_int (fun _ _ => rfl))
          (pa_cons (pe_ix ix_list (pe_lst (pa_cons pe_int (pa_cons pe_int pa_nil))) (pe_callTy call_int1 (by rfl) T.mi (by decide +kernel) (pa_cons (pe_cmpR op_eq (pe_call GO r2 (by rfl) T.gO T.FO.kp T.bO .nil pass0 (pa_cons (pv 2) (pa_cons pe_int pa_nil))) pe_int (nomark _)) pa_nil)) (fun _ _ => rfl)) pa_nil)))))
      (C8.pss_cut (ps_if (pt_cmpR op_eq (pe_call GO r2 (by rfl) T.gO T.FO.kp T.bO .nil pass0 (pa_cons (pv 2) (pa_cons pe_int pa_nil))) pe_int (nomark _))
          (C8.pss_cut (ps_set (i := 4) scLaw.nd rfl (.inl rfl) (pe_op op_add pe_int (pe_call GO r2 (by rfl) T.gO T.FO.kp T.bO .nil pass0 (pa_cons (pv 2) (pa_cons pe_int pa_nil)))))
          (pss_cons (ps_set (i := 1) scLaw.nd rfl (.inl rfl) (pe_tup (pa_cons (pv 4) (pa_cons (pe_lst (pa_cons (pe_tup (pa_cons pe_int (pa_cons (pe_tupRg rfl (by rfl) T.mt (prg_1 (by rfl) T.mr (pv 4))) pa_nil)))
              (pa_cons (pe_tup (pa_cons pe_int (pa_cons (pe_op op_repT (pe_tup (pa_cons (pe_call GO r2 (by rfl) T.gO T.FO.kp T.bO .nil pass0 (pa_cons (pv 2) (pa_cons (pv 4) pa_nil))) pa_nil)) (pv 4)) pa_nil))) pa_nil))) pa_nil))))
          (pss_one (ps_set (i := 3) scLaw.nd rfl (.inl rfl) (pe_op op_cat (pe_op op_cat (pe_op op_rep (pe_lst (pa_cons pe_int pa_nil)) (pe_call GO r2 (by rfl) T.gO T.FO.kp T.bO .nil pass0 (pa_cons (pv 2) (pa_cons pe_int pa_nil)))) (pe_lst (pa_cons pe_int pa_nil)))
              (pe_op op_rep (pe_lst (pa_cons pe_int pa_nil)) (pe_call GO r2 (by rfl) T.gO T.FO.kp T.bO .nil pass0 (pa_cons (pv 2) (pa_cons pe_int pa_nil))))))))) pss_nil)
      (pss_cons (ps_set (i := 5) scLaw.nd rfl (.inl rfl) (pe_callTy call_list_of (by rfl) mL (by decide +kernel) (pa_cons (pv 3) pa_nil)))
      (pss_cons (ps_set (i := 6) scLaw.nd rfl (.inl rfl) (pe_call GD r4 (by rfl) DD.g DD.F.kp DD.b .nil pass0 (pa_cons (pe_call GM r4 (by rfl) DM.g DM.F.kp DM.b .nil pass0 (pa_cons (pv 1) pa_nil)) (pa_cons (pv 5) pa_nil))))
      (pss_cons (ps_set (i := 7) scLaw.nd rfl (.inl rfl) (pe_call GL r2 (by rfl) DL.g DL.F.kp DL.b .nil pass0 (pa_cons (pv 1) (pa_cons (pv 3) pa_nil))))
      (pss_cons (ps_if (PW.pt (pw_or (pt_cmpR op_isN (pv 7) pe_non (nomark _)) (pw_or1 (pt_cmpR op_isN (pv 6) pe_non (nomark _)))))
          (pss_one (ps_ret (pe_and (pe_cmpR op_isN (pv 6) pe_non (nomark _)) (pe_and (pe_cmpR op_isN (pv 7) pe_non (nomark _)) (pe_one (pe_cmpR (op_eqD hu) (pv 5) (pv 3) (nomark _))))))) pss_nil)
      (pss_cons (ps_if (PW.pt (pw_or (pt_not (pt_val (pe_callB RZ.call_isTy (by rfl) mi (by decide +kernel) (pa_cons (pv 6) (pa_cons (pe_bltn (v := .ty "tuple") (by rfl) T.mt (by decide +kernel) rfl) pa_nil)))))
          (pw_or1 (pt_cmpR (op_neD hu) (pe_lc (own := [("_law_one", 8)]) (g := gName 8) (tt := tB (tCB (rIsi K) (tCons (tVar 8) (tCons (tC (.ty "bool")) tNil)))) (te := tVar 8) rfl scLaw.nd (pi_tup (pv 6)) (blkOk_by (N := nLaw) (sc := defScope sLaw) (by decide +kernel))
            (fun _ _ _ _ _ => pg_name (i := 8) scLaw.nd rfl (.inl rfl)) (fun _ _ _ _ _ => by exact (pts_one (pt_val (pe_callB call_isi (by rfl) mi (by decide +kernel) (pa_cons (pv 8) (pa_cons (pe_bltn (v := .ty "bool") (by rfl) mb (by decide +kernel) rfl) pa_nil)))))) (fun _ _ _ _ _ => pv 8)) (pe_lst pa_nil) (nomark _))))) (pss_one (ps_ret pe_bl)) pss_nil)
      (pss_one (ps_ret (pe_and (pe_cmpR (op_eqD hu) (pv 6) (pv 7) (nomark _)) (pe_one (pe_cmpR (op_eqD hu) (pv 5) (pv 3) (nomark _)))))))))))))), ?_⟩
    obtain ⟨ps, hP, htr⟩ := hTab
    -- told
    refine ⟨.ref a, rfl, a, ns, 0, rfl, hS, hl, by decide, fun H1 d1 s1 nd1 hD1 => ?_⟩
    refine ⟨d1, a, ns, 6, rfl, hD1, by decide, by decide, fun t m many ws ms H2 G _ hT hD2 g2 => ?_⟩
    have hP1 := s1 _ _ hP
    have hP2 := g2 _ _ (hD1.ne_of hP1 fun _ _ _ _ z => nomatch z) hP1
    -- the second dice
    refine ⟨.ref a, rfl, a, ns, 1, rfl, hD2.seq, hl, by decide, fun H3 d s3 nd hD3 => ?_⟩
    have hT3 := hT.same s3
    have hP3 := s3 _ _ hP2
    obtain ⟨ht3, hm3, hM3⟩ := id hT3
    have lenW := hM3.length
    have G1 := G.l1
    have G8 := G.l8
    have nmd : m ≠ d := hD3.ne_of hm3 (moves_no_dl hM3)
    -- numbers
    refine ⟨.ref d, rfl, .ref t, rfl, t, _, 1, _, rfl, rfl, SqT.of ht3, atI_nat (j := 1) rfl, (by show 2 ≤ sizeLine; decide), fun L nL => ?_⟩
    have hD4 := hD3.new (o := .lst [.int 40, .int 200]) nL
    have nLd : L ≠ d := hD3.ne nL
    refine ⟨.ref d, rfl, d, a, ns, _, rfl, hD4, by decide, by decide, fun r9 H5 hr9 hD5 o5 => ?_⟩
    have hL5 : H5 L = some (.lst [.int 40, .int 200]) := by rw [o5 L nLd]; exact upd_same
    have g35 : Gr d H3 H5 := ((Gr.refl d H3).new nL).off o5
    refine ⟨rfl, .inr ⟨_, rfl, ?_⟩⟩
    obtain ⟨most, hmost, hsel⟩ : ∃ most : Nat, most ≤ 200 ∧ atI ([.int 40, .int 200] : List V) (if decide (V.int ((r9 : Nat) : Int) = V.int 0) = true then (1 : Int) else 0) = some (.int ((most : Nat) : Int)) := by
      by_cases c : decide (V.int ((r9 : Nat) : Int) = V.int 0) = true
      · exact ⟨200, by decide, by rw [if_pos c]; rfl⟩
      · exact ⟨40, by decide, by rw [if_neg c]; rfl⟩
    refine ⟨L, _, _, _, rfl, rfl, SqL.of hL5, hsel, ?_⟩
    have hm5 := g35 m _ nmd hm3
    refine ⟨d, a, m, most, ns, ws, rfl, hD5, hm5, nmd, by omega, by omega, by omega, fun r zs H6 hD6 g6 nr nrd hr6 hzl hzin => ?_⟩
    have g36 := g35.trans g6
    have hP6 := g36 tM _ (hD3.ne_of hP3 fun _ _ _ _ z => nomatch z) hP3
    have nt3 : t ≠ d := hD3.ne_of ht3 fun _ _ _ _ z => nomatch z
    have hT6 : ToldAt H6 t m many ws ms := ⟨g36 t _ nt3 ht3, g36 m _ nmd hm3, hM3.same (g36.tups hD3)⟩
    have hN6 : NumsOk ms zs := ⟨by omega, fun n hn => by have := hzin n hn; omega⟩
    -- another chain, at times
    let Mid : L2.St → Hp → Prop := fun σ H' => ∃ (t m : Addr) (many : Nat) (ws : List V) (ms : List Mv) (r : Addr) (zs : List Int) (y4 : Option V), σ = [some (.ref a), some (.ref t), some (.ref d), some (.ref r), y4, none, none, none, none] ∧ ToldAt H' t m many ws ms ∧ Good many ms ∧ H' r = some (.lst (zs.map V.int)) ∧ NumsOk ms zs ∧ H' tM = some (.tbl ps)
    refine ⟨Mid, ?_, ?_⟩
    · refine ⟨.ref d, rfl, d, a, ns, _, rfl, hD6, by decide, by decide, fun r3' H7 hr3 hD7 o7 => ?_⟩
      have g67 : Gr d H6 H7 := (Gr.refl d H6).off o7
      have hT7 : ToldAt H7 t m many ws ms := ⟨g67 t _ nt3 hT6.1, g67 m _ nmd hT6.2.1, hT6.2.2.same (g67.tups hD6)⟩
      have hP7 := g67 tM _ (hD6.ne_of hP6 fun _ _ _ _ z => nomatch z) hP6
      have hr7 := g67 r _ nrd hr6
      refine ⟨rfl, _, rfl, ite2 (fun c => ?_) (fun c => ⟨t, m, many, ws, ms, r, zs, none, rfl, hT7, G, hr7, hN6, hP7⟩)⟩
      -- many
      refine ⟨fun (σ : L2.St) (H' : Hp) => ∃ mn : Nat, 2 ≤ mn ∧ mn ≤ 6 ∧ σ = [some (.ref a), some (.ref t), some (.ref d), some (.ref r), some (.int ((mn : Nat) : Int)), none, none, none, none] ∧ Dc K a ns H' d ∧ Gr d H7 H', ?_, ?_⟩
      · refine ⟨.ref d, rfl, d, a, ns, _, rfl, hD7, by decide, by decide, fun r5 H8 hr5 hD8 o8 => ⟨2, ((r5 : Nat) : Int), rfl, rfl, 2 + r5, by omega, by omega, ?_, hD8, (Gr.refl d H7).off o8⟩⟩
        have e : (2 : Int) + ((r5 : Nat) : Int) = ((2 + r5 : Nat) : Int) := by omega
        rw [← e]
        rfl
      rintro σ H8 ⟨mn, mn2, mn6, rfl, hD8, g8⟩
      refine ⟨.int ((mn : Nat) : Int), rfl, .int ((mn : Nat) : Int), rfl, _, rfl, RgOk.of_le (by omega) (by omega) (by omega) (by omega), fun q1 nq1 => ?_⟩
      rw [rg_ends]
      have hD9 := hD8.new (o := .tup (((List.range mn).map fun (i : Nat) => (i : Int)).map V.int)) nq1
      have g9 : Gr d H7 (upd H8 q1 (.tup (((List.range mn).map fun (i : Nat) => (i : Int)).map V.int))) := g8.new nq1
      have hq9 : (upd H8 q1 (.tup (((List.range mn).map fun (i : Nat) => (i : Int)).map V.int))) q1 = some (.tup (((List.range mn).map fun (i : Nat) => (i : Int)).map V.int)) := upd_same
      generalize upd H8 q1 (.tup (((List.range mn).map fun (i : Nat) => (i : Int)).map V.int)) = H9 at hD9 g9 hq9 ⊢
      refine ⟨(by show 2 ≤ sizeLine; decide), fun p1 np1 => ?_⟩
      have hDa := hD9.new (o := .tup [.int 1, .ref q1]) np1
      have ga := g9.new (o := .tup [.int 1, .ref q1]) np1
      have hqa := (same_new (o := .tup [.int 1, .ref q1]) np1) _ _ hq9
      have hpa : (upd H9 p1 (.tup [.int 1, .ref q1])) p1 = some (.tup [.int 1, .ref q1]) := upd_same
      generalize upd H9 p1 (.tup [.int 1, .ref q1]) = Ha at hDa ga hqa hpa ⊢
      refine ⟨.ref d, rfl, .int ((mn : Nat) : Int), rfl, d, a, ns, _, rfl, hDa, by omega, by omega, fun to Hb hto hDb ob => ?_⟩
      refine ⟨(by show 1 ≤ sizeLine; decide), fun q2 nq2 => ?_⟩
      have hDc := hDb.new (o := .tup [.int ((to : Nat) : Int)]) nq2
      have gc := (ga.off ob).new (o := .tup [.int ((to : Nat) : Int)]) nq2
      have gac : Gr d Ha (upd Hb q2 (.tup [.int ((to : Nat) : Int)])) := ((Gr.refl d Ha).off ob).new nq2
      have hpc := (gac.tups hDa) _ _ hpa
      have hqc := (gac.tups hDa) _ _ hqa
      have hq2c : (upd Hb q2 (.tup [.int ((to : Nat) : Int)])) q2 = some (.tup [.int ((to : Nat) : Int)]) := upd_same
      generalize upd Hb q2 (.tup [.int ((to : Nat) : Int)]) = Hc at hDc gc hpc hqc hq2c ⊢
      refine ⟨.int ((mn : Nat) : Int), rfl, q2, _, _, rfl, rfl, SqT.of hq2c, (fun z => nomatch z), by omega, by omega, (by show 1 ≤ 1000; decide), fun q3 nq3 => ?_⟩
      have en : (((mn : Nat) : Int)).toNat = mn := by omega
      rw [en, flat_rep]
      have e3 : List.replicate mn (V.int ((to : Nat) : Int)) = (List.replicate mn ((to : Nat) : Int)).map V.int := (List.map_replicate ..).symm
      rw [e3]
      have s3' := same_new (o := .tup ((List.replicate mn ((to : Nat) : Int)).map V.int)) nq3
      have hDd := hDc.same s3'
      have gd := gc.new (o := .tup ((List.replicate mn ((to : Nat) : Int)).map V.int)) nq3
      have hpd := s3' _ _ hpc
      have hqd := s3' _ _ hqc
      have hq3d : (upd Hc q3 (.tup ((List.replicate mn ((to : Nat) : Int)).map V.int))) q3 = some (.tup ((List.replicate mn ((to : Nat) : Int)).map V.int)) := upd_same
      generalize upd Hc q3 (.tup ((List.replicate mn ((to : Nat) : Int)).map V.int)) = Hd at s3' hDd gd hpd hqd hq3d ⊢
      refine ⟨(by show 2 ≤ sizeLine; decide), fun p2 np2 => ?_⟩
      refine ⟨(by show 2 ≤ sizeLine; decide), fun m2 nm2 => ?_⟩
      refine ⟨(by show 2 ≤ sizeLine; decide), fun t2 nt2 => ?_⟩
      have sA := same_new (o := .tup [.int 2, .ref q3]) np2
      have sB := same_new (o := .lst [.ref p1, .ref p2]) nm2
      have sC := same_new (o := .tup [.int ((mn : Nat) : Int), .ref m2]) nt2
      have sAC := (sA.trans sB).trans sC
      have hp2e := (sB.trans sC) _ _ (upd_same : (upd Hd p2 (.tup [.int 2, .ref q3])) p2 = _)
      have hm2e := sC _ _ (upd_same : (upd (upd Hd p2 (.tup [.int 2, .ref q3])) m2 (.lst [.ref p1, .ref p2])) m2 = _)
      have ht2e : (upd (upd (upd Hd p2 (.tup [.int 2, .ref q3])) m2 (.lst [.ref p1, .ref p2])) t2 (.tup [.int ((mn : Nat) : Int), .ref m2])) t2 = some (.tup [.int ((mn : Nat) : Int), .ref m2]) := upd_same
      have hDe := hDd.same sAC
      have ge := ((gd.new (o := .tup [.int 2, .ref q3]) np2).new (o := .lst [.ref p1, .ref p2]) nm2).new (o := .tup [.int ((mn : Nat) : Int), .ref m2]) nt2
      have hpe := sAC _ _ hpd
      have hqe := sAC _ _ hqd
      have hq3e := sAC _ _ hq3d
      generalize upd (upd (upd Hd p2 (.tup [.int 2, .ref q3])) m2 (.lst [.ref p1, .ref p2])) t2 (.tup [.int ((mn : Nat) : Int), .ref m2]) = He at sAC hp2e hm2e ht2e hDe ge hpe hqe hq3e ⊢
      have hTe : ToldAt He t2 m2 mn [.ref p1, .ref p2] [(1, (List.range mn).map fun (i : Nat) => (i : Int)), (2, List.replicate mn ((to : Nat) : Int))] := ⟨ht2e, hm2e, .cons ⟨p1, q1, rfl, hpe, hqe⟩ (.cons ⟨p2, q3, rfl, hp2e, hq3e⟩ .nil)⟩
      have Ge : Good mn [(1, (List.range mn).map fun (i : Nat) => (i : Int)), (2, List.replicate mn ((to : Nat) : Int))] := by
        refine ⟨by omega, by omega, (by show 1 ≤ 2; decide), (by show 2 ≤ 8; decide), fun mv hmv => ?_⟩
        rcases List.mem_cons.mp hmv with e | e
        · rw [e]
          exact ⟨(by show (1 : Int) ≤ 1; decide), (by show (1 : Int) ≤ 99; decide), range_good mn⟩
        · have e2 : mv = (2, List.replicate mn ((to : Nat) : Int)) := by simpa using e
          rw [e2]
          refine ⟨(by show (1 : Int) ≤ 2; decide), (by show (2 : Int) ≤ 99; decide), List.length_replicate, fun x hx => ?_⟩
          have hx : x ∈ List.replicate mn ((to : Nat) : Int) := hx
          rw [List.eq_of_mem_replicate hx]
          omega
      have hPe := ge tM _ (hD7.ne_of hP7 fun _ _ _ _ z => nomatch z) hP7
      -- numbers
      refine ⟨(by show 1 ≤ sizeLine; decide), fun z1 nz1 => ?_⟩
      have d1' := hDe.new (o := .lst [.int 0]) nz1
      have nz1d : z1 ≠ d := hDe.ne nz1
      have hz1 : (upd He z1 (.lst [.int 0])) z1 = some (.lst [.int 0]) := upd_same
      have g1' : Gr d He (upd He z1 (.lst [.int 0])) := (Gr.refl d He).new nz1
      generalize upd He z1 (.lst [.int 0]) = Hf at d1' hz1 g1' ⊢
      refine ⟨.ref d, rfl, d, a, ns, _, rfl, d1', by decide, by decide, fun x70 Hg hx70 hDg og => ?_⟩
      have hz1g : Hg z1 = some (.lst [.int 0]) := by rw [og z1 nz1d]; exact hz1
      have gg := g1'.off og
      refine ⟨z1, ((x70 : Nat) : Int), [.int 0], rfl, rfl, hz1g, by omega, by omega, ?_, fun y1 ny1 => ?_⟩
      · show 1 * (((x70 : Nat) : Int)).toNat ≤ sizeLine
        exact Nat.le_of_lt (small900 (by omega))
      rw [Int.toNat_natCast, flat_rep]
      have dh := hDg.new (o := .lst (List.replicate x70 (V.int 0))) ny1
      have ny1d : y1 ≠ d := hDg.ne ny1
      have hy1 : (upd Hg y1 (.lst (List.replicate x70 (V.int 0)))) y1 = some (.lst (List.replicate x70 (V.int 0))) := upd_same
      have gh := gg.new (o := .lst (List.replicate x70 (V.int 0))) ny1
      generalize upd Hg y1 (.lst (List.replicate x70 (V.int 0))) = Hh at dh hy1 gh ⊢
      refine ⟨(by show 1 ≤ sizeLine; decide), fun z2 nz2 => ?_⟩
      have di := dh.new (o := .lst [.int 1]) nz2
      have hz2 : (upd Hh z2 (.lst [.int 1])) z2 = some (.lst [.int 1]) := upd_same
      have hy1i := (same_new (o := .lst [.int 1]) nz2) _ _ hy1
      have gi := gh.new (o := .lst [.int 1]) nz2
      generalize upd Hh z2 (.lst [.int 1]) = Hi at di hz2 hy1i gi ⊢
      refine ⟨y1, z2, _, _, rfl, rfl, hy1i, hz2, ?_, fun w1 nw1 => ?_⟩
      · rw [List.length_replicate]
        exact Nat.le_of_lt (small900 (by show x70 + 1 ≤ 900; omega))
      have dj := di.new (o := .lst (List.replicate x70 (V.int 0) ++ [.int 1])) nw1
      have nw1d : w1 ≠ d := di.ne nw1
      have hw1 : (upd Hi w1 (.lst (List.replicate x70 (V.int 0) ++ [.int 1]))) w1 = some (.lst (List.replicate x70 (V.int 0) ++ [.int 1])) := upd_same
      have gj := gi.new (o := .lst (List.replicate x70 (V.int 0) ++ [.int 1])) nw1
      generalize upd Hi w1 (.lst (List.replicate x70 (V.int 0) ++ [.int 1])) = Hj at dj hw1 gj ⊢
      refine ⟨(by show 1 ≤ sizeLine; decide), fun z3 nz3 => ?_⟩
      have dk := dj.new (o := .lst [.int 0]) nz3
      have nz3d : z3 ≠ d := dj.ne nz3
      have hz3 : (upd Hj z3 (.lst [.int 0])) z3 = some (.lst [.int 0]) := upd_same
      have hw1k := (same_new (o := .lst [.int 0]) nz3) _ _ hw1
      have gk := gj.new (o := .lst [.int 0]) nz3
      generalize upd Hj z3 (.lst [.int 0]) = Hk at dk hz3 hw1k gk ⊢
      refine ⟨.ref d, rfl, d, a, ns, _, rfl, dk, by decide, by decide, fun x2 Hl hx2 hDl ol => ?_⟩
      have hz3l : Hl z3 = some (.lst [.int 0]) := by rw [ol z3 nz3d]; exact hz3
      have hw1l : Hl w1 = some (.lst (List.replicate x70 (V.int 0) ++ [.int 1])) := by rw [ol w1 nw1d]; exact hw1k
      have gl := gk.off ol
      refine ⟨z3, ((x2 : Nat) : Int), [.int 0], rfl, rfl, hz3l, by omega, by omega, ?_, fun y2 ny2 => ?_⟩
      · show 1 * (((x2 : Nat) : Int)).toNat ≤ sizeLine
        exact Nat.le_of_lt (small900 (by omega))
      rw [Int.toNat_natCast, flat_rep]
      have dm := hDl.new (o := .lst (List.replicate x2 (V.int 0))) ny2
      have hy2 : (upd Hl y2 (.lst (List.replicate x2 (V.int 0)))) y2 = some (.lst (List.replicate x2 (V.int 0))) := upd_same
      have hw1m := (same_new (o := .lst (List.replicate x2 (V.int 0))) ny2) _ _ hw1l
      have gm := gl.new (o := .lst (List.replicate x2 (V.int 0))) ny2
      generalize upd Hl y2 (.lst (List.replicate x2 (V.int 0))) = Hm at dm hy2 hw1m gm ⊢
      refine ⟨w1, y2, _, _, rfl, rfl, hw1m, hy2, ?_, fun w2 nw2 => ?_⟩
      · rw [List.length_append, List.length_replicate, List.length_replicate]
        exact Nat.le_of_lt (small900 (by show x70 + 1 + x2 ≤ 900; omega))
      have gn := gm.new (o := .lst (List.replicate x70 (V.int 0) ++ [.int 1] ++ List.replicate x2 (V.int 0))) nw2
      have ez : (List.replicate x70 (V.int 0) ++ [.int 1] ++ List.replicate x2 (V.int 0)) = (List.replicate x70 (0 : Int) ++ [1] ++ List.replicate x2 0).map V.int := by
        rw [List.map_append, List.map_append, List.map_replicate, List.map_replicate]
        rfl
      refine ⟨t2, m2, mn, [.ref p1, .ref p2], _, w2, List.replicate x70 (0 : Int) ++ [1] ++ List.replicate x2 0, some (.int ((mn : Nat) : Int)), rfl, ⟨gn t2 _ (hDe.ne_of ht2e fun _ _ _ _ z => nomatch z) ht2e, gn m2 _ (hDe.ne_of hm2e fun _ _ _ _ z => by cases z) hm2e, hTe.2.2.same (gn.tups hDe)⟩, Ge, by rw [← ez]; exact upd_same, ⟨?_, fun n hn => ?_⟩, gn tM _ (hDe.ne_of hPe fun _ _ _ _ z => nomatch z) hPe⟩
      · rw [List.length_append, List.length_append, List.length_replicate, List.length_replicate]
        show x70 + 1 + x2 ≤ 1000
        omega
      · have h01 : n = 0 ∨ n = 1 := by
          rcases List.mem_append.mp hn with hn | hn
          · rcases List.mem_append.mp hn with hn | hn
            · exact .inl (List.eq_of_mem_replicate hn)
            · exact .inr (by simpa using hn)
          · exact .inl (List.eq_of_mem_replicate hn)
        show 0 ≤ n ∧ n < (2 : Int)
        omega
    · rintro σ H8 ⟨t, m, many, ws, ms, r, zs, y4, rfl, hT8, G, hr8, hN8, hP8⟩
      -- handed
      refine ⟨.ref r, rfl, r, _, rfl, .inl (SqL.of hr8), fun h8 nh8 => ?_⟩
      have s9 : Same H8 (upd H8 h8 (.lst (zs.map V.int))) := same_new nh8
      have hh9 : (upd H8 h8 (.lst (zs.map V.int))) h8 = some (.lst (zs.map V.int)) := upd_same
      have hT9 := hT8.same s9
      have hr9' := s9 _ _ hr8
      have hP9 := s9 _ _ hP8
      generalize upd H8 h8 (.lst (zs.map V.int)) = H9 at s9 hh9 hT9 hr9' hP9 ⊢
      -- found
      refine ⟨.ref t, rfl, t, m, many, ws, ms, rfl, hT9, G, ⟨ps, hP9, htr⟩, fun H10 x hC nx g10 hT10' => ?_⟩
      have neP : ∀ {p o}, H9 p = some o → (∀ qs, o ≠ .tbl qs) → p ≠ tM := fun e n z => by
        rw [z, hP9] at e
        exact n _ (Option.some.inj e).symm
      have hh10 := g10 h8 _ (neP hh9 fun _ z => nomatch z) hh9
      have hr10 := g10 r _ (neP hr9' fun _ z => nomatch z) hr9'
      have hT10 : ToldAt H10 t m many ws ms := ⟨g10 t _ (neP hT9.1 fun _ z => nomatch z) hT9.1, g10 m _ (neP hT9.2.1 fun _ z => nomatch z) hT9.2.1, hT9.2.2.same fun b xs e => g10 b _ (neP e fun _ z => nomatch z) e⟩
      refine ⟨.ref h8, rfl, x, h8, many, ms, zs, rfl, hC, G, hh10, hN8, fun v1 H11 s11 hd1 => ?_⟩
      -- due
      refine ⟨.ref t, rfl, .ref r, rfl, t, m, r, many, ws, ms, zs, rfl, hT10.same s11, G, s11 _ _ hr10, hN8, fun v2 H12 s12 hd2 => ?_⟩
      have hh12 := s12 _ _ (s11 _ _ hh10)
      have hr12 := s12 _ _ (s11 _ _ hr10)
      rcases hd1 with ⟨k1, t1, f1, rfl, e1⟩ | ⟨f1, rfl⟩
      · rcases hd2 with ⟨k2, t2, f2, rfl, e2⟩ | ⟨f2, rfl⟩
        · have ek := first_one f1 f2
          subst ek
          have e1' := s12 _ _ e1
          refine ⟨.ref t2, rfl, rfl, _, rfl, ?_⟩
          refine iteF ⟨.ref t1, rfl, rfl, _, rfl, iteF ?_⟩
          refine ⟨.ref t1, rfl, .ref t1, "tuple", rfl, .tup e1', true, rfl, ?_⟩
          refine ⟨.ref t1, rfl, t1, rfl, ⟨_, SqT.of e1'⟩, fun D nD => ?_⟩
          refine lc_tup (K := K) (a := t1) (xs := [.int (goK (endsK many (rowsOf ms zs) k1) 0), .int (k1 : Int)]) (fun i H' => Same H12 H' ∧ H' D = some (.lst [])) ⟨same_new nD, upd_same⟩ (fun i H' _ h => SqT.of (h.1 _ _ e1')) ?_ ?_
          · rintro i u H13 hu' ⟨s13, hD13⟩
            obtain ⟨z, rfl⟩ : ∃ z, u = V.int z := by
              match i, hu' with
              | 0, e => exact ⟨_, (Option.some.inj e).symm⟩
              | 1, e => exact ⟨_, (Option.some.inj e).symm⟩
              | i + 2, e => simp at e
            refine ⟨rfl, .int z, rfl, .int z, .ty "bool", .type "int", .type "bool", false, rfl, .ty _, .base (.int z), kit_ib K, false, rfl, ?_⟩
            exact ⟨s13, hD13⟩
          · rintro H13 ⟨s13, hD13⟩
            refine ⟨Nat.zero_le _, fun e ne => ?_⟩
            have s14 : Same H13 (upd H13 e (.lst [])) := same_new ne
            have s1214 := s13.trans s14
            refine ⟨.list [], .list [], .lst (SqL.of (s14 _ _ hD13)) .nil, .lst (SqL.of upd_same) .nil, rfl, rfl, _, rfl, ?_⟩
            refine ⟨.ref t1, rfl, .ref t2, rfl, _, _, dp_pair (s1214 _ _ e1'), dp_pair (s1214 _ _ e2), rfl, rfl, ?_⟩
            rw [eqv_pair]
            refine ⟨true, rfl, ?_⟩
            refine ⟨.ref h8, rfl, .ref r, rfl, _, _, dp_lst (s1214 _ _ hh12), dp_lst (s1214 _ _ hr12), shaped_is _, shaped_is _, ?_⟩
            rw [eqv_lst]
            exact q _
        · exact (one_none f1 f2).elim
      · rcases hd2 with ⟨k2, t2, f2, rfl, e2⟩ | ⟨f2, rfl⟩
        · exact (one_none f2 f1).elim
        · refine ⟨.non, rfl, rfl, _, rfl, iteT ?_⟩
          refine ⟨.non, rfl, rfl, true, rfl, .non, rfl, rfl, true, rfl, ?_⟩
          refine ⟨.ref h8, rfl, .ref r, rfl, _, _, dp_lst hh12, dp_lst hr12, shaped_is _, shaped_is _, ?_⟩
          rw [eqv_lst]
          exact q _
end
/-! ### the end: the table of the generator's def -/
def TabOf (nm : Str) (mg : Str → Option Value) (h : Heap) : Prop := ∃ (a' : Addr) (o' : Obj) (fd' : FuncData) (c' P' : Addr) (oc : Obj) (vc : Array Value), mg nm = some (.ref a') ∧ h.get? a' = some o' ∧ o'.data = .func fd' ∧ fd'.code = .ref c' ∧
  h.get? c' = some oc ∧ oc.data = .fields vc ∧ vc[11]? = some (.ref P') ∧ h.get? P' = some { cls := .none, data := .fields #[] }
theorem walk_tab {l : PySem.W.OpenLaw} {n k : Nat} {q : Program} {loose : List Str} {XP : (Str → Option Value) → Heap → Prop} {YP : World → Heap → Prop} {d : DefRec} {K : Params → PySem.W.Frag} {CX : World → CXT} {x : Str} (nm : Str)
    (hn : l.most = some n) (hn2 : n ≤ sizeLine) (hdf : d.params.defaults = []) (hr : Room k callerA) (hrec : ((recsOf q).any fun e => e.name == nm) = true) (hY : ∀ (w : World) (h : Heap), YP w h → (K w.params).In h)
    (F : ∀ (w : World) (mg : Str → Option Value) (fa : Addr) (h : Heap), (K w.params).In h → h.Ns mainGlobals mg → mg d.name = some (.ref fa) → TabOf nm mg h → LamX.LawAtS l w (K w.params) (CX w) k n x mg fa h)
    (hCX : ∀ (w : World) (H : Hp) (s : Shared) (e : Value) (s' : Shared), CX w [] H s (fun _ _ _ => False) e s' → False) :
    PySem.W.WalkO q loose XP YP l.row.toRowW d [] (fun f vs => PySem.call f vs) := by
  refine Att.attach_callB hn hdf fun w s₀ s₁ mg mb fa o pm cd doc a vs ns G Y ho hd hcd hmg hobj hints hlen hbits hg => ?_
  obtain ⟨dL, m1, m2⟩ := List.any_eq_true.mp hrec
  obtain ⟨a', o', fd', c', P', g1, g2, g3, g4, _, ⟨oc, vc, e1, e2, e3, e4⟩, e5⟩ := G.T.tab dL m1
  rw [beq_iff_eq.mp m2] at g1
  have TO : TabOf nm mg s₁.heap := ⟨a', o', fd', c', P', oc, vc, g1, g2, g3, g4, e1, e3, e4, e5⟩
  obtain ⟨fd, cs, sp, hT, nT, Cd, hb, hsp, hF⟩ := F w mg fa _ (hY w _ Y) G.T.g hmg TO
  exact LamX.law_callTs (hY w _ Y) G.T.g G.T.b G.T.builtins G.T.nolimit hg hT nT Cd G.T.bmain hobj hints (Nat.le_trans hlen hn2) hr hF hb (fun H hH hS => hsp H a ns hlen hbits hH hS) fun H e s' => hCX w H s₁ e s'
/-! ### what the top has written -/
set_option maxHeartbeats 0 in
theorem all_mk {l : PySem.W.OpenLaw} {w : World} {K : PySem.W.Frag} {h : Heap} {mg : Str → Option Value} {fa : Addr} (X : K.In h) (G : h.Ns mainGlobals mg) (hfa : mg "law" = some (.ref fa)) (TO : TabOf "_is_move" mg h)
    {f0 : Addr} {od0 an0 : Option Addr} {sl0 : Array (Option Value)} {oc0 kV0 dc0 pm0 ct0 : Value}
    {f1 : Addr} {od1 an1 : Option Addr} {sl1 : Array (Option Value)} {oc1 kV1 dc1 pm1 cd1 ct1 : Value}
    {f2 : Addr} {od2 an2 : Option Addr} {sl2 : Array (Option Value)} {oc2 kV2 dc2 pm2 cd2 ct2 : Value}
    {f3 : Addr} {od3 an3 : Option Addr} {sl3 : Array (Option Value)} {oc3 kV3 dc3 pm3 cd3 ct3 : Value}
    {f4 : Addr} {od4 an4 : Option Addr} {sl4 : Array (Option Value)} {oc4 kV4 dc4 pm4 cd4 ct4 : Value}
    {f5 : Addr} {od5 an5 : Option Addr} {sl5 : Array (Option Value)} {oc5 kV5 dc5 pm5 cd5 ct5 : Value}
    {f6 : Addr} {od6 an6 : Option Addr} {sl6 : Array (Option Value)} {oc6 kV6 dc6 pm6 cd6 ct6 : Value}
    {f7 : Addr} {od7 an7 : Option Addr} {sl7 : Array (Option Value)} {oc7 kV7 dc7 pm7 cd7 ct7 : Value}
    {f8 : Addr} {od8 an8 : Option Addr} {sl8 : Array (Option Value)} {oc8 kV8 dc8 pm8 cd8 ct8 : Value}
    {f9 : Addr} {od9 an9 : Option Addr} {sl9 : Array (Option Value)} {oc9 kV9 dc9 pm9 cd9 ct9 : Value}
    {f10 : Addr} {od10 an10 : Option Addr} {sl10 : Array (Option Value)} {oc10 kV10 dc10 pm10 cd10 ct10 : Value}
    {f11 : Addr} {od11 an11 : Option Addr} {sl11 : Array (Option Value)} {oc11 kV11 dc11 pm11 cd11 ct11 : Value}
    {f12 : Addr} {od12 an12 : Option Addr} {sl12 : Array (Option Value)} {oc12 kV12 dc12 pm12 cd12 ct12 : Value}
    {f13 : Addr} {od13 an13 : Option Addr} {sl13 : Array (Option Value)} {oc13 kV13 dc13 pm13 cd13 ct13 : Value}
    {fm0 : Addr} {odm0 anm0 : Option Addr} {slm0 : Array (Option Value)} {ocm0 kVm0 dcm0 pmm0 cdm0 ctm0 : Value}
    {fm1 : Addr} {odm1 anm1 : Option Addr} {slm1 : Array (Option Value)} {ocm1 kVm1 dcm1 pmm1 cdm1 ctm1 : Value}
    {fm2 : Addr} {odm2 anm2 : Option Addr} {slm2 : Array (Option Value)} {ocm2 kVm2 dcm2 pmm2 cdm2 ctm2 : Value}
    {tMOST_PLACES : Tok}
    {tMOST_MOVES : Tok}
    {tMOST_WEIGHT : Tok}
    {C cM tM : Addr} {eM : Value} {ddM : Option Addr} {vsM : Array Value} {slM : Array (Option Value)}
    (aC : PySem.W.nsIn K mainGlobals "Chain" = some (some (.ref C)))
    (a0 : PySem.W.nsIn K mainGlobals "_is_move" = some (some (.ref f0))) (l0 : K.lookup f0 = some ⟨oc0, od0, .func (PySem.W.fnOf "_is_move" "_is_move" (defArgs sIsMove) (defBody sIsMove) (defScope sIsMove) .none kV0 dc0 pm0 an0 (.ref cM) ct0), sl0⟩) (c0 : PySem.W.codeIn K (.ref cM) "_is_move" = true) (k0 : PySem.W.keepIn K (.ref f0) = true)
    (a1 : PySem.W.nsIn K mainGlobals "_law_cell" = some (some (.ref f1))) (l1 : K.lookup f1 = some ⟨oc1, od1, .func (PySem.W.fnOf "_law_cell" "_law_cell" (defArgs sCell) (defBody sCell) (defScope sCell) .none kV1 dc1 pm1 an1 cd1 ct1), sl1⟩) (c1 : PySem.W.codeIn K cd1 "_law_cell" = true) (k1 : PySem.W.keepIn K (.ref f1) = true)
    (a2 : PySem.W.nsIn K mainGlobals "_law_dice" = some (some (.ref f2))) (l2 : K.lookup f2 = some ⟨oc2, od2, .func (PySem.W.fnOf "_law_dice" "_law_dice" (defArgs sDice) (defBody sDice) (defScope sDice) .none kV2 dc2 pm2 an2 cd2 ct2), sl2⟩) (c2 : PySem.W.codeIn K cd2 "_law_dice" = true) (k2 : PySem.W.keepIn K (.ref f2) = true)
    (a3 : PySem.W.nsIn K mainGlobals "_law_off" = some (some (.ref f3))) (l3 : K.lookup f3 = some ⟨oc3, od3, .func (PySem.W.fnOf "_law_off" "_law_off" (defArgs sOff) (defBody sOff) (defScope sOff) .none kV3 dc3 pm3 an3 cd3 ct3), sl3⟩) (c3 : PySem.W.codeIn K cd3 "_law_off" = true) (k3 : PySem.W.keepIn K (.ref f3) = true)
    (a4 : PySem.W.nsIn K mainGlobals "_law_chain" = some (some (.ref f4))) (l4 : K.lookup f4 = some ⟨oc4, od4, .func (PySem.W.fnOf "_law_chain" "_law_chain" (defArgs sChain) (defBody sChain) (defScope sChain) .none kV4 dc4 pm4 an4 cd4 ct4), sl4⟩) (c4 : PySem.W.codeIn K cd4 "_law_chain" = true) (k4 : PySem.W.keepIn K (.ref f4) = true)
    (a5 : PySem.W.nsIn K mainGlobals "_law_made" = some (some (.ref f5))) (l5 : K.lookup f5 = some ⟨oc5, od5, .func (PySem.W.fnOf "_law_made" "_law_made" (defArgs sMade) (defBody sMade) (defScope sMade) .none kV5 dc5 pm5 an5 cd5 ct5), sl5⟩) (c5 : PySem.W.codeIn K cd5 "_law_made" = true) (k5 : PySem.W.keepIn K (.ref f5) = true)
    (a6 : PySem.W.nsIn K mainGlobals "_law_numbers" = some (some (.ref f6))) (l6 : K.lookup f6 = some ⟨oc6, od6, .func (PySem.W.fnOf "_law_numbers" "_law_numbers" (defArgs sNumbers) (defBody sNumbers) (defScope sNumbers) .none kV6 dc6 pm6 an6 cd6 ct6), sl6⟩) (c6 : PySem.W.codeIn K cd6 "_law_numbers" = true) (k6 : PySem.W.keepIn K (.ref f6) = true)
    (a7 : PySem.W.nsIn K mainGlobals "steps_of" = some (some (.ref f7))) (l7 : K.lookup f7 = some ⟨oc7, od7, .func (PySem.W.fnOf "steps_of" "steps_of" (defArgs sStepsOf) (defBody sStepsOf) (defScope sStepsOf) .none kV7 dc7 pm7 an7 cd7 ct7), sl7⟩) (c7 : PySem.W.codeIn K cd7 "steps_of" = true) (k7 : PySem.W.keepIn K (.ref f7) = true)
    (a8 : PySem.W.nsIn K mainGlobals "drawn" = some (some (.ref f8))) (l8 : K.lookup f8 = some ⟨oc8, od8, .func (PySem.W.fnOf "drawn" "drawn" (defArgs sDrawn) (defBody sDrawn) (defScope sDrawn) .none kV8 dc8 pm8 an8 cd8 ct8), sl8⟩) (c8 : PySem.W.codeIn K cd8 "drawn" = true) (k8 : PySem.W.keepIn K (.ref f8) = true)
    (a9 : PySem.W.nsIn K mainGlobals "drawn_from" = some (some (.ref f9))) (l9 : K.lookup f9 = some ⟨oc9, od9, .func (PySem.W.fnOf "drawn_from" "drawn_from" (defArgs sDrawnFrom) (defBody sDrawnFrom) (defScope sDrawnFrom) .none kV9 dc9 pm9 an9 cd9 ct9), sl9⟩) (c9 : PySem.W.codeIn K cd9 "drawn_from" = true) (k9 : PySem.W.keepIn K (.ref f9) = true)
    (a10 : PySem.W.nsIn K mainGlobals "_are_one" = some (some (.ref f10))) (l10 : K.lookup f10 = some ⟨oc10, od10, .func (PySem.W.fnOf "_are_one" "_are_one" (defArgs sAreOne) (defBody sAreOne) (defScope sAreOne) .none kV10 dc10 pm10 an10 cd10 ct10), sl10⟩) (c10 : PySem.W.codeIn K cd10 "_are_one" = true) (k10 : PySem.W.keepIn K (.ref f10) = true)
    (a11 : PySem.W.nsIn K mainGlobals "_law_ends" = some (some (.ref f11))) (l11 : K.lookup f11 = some ⟨oc11, od11, .func (PySem.W.fnOf "_law_ends" "_law_ends" (defArgs sLawEnds) (defBody sLawEnds) (defScope sLawEnds) .none kV11 dc11 pm11 an11 cd11 ct11), sl11⟩) (c11 : PySem.W.codeIn K cd11 "_law_ends" = true) (k11 : PySem.W.keepIn K (.ref f11) = true)
    (a12 : PySem.W.nsIn K mainGlobals "_law_drawn" = some (some (.ref f12))) (l12 : K.lookup f12 = some ⟨oc12, od12, .func (PySem.W.fnOf "_law_drawn" "_law_drawn" (defArgs sLawDrawn) (defBody sLawDrawn) (defScope sLawDrawn) .none kV12 dc12 pm12 an12 cd12 ct12), sl12⟩) (c12 : PySem.W.codeIn K cd12 "_law_drawn" = true) (k12 : PySem.W.keepIn K (.ref f12) = true)
    (a13 : PySem.W.nsIn K mainGlobals "law" = some (some (.ref f13))) (l13 : K.lookup f13 = some ⟨oc13, od13, .func (PySem.W.fnOf "law" "law" (defArgs sLaw) (defBody sLaw) (defScope sLaw) .none kV13 dc13 pm13 an13 cd13 ct13), sl13⟩) (c13 : PySem.W.codeIn K cd13 "law" = true) (k13 : PySem.W.keepIn K (.ref f13) = true)
    (am0 : PySem.W.findIn K (.ref C) "__init__" = some (some (.ref fm0))) (im0 : PySem.W.isFn K (.ref fm0) = true) (lm0 : K.lookup fm0 = some ⟨ocm0, odm0, .func (PySem.W.fnOf "__init__" "Chain.__init__" (defArgs (inClass cChain 0)) (defBody (inClass cChain 0)) (defScope (inClass cChain 0)) .none kVm0 dcm0 pmm0 anm0 cdm0 ctm0), slm0⟩) (cm0 : PySem.W.codeIn K cdm0 "Chain.__init__" = true) (km0 : PySem.W.keepIn K (.ref fm0) = true)
    (am1 : PySem.W.findIn K (.ref C) "places" = some (some (.ref fm1))) (im1 : PySem.W.isFn K (.ref fm1) = true) (lm1 : K.lookup fm1 = some ⟨ocm1, odm1, .func (PySem.W.fnOf "places" "Chain.places" (defArgs (inClass cChain 1)) (defBody (inClass cChain 1)) (defScope (inClass cChain 1)) .none kVm1 dcm1 pmm1 anm1 cdm1 ctm1), slm1⟩) (cm1 : PySem.W.codeIn K cdm1 "Chain.places" = true) (km1 : PySem.W.keepIn K (.ref fm1) = true)
    (am2 : PySem.W.findIn K (.ref C) "told" = some (some (.ref fm2))) (im2 : PySem.W.isFn K (.ref fm2) = true) (lm2 : K.lookup fm2 = some ⟨ocm2, odm2, .func (PySem.W.fnOf "told" "Chain.told" (defArgs (inClass cChain 2)) (defBody (inClass cChain 2)) (defScope (inClass cChain 2)) .none kVm2 dcm2 pmm2 anm2 cdm2 ctm2), slm2⟩) (cm2 : PySem.W.codeIn K cdm2 "Chain.told" = true) (km2 : PySem.W.keepIn K (.ref fm2) = true)
    (pg : PySem.W.plainGet K C Str.empty = true) (hd : PySem.W.hasDictIn K C = true) (po : PySem.W.plainOver K C = true) (sa : PySem.W.findIn K (.ref C) "__setattr__" = some (some (.builtin "object.__setattr__"))) (mk : PySem.W.makesIn K C = true) (kc : PySem.W.keepIn K (.ref C) = true) (nM : PySem.W.findIn K (.ref C) "_many" = some none) (nV : PySem.W.findIn K (.ref C) "_moves" = some none)
    (gMOST_PLACES : PySem.W.nsIn K mainGlobals "MOST_PLACES" = some (some (.int 6 tMOST_PLACES)))
    (gMOST_MOVES : PySem.W.nsIn K mainGlobals "MOST_MOVES" = some (some (.int 8 tMOST_MOVES)))
    (gMOST_WEIGHT : PySem.W.nsIn K mainGlobals "MOST_WEIGHT" = some (some (.int 99 tMOST_WEIGHT)))
    (zlen : PySem.W.nsIn K mainGlobals "len" = some none)
    (zabs : PySem.W.nsIn K mainGlobals "abs" = some none)
    (zmax : PySem.W.nsIn K mainGlobals "max" = some none)
    (zmin : PySem.W.nsIn K mainGlobals "min" = some none)
    (zint : PySem.W.nsIn K mainGlobals "int" = some none)
    (zrange : PySem.W.nsIn K mainGlobals "range" = some none)
    (zsorted : PySem.W.nsIn K mainGlobals "sorted" = some none)
    (ztuple : PySem.W.nsIn K mainGlobals "tuple" = some none)
    (zisinstance : PySem.W.nsIn K mainGlobals "isinstance" = some none)
    (zall : PySem.W.nsIn K mainGlobals "all" = some none)
    (zenumerate : PySem.W.nsIn K mainGlobals "enumerate" = some none)
    (zlist : PySem.W.nsIn K mainGlobals "list" = some none)
    (zbool : PySem.W.nsIn K mainGlobals "bool" = some none)
    (zset : PySem.W.nsIn K mainGlobals "set" = some none)
    (zreversed : PySem.W.nsIn K mainGlobals "reversed" = some none)
    (lM : K.lookup cM = some ⟨eM, ddM, .fields vsM, slM⟩) (vM : vsM[11]? = some (.ref tM)) (hM : PySem.W.codeHdIn K cM tM = true) (nT : K.lookup tM = none) :
    LamX.LawAtS l w K CX0 6 63 "_law_script" mg fa h := by
  have e := hfa.symm.trans (PySem.W.mg_of X G a13)
  cases e
  have FM : FunT K "_is_move" "_is_move" sIsMove f0 _ cM := ⟨⟨_, _, _, _, _, _, _, _, rfl, l0, c0⟩, k0⟩
  have FM0 := fun_mk (st := sIsMove) l0 c0 k0
  have b0 := FM0.binds (ps := ["many", "move"]) fun _ _ _ _ _ _ us hl => match us, hl with | [_, _], _ => rfl
  have g0 := PySem.W.mg_of X G a0
  have F1 := fun_mk (st := sCell) l1 c1 k1
  have b1 := F1.binds (ps := ["_law_script", "_law_k"]) fun _ _ _ _ _ _ us hl => match us, hl with | [_, _], _ => rfl
  have g1 := PySem.W.mg_of X G a1
  have F2 := fun_mk (st := sDice) l2 c2 k2
  have b2 := F2.binds (ps := ["_law_script", "_law_k"]) fun _ _ _ _ _ _ us hl => match us, hl with | [_, _], _ => rfl
  have g2 := PySem.W.mg_of X G a2
  have F3 := fun_mk (st := sOff) l3 c3 k3
  have b3 := F3.binds (ps := ["_law_d", "_law_most"]) fun _ _ _ _ _ _ us hl => match us, hl with | [_, _], _ => rfl
  have g3 := PySem.W.mg_of X G a3
  have F4 := fun_mk (st := sChain) l4 c4 k4
  have b4 := F4.binds (ps := ["_law_d", "_law_most"]) fun _ _ _ _ _ _ us hl => match us, hl with | [_, _], _ => rfl
  have g4 := PySem.W.mg_of X G a4
  have F5 := fun_mk (st := sMade) l5 c5 k5
  have b5 := F5.binds (ps := ["_law_told"]) fun _ _ _ _ _ _ us hl => match us, hl with | [_], _ => rfl
  have g5 := PySem.W.mg_of X G a5
  have F6 := fun_mk (st := sNumbers) l6 c6 k6
  have b6 := F6.binds (ps := ["_law_d", "_law_moves", "_law_most"]) fun _ _ _ _ _ _ us hl => match us, hl with | [_, _, _], _ => rfl
  have g6 := PySem.W.mg_of X G a6
  have F7 := fun_mk (st := sStepsOf) l7 c7 k7
  have b7 := F7.binds (ps := ["chain", "numbers"]) fun _ _ _ _ _ _ us hl => match us, hl with | [_, _], _ => rfl
  have g7 := PySem.W.mg_of X G a7
  have F8 := fun_mk (st := sDrawn) l8 c8 k8
  have b8 := F8.binds (ps := ["chain", "numbers"]) fun _ _ _ _ _ _ us hl => match us, hl with | [_, _], _ => rfl
  have g8 := PySem.W.mg_of X G a8
  have F9 := fun_mk (st := sDrawnFrom) l9 c9 k9
  have b9 := F9.binds (ps := ["chain", "begins", "numbers"]) fun _ _ _ _ _ _ us hl => match us, hl with | [_, _, _], _ => rfl
  have g9 := PySem.W.mg_of X G a9
  have F10 := fun_mk (st := sAreOne) l10 c10 k10
  have b10 := F10.binds (ps := ["ends"]) fun _ _ _ _ _ _ us hl => match us, hl with | [_], _ => rfl
  have g10 := PySem.W.mg_of X G a10
  have F11 := fun_mk (st := sLawEnds) l11 c11 k11
  have b11 := F11.binds (ps := ["_law_told", "_law_numbers_here"]) fun _ _ _ _ _ _ us hl => match us, hl with | [_, _], _ => rfl
  have g11 := PySem.W.mg_of X G a11
  have F12 := fun_mk (st := sLawDrawn) l12 c12 k12
  have b12 := F12.binds (ps := ["_law_told", "_law_numbers_here"]) fun _ _ _ _ _ _ us hl => match us, hl with | [_, _], _ => rfl
  have g12 := PySem.W.mg_of X G a12
  have F13 := fun_mk (st := sLaw) l13 c13 k13
  have g13 := PySem.W.mg_of X G a13
  have Fm0 := fun_mk (st := inClass cChain 0) lm0 cm0 km0
  have bm0 := Fm0.binds (ps := ["self", "many", "moves"]) fun _ _ _ _ _ _ us hl => match us, hl with | [_, _, _], _ => rfl
  have Fm1 := fun_mk (st := inClass cChain 1) lm1 cm1 km1
  have bm1 := Fm1.binds (ps := ["self"]) fun _ _ _ _ _ _ us hl => match us, hl with | [_], _ => rfl
  have Fm2 := fun_mk (st := inClass cChain 2) lm2 cm2 km2
  have bm2 := Fm2.binds (ps := ["self"]) fun _ _ _ _ _ _ us hl => match us, hl with | [_], _ => rfl
  have gC := PySem.W.mg_of X G aC
  have GMOST_PLACES := PySem.W.mg_of X G gMOST_PLACES
  have GMOST_MOVES := PySem.W.mg_of X G gMOST_MOVES
  have GMOST_WEIGHT := PySem.W.mg_of X G gMOST_WEIGHT
  have Zlen := PySem.W.mg_none_of X G zlen
  have Zabs := PySem.W.mg_none_of X G zabs
  have Zmax := PySem.W.mg_none_of X G zmax
  have Zmin := PySem.W.mg_none_of X G zmin
  have Zint := PySem.W.mg_none_of X G zint
  have Zrange := PySem.W.mg_none_of X G zrange
  have Zsorted := PySem.W.mg_none_of X G zsorted
  have Ztuple := PySem.W.mg_none_of X G ztuple
  have Zisinstance := PySem.W.mg_none_of X G zisinstance
  have Zall := PySem.W.mg_none_of X G zall
  have Zenumerate := PySem.W.mg_none_of X G zenumerate
  have Zlist := PySem.W.mg_none_of X G zlist
  have Zbool := PySem.W.mg_none_of X G zbool
  have Zset := PySem.W.mg_none_of X G zset
  have Zreversed := PySem.W.mg_none_of X G zreversed
  have tabE : h.get? tM = some { cls := .none, data := .fields #[] } := by
    obtain ⟨a', o', fd', c', P', oc, vc, g1, g2, g3, g4, e1, e3, e4, e5⟩ := TO
    rw [g0] at g1
    cases g1
    have q1 := X _ _ l0
    rw [q1] at g2
    cases g2
    cases g3
    cases g4
    have q2 := X _ _ lM
    rw [q2] at e1
    cases e1
    cases e3
    rw [vM] at e4
    cases e4
    exact e5
  have LT : LawTxt K mg f1 f2 f3 _ _ _ := ⟨F1, b1, g1, F2, b2, g2, F3, b3, g3, Zlen, Zabs, Zmax, Zmin, Zint, Zrange, Zsorted, Ztuple⟩
  have CL : Cls K C := ⟨pg, hd, po, sa⟩
  have CH : ChTxt K mg f0 cM tM _ C fm0 _ := ⟨FM, b0, g0, Fm0, bm0, ⟨mk, am0, im0, kc⟩, CL, nM, nV, gC, ⟨_, GMOST_PLACES⟩, ⟨_, GMOST_MOVES⟩, ⟨_, GMOST_WEIGHT⟩, Zlen, Zisinstance, Ztuple, Zrange, Zall, Zenumerate, Zlist⟩
  refine ⟨PySem.W.fnOf "law" "law" (defArgs sLaw) (defBody sLaw) (defScope sLaw) .none kV13 dc13 pm13 an13 cd13 ct13, [(cM, tM)], spLaw K tM, fun p hp => ?_, fun p hp => ?_, fun p hp => ?_, fun s v => .of_eq rfl, fun H a ns hl hbits hT hS => ?_, fun base hK hG hTB => ?_⟩
  · have e : p = (cM, tM) := by simpa using hp
    rw [e]
    exact tabE
  · have e : p = (cM, tM) := by simpa using hp
    rw [e]
    exact nT
  · have e : p = (cM, tM) := by simpa using hp
    rw [e]
    exact PySem.W.codeHd_of_K X hM
  · exact ⟨a, ns, rfl, hS, hl, ⟨#[], hT (cM, tM) (by simp), by simp [TriplesOk]⟩, fun _ => rfl⟩
  · have TBx := hTB (cM, tM) (by simp)
    have TB : GxR.TabB base mg cM tM := ⟨TBx.code, TBx.bm, TBx.gP⟩
    have CM : ChM K C fm1 fm2 _ _ := ⟨Fm1, bm1, ⟨am1, im1, km1⟩, Fm2, bm2, ⟨am2, im2, km2⟩, CL, nM, nV⟩
    have GM : FnOk l.prog w K mg base CX0 4 f5 _ ["_law_told"] (spMade C tM) := ok_made F5 CH TB
    have GD : FnOk l.prog w K mg base CX0 4 f8 _ ["chain", "numbers"] (spDrawn C) := ok_drawn F8 F9 b9 g9 F7 b7 g7 F10 b10 g10 CM Zrange Zlen Zlist Zset
    have GL : FnOk l.prog w K mg base CX0 2 f12 _ ["_law_told", "_law_numbers_here"] spLd := ok_ldrawn F12 F11 b11 g11 Zrange Zlist Zlen Zset Zreversed
    exact ok_law F13 LT ⟨F4, b4, g4⟩ ⟨F5, b5, g5⟩ ⟨F8, b8, g8⟩ ⟨F6, b6, g6⟩ ⟨F12, b12, g12⟩ GM GD GL Zisinstance Zlist Zbool
end Lg
open PySem PySem.W PyProof.Rows
set_option maxRecDepth 100000 in
set_option maxHeartbeats 0 in
theorem PySem.Challenge.cw_longago_k06_drawn_holds : PySem.Challenge.rw_longago_k06_drawn.Holds := by
  w_on; o_law; k_head; (case hw => w_witness2)
  k_fill
  refine Lg.walk_tab (l := PySem.Challenge.rw_longago_k06_drawn) (n := 63) (k := 6) (x := "_law_script") (CX := fun _ => L2.CX0) "_is_move" rfl (by decide) rfl ⟨rfl, by decide, by decide⟩ (by decide +kernel) (fun w h Y => PySem.W.kIn_of Y) ?F (fun _ _ _ _ _ z => z)
  case F =>
    intro w mg fa h KX G hmg TO
    refine' Lg.all_mk KX G hmg TO ?aC ?a0 ?l0 ?c0 ?k0 ?a1 ?l1 ?c1 ?k1 ?a2 ?l2 ?c2 ?k2 ?a3 ?l3 ?c3 ?k3 ?a4 ?l4 ?c4 ?k4 ?a5 ?l5 ?c5 ?k5 ?a6 ?l6 ?c6 ?k6 ?a7 ?l7 ?c7 ?k7 ?a8 ?l8 ?c8 ?k8 ?a9 ?l9 ?c9 ?k9 ?a10 ?l10 ?c10 ?k10 ?a11 ?l11 ?c11 ?k11 ?a12 ?l12 ?c12 ?k12 ?a13 ?l13 ?c13 ?k13 ?am0 ?im0 ?lm0 ?cm0 ?km0 ?am1 ?im1 ?lm1 ?cm1 ?km1 ?am2 ?im2 ?lm2 ?cm2 ?km2 ?pg ?hd ?po ?sa ?mk ?kc ?nM ?nV ?gMOST_PLACES ?gMOST_MOVES ?gMOST_WEIGHT ?zlen ?zabs ?zmax ?zmin ?zint ?zrange ?zsorted ?ztuple ?zisinstance ?zall ?zenumerate ?zlist ?zbool ?zset ?zreversed ?lM ?vM ?hM ?nT
    (case aC => k_is)
    (case a0 => k_is)
    (case l0 => k_is)
    (case c0 => k_is)
    (case k0 => k_is)
    (case a1 => k_is)
    (case l1 => k_is)
    (case c1 => k_is)
    (case k1 => k_is)
    (case a2 => k_is)
    (case l2 => k_is)
    (case c2 => k_is)
    (case k2 => k_is)
    (case a3 => k_is)
    (case l3 => k_is)
    (case c3 => k_is)
    (case k3 => k_is)
    (case a4 => k_is)
    (case l4 => k_is)
    (case c4 => k_is)
    (case k4 => k_is)
    (case a5 => k_is)
    (case l5 => k_is)
    (case c5 => k_is)
    (case k5 => k_is)
    (case a6 => k_is)
    (case l6 => k_is)
    (case c6 => k_is)
    (case k6 => k_is)
    (case a7 => k_is)
    (case l7 => k_is)
    (case c7 => k_is)
    (case k7 => k_is)
    (case a8 => k_is)
    (case l8 => k_is)
    (case c8 => k_is)
    (case k8 => k_is)
    (case a9 => k_is)
    (case l9 => k_is)
    (case c9 => k_is)
    (case k9 => k_is)
    (case a10 => k_is)
    (case l10 => k_is)
    (case c10 => k_is)
    (case k10 => k_is)
    (case a11 => k_is)
    (case l11 => k_is)
    (case c11 => k_is)
    (case k11 => k_is)
    (case a12 => k_is)
    (case l12 => k_is)
    (case c12 => k_is)
    (case k12 => k_is)
    (case a13 => k_is)
    (case l13 => k_is)
    (case c13 => k_is)
    (case k13 => k_is)
    (case am0 => k_is)
    (case im0 => k_is)
    (case lm0 => k_is)
    (case cm0 => k_is)
    (case km0 => k_is)
    (case am1 => k_is)
    (case im1 => k_is)
    (case lm1 => k_is)
    (case cm1 => k_is)
    (case km1 => k_is)
    (case am2 => k_is)
    (case im2 => k_is)
    (case lm2 => k_is)
    (case cm2 => k_is)
    (case km2 => k_is)
    (case pg => k_is)
    (case hd => k_is)
    (case po => k_is)
    (case sa => k_is)
    (case mk => k_is)
    (case kc => k_is)
    (case nM => k_is)
    (case nV => k_is)
    (case gMOST_PLACES => k_is)
    (case gMOST_MOVES => k_is)
    (case gMOST_WEIGHT => k_is)
    (case zlen => k_is)
    (case zabs => k_is)
    (case zmax => k_is)
    (case zmin => k_is)
    (case zint => k_is)
    (case zrange => k_is)
    (case zsorted => k_is)
    (case ztuple => k_is)
    (case zisinstance => k_is)
    (case zall => k_is)
    (case zenumerate => k_is)
    (case zlist => k_is)
    (case zbool => k_is)
    (case zset => k_is)
    (case zreversed => k_is)
    (case lM => k_is)
    (case vM => first | rfl | k_is)
    (case hM => first | k_is | rfl | decide +kernel)
    (case nT => first | k_is | rfl | decide +kernel)

