import PyProof.Rows.All
import Wide.All
import OpenK.AllK
import Wide.FinOn
import PyProof.EqAt
import PyProof.EqKinds
import PyProof.TupleCall
import HandS.ForMost
import HandS.Conv
import HandS.Codes
import HandS.AnyAll
import HandS.Sort
import HandS.Zip
import HandS.Walk
import KE.GoesEnum
import KE.GoesMore
import HandS.Gcd
import HandS.Wide
import HandS.IsInst
import HandS.EndTab
import PySem.Challenge.RW_longago_k02_chances
set_option Elab.async false
set_option linter.all false
set_option maxRecDepth 100000
set_option maxHeartbeats 4000000
namespace Lg
open PySem PySem.Spec PyProof.Rows L2
def topS (i : Nat) : Stmt := PySem.Challenge.pw_longago_k02_chances.main.body.getD i (.Pass ⟨0, 0, 0, 0⟩)
abbrev cLongError : Stmt := topS 2
abbrev cBadChain : Stmt := topS 3
abbrev sFraction : Stmt := topS 5
abbrev cChain : Stmt := topS 10
abbrev sIsMove : Stmt := topS 11
abbrev sChances : Stmt := topS 12
abbrev sWeights : Stmt := topS 13
abbrev sCell : Stmt := topS 15
abbrev sDice : Stmt := topS 16
abbrev sOff : Stmt := topS 17
abbrev sChain : Stmt := topS 18
abbrev sMade : Stmt := topS 19
abbrev sNumbers : Stmt := topS 20
abbrev sLawLow : Stmt := topS 21
abbrev sLawAdd : Stmt := topS 22
abbrev sLawTimes : Stmt := topS 23
abbrev sLawSum : Stmt := topS 24
abbrev sLawIsShare : Stmt := topS 25
abbrev sLawAreShares : Stmt := topS 26
abbrev sLaw : Stmt := topS 27
/-! ### what is the same in all these texts: heaps -/
/-- all that is tracked, but at d, is as it was -/
def Gr (d : Addr) (H H' : Hp) : Prop := ∀ b o, b ≠ d → H b = some o → H' b = some o
theorem Gr.refl (d : Addr) (H : Hp) : Gr d H H := fun _ _ _ e => e
theorem Gr.trans {d : Addr} {H H1 H2 : Hp} (a : Gr d H H1) (b : Gr d H1 H2) : Gr d H H2 := fun c o n e => b c o n (a c o n e)
theorem Gr.new {d : Addr} {H H1 : Hp} {p : Addr} {o : HO} (a : Gr d H H1) (h : H1 p = none) : Gr d H (upd H1 p o) := fun b u n e => by
  have q := a b u n e
  rw [upd_ne (ne_of_none q h)]
  exact q
theorem Gr.off {d : Addr} {H H1 H2 : Hp} (a : Gr d H H1) (h : ∀ b, b ≠ d → H2 b = H1 b) : Gr d H H2 := fun b u n e => by
  rw [h b n]
  exact a b u n e
theorem same_new {H : Hp} {p : Addr} {o : HO} (h : H p = none) : Same H (upd H p o) := fun b x e => by
  rw [upd_ne (ne_of_none e h)]
  exact e
theorem Gr.of_same {d : Addr} {H H' : Hp} (s : Same H H') : Gr d H H' := fun b o _ e => s b o e
/-- the dice at d -/
def dl (s0 : Int) (l : Addr) (k big : Int) : List V := [.int s0, .ref l, .int k, .int big]
theorem map_int_dl {ns : List Int} {s0 k big : Int} {l : Addr} : ns.map V.int ≠ dl s0 l k big := by
  intro e
  have h : (ns.map V.int)[1]? = some (V.ref l) := by rw [e]; rfl
  rw [List.getElem?_map] at h
  cases q : ns[1]? with
  | none => rw [q] at h; cases h
  | some z => rw [q] at h; cases h
/-- a list that is known ahead of p's making, and p's writing -/
theorem seq_put {K : PySem.W.Frag} {H0 H : Hp} {l p : Addr} {xs : List V} {o : HO} (h0 : SqL K H0 l xs) (n0 : H0 p = none) (h : SqL K H l xs) : SqL K (upd H p o) l xs := by
  have ne : Rd H0 l (.lst xs) → l ≠ p := fun r => by
    rcases r with r | ⟨o', r⟩
    · exact ne_of_none r n0
    · exact ne_of_none r n0
  rcases h0 with r0 | k
  · have n := ne r0
    rcases h with (h | ⟨o', h⟩) | h
    · exact .inl (.inl (by rw [upd_ne n]; exact h))
    · exact .inl (.inr ⟨o', by rw [upd_ne n]; exact h⟩)
    · exact .inr h
  · exact .inr k
/-- the script stands when the dice turns -/
theorem seq_turn {K : PySem.W.Frag} {H H' : Hp} {d l l' : Addr} {ns : List Int} {s0 k big : Int} (hd : H d = some (.lst (dl s0 l' k big))) (h : SqL K H l (ns.map V.int)) (q : ∀ b, b ≠ d → H' b = H b) : SqL K H' l (ns.map V.int) := by
  rcases h with (h | ⟨o, h⟩) | h
  · refine .inl (.inl ?_)
    rw [q]
    · exact h
    · intro z
      rw [z, hd] at h
      injection h with h
      injection h with h
      exact map_int_dl h.symm
  · refine .inl (.inr ⟨o, ?_⟩)
    rw [q]
    · exact h
    · intro z
      rw [z, hd] at h
      cases h
  · exact .inr h
def Dc (K : PySem.W.Frag) (l : Addr) (ns : List Int) (H : Hp) (d : Addr) : Prop := ∃ (s0 k big : Int), H d = some (.lst (dl s0 l k big)) ∧ SqL K H l (ns.map V.int) ∧ ns.length ≤ 63 ∧ 0 ≤ s0 ∧ s0 < 2147483647 ∧ 0 ≤ k ∧ 0 ≤ big
theorem Dc.same {K : PySem.W.Frag} {H H' : Hp} {l d : Addr} {ns : List Int} (s : Same H H') (h : Dc K l ns H d) : Dc K l ns H' d := by
  obtain ⟨s0, k, big, h1, h2, h3⟩ := h
  exact ⟨s0, k, big, s _ _ h1, s.seq h2, h3⟩
theorem Dc.seq {K : PySem.W.Frag} {H : Hp} {l d : Addr} {ns : List Int} (h : Dc K l ns H d) : SqL K H l (ns.map V.int) := by
  obtain ⟨s0, k, big, h1, h2, h3⟩ := h
  exact h2
theorem Dc.new {K : PySem.W.Frag} {H : Hp} {l d p : Addr} {ns : List Int} {o : HO} (h : Dc K l ns H d) (n : H p = none) : Dc K l ns (upd H p o) d := h.same (same_new n)
theorem Dc.some {K : PySem.W.Frag} {H : Hp} {l d : Addr} {ns : List Int} (h : Dc K l ns H d) : ∃ s0 k big, H d = Option.some (HO.lst (dl s0 l k big)) := by
  obtain ⟨s0, k, big, h1, _⟩ := h
  exact ⟨s0, k, big, h1⟩
theorem Dc.ne {K : PySem.W.Frag} {H : Hp} {l d p : Addr} {ns : List Int} (h : Dc K l ns H d) (n : H p = none) : p ≠ d := by
  obtain ⟨s0, k, big, e⟩ := h.some
  exact (ne_of_none e n).symm
/-- the dice is a list that begins with an int and a ref: no other list that we know -/
theorem Dc.ne_of {K : PySem.W.Frag} {H : Hp} {l d p : Addr} {ns : List Int} {u : HO} (h : Dc K l ns H d) (n : H p = Option.some u) (q : ∀ s0 l k big, u ≠ .lst (dl s0 l k big)) : p ≠ d := by
  obtain ⟨s0, k, big, e⟩ := h.some
  intro z
  rw [z, e] at n
  exact q _ _ _ _ (Option.some.inj n).symm
/-- another list is written, one that is newer than the script -/
theorem Dc.turn {K : PySem.W.Frag} {H0 H : Hp} {l d d0 p : Addr} {ns : List Int} {o : HO} (h : Dc K l ns H d) (h0 : Dc K l ns H0 d0) (n0 : H0 p = none) (n : p ≠ d) : Dc K l ns (upd H p o) d := by
  obtain ⟨s0, k, big, h1, h2, h3⟩ := h
  refine ⟨s0, k, big, ?_, seq_put h0.seq n0 h2, h3⟩
  rw [upd_ne n.symm]
  exact h1
/-! ### a chain's data -/
abbrev Mv := Int × List Int
def GoodRow (many : Nat) (row : List Int) : Prop := row.length = many ∧ ∀ x ∈ row, 0 ≤ x ∧ x < (many : Int)
def GoodMv (many : Nat) (m : Mv) : Prop := 1 ≤ m.1 ∧ m.1 ≤ 99 ∧ GoodRow many m.2
structure Good (many : Nat) (ms : List Mv) : Prop where
  m1 : 1 ≤ many
  m6 : many ≤ 6
  l1 : 1 ≤ ms.length
  l8 : ms.length ≤ 8
  mv : ∀ m ∈ ms, GoodMv many m
def MoveAt (H : Hp) (v : V) (m : Mv) : Prop := ∃ a q, v = .ref a ∧ H a = some (.tup [.int m.1, .ref q]) ∧ H q = some (.tup (m.2.map V.int))
abbrev MovesAt (H : Hp) : List V → List Mv → Prop := Paired (MoveAt H)
theorem MoveAt.same {H H' : Hp} {v : V} {m : Mv} (s : ∀ b xs, H b = some (.tup xs) → H' b = some (.tup xs)) (h : MoveAt H v m) : MoveAt H' v m := by
  obtain ⟨a, q, e, h1, h2⟩ := h
  exact ⟨a, q, e, s _ _ h1, s _ _ h2⟩
theorem MovesAt.same {H H' : Hp} (s : ∀ b xs, H b = some (.tup xs) → H' b = some (.tup xs)) : ∀ {vs : List V} {ms : List Mv}, MovesAt H vs ms → MovesAt H' vs ms
  | _, _, .nil => .nil
  | _, _, .cons h t => .cons (h.same s) (MovesAt.same s t)
theorem MovesAt.snoc {H : Hp} {v : V} {m : Mv} (h : MoveAt H v m) : ∀ {vs : List V} {ms : List Mv}, MovesAt H vs ms → MovesAt H (vs ++ [v]) (ms ++ [m])
  | _, _, .nil => .cons h .nil
  | _, _, .cons q t => .cons q (MovesAt.snoc h t)
theorem MovesAt.get {H : Hp} : ∀ {vs : List V} {ms : List Mv} {i : Nat} {m : Mv}, MovesAt H vs ms → ms[i]? = some m → ∃ v, vs[i]? = some v ∧ MoveAt H v m
  | _, _, _, _, .nil, e => by simp at e
  | _, _, 0, _, .cons h _, e => by
    simp at e
    subst e
    exact ⟨_, rfl, h⟩
  | _, _, i + 1, m, .cons _ t, e => by
    obtain ⟨v, h1, h2⟩ := MovesAt.get (i := i) (m := m) t (by simpa using e)
    exact ⟨v, by simpa using h1, h2⟩
theorem MovesAt.get' {H : Hp} : ∀ {vs : List V} {ms : List Mv} {i : Nat} {v : V}, MovesAt H vs ms → vs[i]? = some v → ∃ m, ms[i]? = some m ∧ MoveAt H v m
  | _, _, _, _, .nil, e => by simp at e
  | _, _, 0, _, .cons h _, e => by
    simp at e
    subst e
    exact ⟨_, rfl, h⟩
  | _, _, i + 1, v, .cons _ t, e => by
    obtain ⟨m, h1, h2⟩ := MovesAt.get' (i := i) (v := v) t (by simpa using e)
    exact ⟨m, by simpa using h1, h2⟩
/-- a told chain: (many, moves) at t, the moves' list at m -/
def ToldAt (H : Hp) (t m : Addr) (many : Nat) (vs : List V) (ms : List Mv) : Prop := H t = some (.tup [.int (many : Int), .ref m]) ∧ H m = some (.lst vs) ∧ MovesAt H vs ms
theorem Gr.tups {d l : Addr} {ns : List Int} {H H' : Hp} {K : PySem.W.Frag} (hd : Dc K l ns H d) (g : Gr d H H') : ∀ b xs, H b = some (.tup xs) → H' b = some (.tup xs) := fun b xs e =>
  g b _ (hd.ne_of e fun _ _ _ _ q => nomatch q) e
theorem Same.tups {H H' : Hp} (g : Same H H') : ∀ b xs, H b = some (.tup xs) → H' b = some (.tup xs) := fun b xs e => g b _ e
theorem ifD {c A B : Prop} [Decidable c] (hc : c) (h : A) : if decide c = true then A else B := by
  rw [decide_eq_true hc]
  exact iteT h
theorem small8 {n : Nat} (h : n ≤ 8) : n < sizeLine := Nat.lt_of_le_of_lt h (by decide)
section
variable {P : Program} {w : World} {K : PySem.W.Frag} {mg : Str → Option Value} {base : Heap}
/-! ### _law_cell -/
theorem scCell : FnScope ["_law_script", "_law_k"] ["_law_script", "_law_k"] (defScope sCell) := ⟨rfl, rfl, rfl, by decide +kernel, rfl, by decide +kernel, by decide +kernel⟩
def spCell (K : PySem.W.Frag) : Sp := fun vs H Q _ => ∃ (l : Addr) (ns : List Int) (j : Int), vs = [.ref l, .int j] ∧ SqL K H l (ns.map V.int) ∧ 0 ≤ j ∧ ∀ x : Int, Q (.int x) H
theorem ok_cell {f : Addr} {fd : FuncData} {k : Nat} (F : Fun K "_law_cell" "_law_cell" sCell f fd) (ml : mg "len" = none) : FnOk P w K mg base CX0 (k + 1) f fd ["_law_script", "_law_k"] (spCell K) := by
  refine F.ok scCell (fun vs H Q E h => ?_) (fun cdv A outer s H vs Q E hr h => ?_)
  · obtain ⟨l, ns, j, rfl, _⟩ := h
    rfl
  · obtain ⟨l, ns, j, rfl, hS, hj, q⟩ := h
    refine ⟨_, pss_cons (ps_if (pt_cmpR op_lt (pv 1) (pe_callB call_len_seq (by rfl) ml PySem.boot_len (pa_cons (pv 0) pa_nil)) (nomark _))
        (pss_one (ps_ret (pe_ix ix_list (pv 0) (pv 1) (fun _ _ => rfl)))) pss_nil)
      (pss_one (ps_ret pe_int)), ?_⟩
    refine ⟨.int j, rfl, .ref l, rfl, l, ns.map V.int, rfl, .inl hS, j, _, rfl, rfl, _, rfl, ite2 (fun e => ?_) (fun e => ?_)⟩
    · have e1 : j < ((ns.map V.int).length : Int) := of_decide_eq_true e
      rw [List.length_map] at e1
      have hn : j.toNat < ns.length := by omega
      have ej : j = ((j.toNat : Nat) : Int) := by omega
      have g : (ns.map V.int)[j.toNat]? = some (.int ns[j.toNat]) := by
        rw [List.getElem?_map, List.getElem?_eq_getElem hn]
        rfl
      exact ⟨.ref l, rfl, .int j, rfl, l, _, j, _, rfl, rfl, hS, at_of ej g, q _⟩
    · exact q 0
/-! ### _law_dice -/
theorem scDice : FnScope ["_law_script", "_law_k", "_law_cell_here"] ["_law_script", "_law_k"] (defScope sDice) := ⟨rfl, rfl, rfl, by decide +kernel, rfl, by decide +kernel, by decide +kernel⟩
def spDice (K : PySem.W.Frag) : Sp := fun vs H Q _ => ∃ (l : Addr) (ns : List Int) (j : Int), vs = [.ref l, .int j] ∧ SqL K H l (ns.map V.int) ∧ ns.length ≤ 63 ∧ 0 ≤ j ∧ ∀ H' d, Same H H' → H d = none → Dc K l ns H' d → Q (.ref d) H'
theorem abs_nn (x : Int) : 0 ≤ (if x < 0 then -x else x) := by
  split <;> omega
theorem ok_dice {f fC : Addr} {fd fdC : FuncData} (F : Fun K "_law_dice" "_law_dice" sDice f fd) (FC : Fun K "_law_cell" "_law_cell" sCell fC fdC) (bC : Binds K fdC ["_law_script", "_law_k"] []) (gC : mg "_law_cell" = some (.ref fC))
    (ml : mg "len" = none) (ma : mg "abs" = none) (mi : mg "int" = none) : FnOk P w K mg base CX0 2 f fd ["_law_script", "_law_k"] (spDice K) := by
  have GC : FnOk P w K mg base CX0 1 fC fdC ["_law_script", "_law_k"] (spCell K) := ok_cell FC ml
  refine F.ok scDice (fun vs H Q E h => ?_) (fun cdv A outer s H vs Q E hr h => ?_)
  · obtain ⟨l, ns, j, rfl, _⟩ := h
    rfl
  · obtain ⟨l, ns, j, rfl, hS, hl, hj, q⟩ := h
    refine ⟨_, pss_cons (ps_set (i := 2) scDice.nd rfl (.inl rfl) (pe_callB call_abs (by rfl) ma (by decide +kernel) (pa_cons (pe_call GC hr (by rfl) gC FC.kp bC .nil pass0 (pa_cons (pv 0) (pa_cons (pv 1) pa_nil))) pa_nil)))
      (pss_one (ps_ret (pe_lst (pa_cons (pe_op op_mod (pv 2) pe_int) (pa_cons (pv 0) (pa_cons (pe_op op_add (pv 1) pe_int)
        (pa_cons (pe_op op_mul (pe_callTy call_int1 (by rfl) mi (by decide +kernel) (pa_cons (pe_cmpR op_ge (pv 2) (pe_op op_pow pe_int pe_int) (nomark _)) pa_nil)) (pv 2)) pa_nil))))))), ?_⟩
    refine ⟨.ref l, rfl, .int j, rfl, l, ns, j, rfl, hS, hj, fun x => ?_⟩
    refine ⟨x, rfl, ?_⟩
    have ha := abs_nn x
    generalize (if x < 0 then -x else x) = c at ha ⊢
    have m0 : 0 ≤ c % 2147483647 := Int.emod_nonneg _ (by decide)
    have m1 : c % 2147483647 < 2147483647 := Int.emod_lt_of_pos _ (by decide)
    refine ⟨.int c, rfl, c, 2147483647, rfl, rfl, (by show (0 : Int) < 2147483647; decide), .ref l, rfl, .int j, rfl, j, 1, rfl, rfl, ?_⟩
    refine ⟨.int c, rfl, 10, 18, rfl, rfl, ⟨by decide, by decide, by decide⟩, c, _, rfl, rfl, .inr ⟨_, rfl, ?_⟩⟩
    refine ⟨.int c, rfl, _, c, rfl, rfl, .inl ?_, ?_⟩
    · split <;> decide
    · refine ⟨by show 4 ≤ sizeLine; decide, fun d nd => ?_⟩
      refine q _ d (same_new nd) nd ⟨_, _, _, upd_same, (same_new nd).seq hS, hl, m0, m1, by omega, ?_⟩
      split
      · omega
      · omega
/-! ### _law_off -/
theorem scOff : FnScope ["_law_d", "_law_most", "_law_found", "_law_more"] ["_law_d", "_law_most"] (defScope sOff) := ⟨rfl, rfl, rfl, by decide +kernel, rfl, by decide +kernel, by decide +kernel⟩
def spOff (K : PySem.W.Frag) : Sp := fun vs H Q _ => ∃ (d l : Addr) (ns : List Int) (most : Int), vs = [.ref d, .int most] ∧ Dc K l ns H d ∧ 1 ≤ most ∧ most ≤ 1000000 ∧ ∀ (r : Nat) H', (r : Int) < most → Dc K l ns H' d → (∀ b, b ≠ d → H' b = H b) → Q (.int (r : Int)) H'
theorem max1 (x : Int) (h : 0 ≤ x) : 1 ≤ (if x > 1 then x else 1) := by
  split <;> omega
theorem ok_off {f fC : Addr} {fd fdC : FuncData} (F : Fun K "_law_off" "_law_off" sOff f fd) (FC : Fun K "_law_cell" "_law_cell" sCell fC fdC) (bC : Binds K fdC ["_law_script", "_law_k"] []) (gC : mg "_law_cell" = some (.ref fC))
    (ml : mg "len" = none) (ma : mg "abs" = none) (mm : mg "max" = none) : FnOk P w K mg base CX0 2 f fd ["_law_d", "_law_most"] (spOff K) := by
  have GC : FnOk P w K mg base CX0 1 fC fdC ["_law_script", "_law_k"] (spCell K) := ok_cell FC ml
  refine F.ok scOff (fun vs H Q E h => ?_) (fun cdv A outer s H vs Q E hr h => ?_)
  · obtain ⟨d, l, ns, most, rfl, _⟩ := h
    rfl
  · obtain ⟨d, l, ns, most, rfl, ⟨s0, k, big, hD, hS, hl, z0, z1, hk, hb⟩, hm1, hm2, q⟩ := h
    refine ⟨_, pss_cons (ps_if (pt_cmpR op_gt (pe_ix ix_list (pv 0) pe_int (fun _ _ => rfl)) pe_int (nomark _))
        (pss_cons (ps_set (i := 2) scOff.nd rfl (.inl rfl) (pe_op op_mod (pe_ix ix_list (pv 0) pe_int (fun _ _ => rfl)) (pv 1)))
          (pss_cons (ps_asg (pe_op op_fdiv (pe_ix ix_list (pv 0) pe_int (fun _ _ => rfl)) (pv 1)) (pg_sub (pv 0) pe_int set_list))
            (pss_one (ps_ret (pv 2))))) pss_nil)
      (pss_cons (ps_set (i := 3) scOff.nd rfl (.inl rfl) (pe_callB call_abs (by rfl) ma (by decide +kernel) (pa_cons (pe_call GC hr (by rfl) gC FC.kp bC .nil pass0
          (pa_cons (pe_ix ix_list (pv 0) pe_int (fun _ _ => rfl)) (pa_cons (pe_op op_mod (pe_ix ix_list (pv 0) pe_int (fun _ _ => rfl))
            (pe_callB (call_max2 rfl) (by rfl) mm (by decide +kernel) (pa_cons pe_int (pa_cons (pe_callB call_len_seq (by rfl) ml PySem.boot_len (pa_cons (pe_ix ix_list (pv 0) pe_int (fun _ _ => rfl)) pa_nil)) pa_nil)))) pa_nil))) pa_nil)))
      (pss_cons (ps_asg (pe_op op_add (pe_ix ix_list (pv 0) pe_int (fun _ _ => rfl)) pe_int) (pg_sub (pv 0) pe_int set_list))
      (pss_cons (ps_asg (pe_op op_mod (pe_op op_add (pe_op op_add (pe_op op_mul (pe_ix ix_list (pv 0) pe_int (fun _ _ => rfl)) pe_int) pe_int) (pv 3)) pe_int) (pg_sub (pv 0) pe_int set_list))
      (pss_one (ps_ret (pe_op op_mod (pe_op op_fdiv (pe_ix ix_list (pv 0) pe_int (fun _ _ => rfl)) pe_int) (pv 1)))))))
      , ?_⟩
    have hD0 : SqL K H d (dl s0 l k big) := SqL.of hD
    refine ⟨.ref d, rfl, d, _, 3, _, rfl, rfl, hD0, atI_nat (j := 3) rfl, big, 0, rfl, rfl, _, rfl, ite2 (fun e => ?_) (fun e => ?_)⟩
    · have e1 : 0 < big := of_decide_eq_true e
      refine ⟨.ref d, rfl, d, _, 3, _, rfl, rfl, hD0, atI_nat (j := 3) rfl, .int most, rfl, big, most, rfl, rfl, (by show 0 < most; omega), ?_⟩
      refine ⟨.ref d, rfl, d, _, 3, _, rfl, rfl, hD0, atI_nat (j := 3) rfl, .int most, rfl, big, most, rfl, rfl, ⟨by show 0 < most; omega, by show most < 1073741824; omega⟩, ?_⟩
      refine ⟨.ref d, rfl, d, _, 3, 3, rfl, rfl, hD, rfl, ?_⟩
      have r0 : 0 ≤ big % most := Int.emod_nonneg _ (by omega)
      have r1 : big % most < most := Int.emod_lt_of_pos _ (by omega)
      have er : big % most = (((big % most).toNat : Nat) : Int) := by omega
      refine ⟨.int (big % most), rfl, ?_⟩
      rw [er]
      refine q _ _ (by omega) ⟨s0, k, big / most, upd_same, seq_turn hD hS (fun b hb => upd_ne hb), hl, z0, z1, hk, Int.ediv_nonneg hb (by omega)⟩ (fun b hb => upd_ne hb)
    · refine ⟨.ref d, rfl, d, _, 1, _, rfl, rfl, hD0, atI_nat (j := 1) rfl, .ref d, rfl, d, _, 2, _, rfl, rfl, hD0, atI_nat (j := 2) rfl, ?_⟩
      refine ⟨.ref d, rfl, d, _, 1, _, rfl, rfl, hD0, atI_nat (j := 1) rfl, l, _, rfl, .inl hS, 1, _, rfl, ?_⟩
      have hx := max1 (((ns.map V.int).length : Nat) : Int) (by omega)
      generalize (if (((ns.map V.int).length : Nat) : Int) > 1 then (((ns.map V.int).length : Nat) : Int) else 1) = mx at hx ⊢
      refine ⟨k, mx, rfl, rfl, (by show 0 < mx; omega), l, ns, k % mx, rfl, hS, Int.emod_nonneg _ (by omega), fun x => ⟨x, rfl, ?_⟩⟩
      have ha := abs_nn x
      generalize (if x < 0 then -x else x) = c at ha ⊢
      -- d[2] = d[2] + 1
      refine ⟨.ref d, rfl, d, _, 2, _, rfl, rfl, hD0, atI_nat (j := 2) rfl, k, 1, rfl, rfl, .ref d, rfl, d, _, 2, 2, rfl, rfl, hD, rfl, ?_⟩
      have g1 : (upd H d (.lst (dl s0 l (k + 1) big))) d = some (.lst (dl s0 l (k + 1) big)) := upd_same
      have g2 : SqL K (upd H d (.lst (dl s0 l (k + 1) big))) d (dl s0 l (k + 1) big) := SqL.of g1
      refine ⟨.ref d, rfl, d, _, 0, _, rfl, rfl, g2, atI_nat (j := 0) rfl, s0, 48271, rfl, rfl, .inl ⟨by omega, by omega⟩, s0 * 48271, 11, rfl, rfl, .int c, rfl, s0 * 48271 + 11, c, rfl, rfl, s0 * 48271 + 11 + c, 2147483647, rfl, rfl, (by show (0 : Int) < 2147483647; decide), ?_⟩
      have m0 : 0 ≤ (s0 * 48271 + 11 + c) % 2147483647 := Int.emod_nonneg _ (by decide)
      have m1 : (s0 * 48271 + 11 + c) % 2147483647 < 2147483647 := Int.emod_lt_of_pos _ (by decide)
      refine ⟨.ref d, rfl, d, _, 0, 0, rfl, rfl, g1, rfl, ?_⟩
      rw [upd_upd]
      have g3 : (upd H d (.lst (dl ((s0 * 48271 + 11 + c) % 2147483647) l (k + 1) big))) d = some (.lst (dl ((s0 * 48271 + 11 + c) % 2147483647) l (k + 1) big)) := upd_same
      have g4 : SqL K (upd H d (.lst (dl ((s0 * 48271 + 11 + c) % 2147483647) l (k + 1) big))) d (dl ((s0 * 48271 + 11 + c) % 2147483647) l (k + 1) big) := SqL.of g3
      refine ⟨.ref d, rfl, d, _, 0, _, rfl, rfl, g4, atI_nat (j := 0) rfl, ((s0 * 48271 + 11 + c) % 2147483647), 64, rfl, rfl, ⟨by decide, by decide⟩, .int most, rfl, ((s0 * 48271 + 11 + c) % 2147483647) / 64, most, rfl, rfl, (by show 0 < most; omega), ?_⟩
      have r0 : 0 ≤ ((s0 * 48271 + 11 + c) % 2147483647) / 64 % most := Int.emod_nonneg _ (by omega)
      have r1 : ((s0 * 48271 + 11 + c) % 2147483647) / 64 % most < most := Int.emod_lt_of_pos _ (by omega)
      have er : ((s0 * 48271 + 11 + c) % 2147483647) / 64 % most = (((((s0 * 48271 + 11 + c) % 2147483647) / 64 % most).toNat : Nat) : Int) := by omega
      show Q (.int (((s0 * 48271 + 11 + c) % 2147483647) / 64 % most)) _
      rw [er]
      exact q _ _ (by omega) ⟨((s0 * 48271 + 11 + c) % 2147483647), k + 1, big, g3, seq_turn hD hS (fun b hb => upd_ne hb), hl, m0, m1, by omega, hb⟩ (fun b hb => upd_ne hb)
end
section
variable {P : Program} {w : World} {K : PySem.W.Frag} {mg : Str → Option Value} {base : Heap}
/-! ### _law_chain -/
def nChain : List Str := ["_law_d", "_law_most", "_law_many", "_law_way", "_law_moves", "_law_k", "_law_row", "_law_weight", "_law_place"]
theorem scChain : FnScope ["_law_d", "_law_most", "_law_many", "_law_way", "_law_moves", "_law_k", "_law_row", "_law_weight", "_law_place"] ["_law_d", "_law_most"] (defScope sChain) := ⟨rfl, rfl, rfl, by decide +kernel, rfl, by decide +kernel, by decide +kernel⟩
def spChain (K : PySem.W.Frag) : Sp := fun vs H Q _ => ∃ (d l : Addr) (ns : List Int) (most : Nat), vs = [.ref d, .int (most : Int)] ∧ Dc K l ns H d ∧ 1 ≤ most ∧ most ≤ 6 ∧
  ∀ (t m : Addr) (many : Nat) (ws : List V) (ms : List Mv) H', Good many ms → many ≤ most → ToldAt H' t m many ws ms → Dc K l ns H' d → Gr d H H' → Q (.ref t) H'
/-- what the law's texts call -/
structure LawTxt (K : PySem.W.Frag) (mg : Str → Option Value) (fC fD fO : Addr) (fdC fdD fdO : FuncData) : Prop where
  FC : Fun K "_law_cell" "_law_cell" sCell fC fdC
  bC : Binds K fdC ["_law_script", "_law_k"] []
  gC : mg "_law_cell" = some (.ref fC)
  FD : Fun K "_law_dice" "_law_dice" sDice fD fdD
  bD : Binds K fdD ["_law_script", "_law_k"] []
  gD : mg "_law_dice" = some (.ref fD)
  FO : Fun K "_law_off" "_law_off" sOff fO fdO
  bO : Binds K fdO ["_law_d", "_law_most"] []
  gO : mg "_law_off" = some (.ref fO)
  ml : mg "len" = none
  ma : mg "abs" = none
  mm : mg "max" = none
  mn : mg "min" = none
  mi : mg "int" = none
  mr : mg "range" = none
  ms : mg "sorted" = none
  mt : mg "tuple" = none
section
variable {fC fD fO : Addr} {fdC fdD fdO : FuncData}
theorem LawTxt.off (T : LawTxt K mg fC fD fO fdC fdD fdO) : FnOk P w K mg base CX0 2 fO fdO ["_law_d", "_law_most"] (spOff K) := ok_off T.FO T.FC T.bC T.gC T.ml T.ma T.mm
theorem LawTxt.dice (T : LawTxt K mg fC fD fO fdC fdD fdO) : FnOk P w K mg base CX0 2 fD fdD ["_law_script", "_law_k"] (spDice K) := ok_dice T.FD T.FC T.bC T.gC T.ml T.ma T.mi
theorem perm_row {many : Nat} {xs ys : List Int} (p : ys.Perm xs) (h : GoodRow many xs) : GoodRow many ys := ⟨p.length_eq.trans h.1, fun x hx => h.2 x (p.mem_iff.mp hx)⟩
theorem clamp (m x : Int) (h : 0 ≤ m) : 0 ≤ (if (if x < m then x else m) > 0 then (if x < m then x else m) else 0) ∧ (if (if x < m then x else m) > 0 then (if x < m then x else m) else 0) < m + 1 := by
  split <;> split at * <;> omega
theorem ok_chain {f : Addr} {fd : FuncData} (F : Fun K "_law_chain" "_law_chain" sChain f fd) (T : LawTxt K mg fC fD fO fdC fdD fdO) : FnOk P w K mg base CX0 3 f fd ["_law_d", "_law_most"] (spChain K) := by
  have GO : FnOk P w K mg base CX0 2 fO fdO ["_law_d", "_law_most"] (spOff K) := T.off
  refine F.ok scChain (fun vs H Q E h => ?_) (fun cdv A outer s H vs Q E hr h => ?_)
  · obtain ⟨d, l, ns, most, rfl, _⟩ := h
    rfl
  · obtain ⟨d, l, ns, most, rfl, hD, hm1, hm6, q⟩ := h
    refine ⟨_, pss_cons (ps_set (i := 2) scChain.nd rfl (.inr rfl) (pe_op op_add pe_int (pe_call GO hr (by rfl) T.gO T.FO.kp T.bO .nil pass0 (pa_cons (pv 0) (pa_cons (pv 1) pa_nil)))))
      (pss_cons (ps_set (i := 3) scChain.nd rfl (.inl rfl) (pe_call GO hr (by rfl) T.gO T.FO.kp T.bO .nil pass0 (pa_cons (pv 0) (pa_cons pe_int pa_nil))))
      (pss_cons (ps_set (i := 4) scChain.nd rfl (.inl rfl) (pe_lst pa_nil))
      (pss_cons (ps_for PassesOwn.never rfl (pi_range1 (by rfl) T.mr (pa_cons (pe_op op_add pe_int (pe_call GO hr (by rfl) T.gO T.FO.kp T.bO .nil pass0 (pa_cons (pv 0)
            (pa_cons (pe_ix ix_list (pe_lst (pa_cons pe_int (pa_cons pe_int (pa_cons pe_int pa_nil)))) (pe_call GO hr (by rfl) T.gO T.FO.kp T.bO .nil pass0 (pa_cons (pv 0) (pa_cons pe_int pa_nil))) (fun _ _ => rfl)) pa_nil)))) pa_nil))
          (pg_name (i := 5) scChain.nd rfl (.inl rfl))
          (pss_cons (ps_setLc (i := 6) (own := [("_law_place", 8)]) (g := gName 8) (tt := tYes) rfl scChain.nd rfl rfl (sw_true rfl rfl rfl (by decide +kernel)) (pi_range1 (by rfl) T.mr (pa_cons (pv 2) pa_nil)) (blkOk_by (N := nChain) (sc := defScope sChain) (by decide +kernel))
              (fun _ _ _ _ _ => pg_name (i := 8) scChain.nd rfl (.inl rfl)) (fun _ _ _ _ _ => pts_nil)
              (fun _ _ _ _ _ => pe_call GO hr (by rfl) T.gO T.FO.kp T.bO .nil pass0 (pa_cons (pv 0) (pa_cons (pv 2) pa_nil))))
          (C8.pss_cut (ps_if (pt_cmpR op_eq (pv 3) pe_int (nomark _)) (pss_one (ps_set (i := 6) scChain.nd rfl (.inl rfl) (pe_callB cr_sorted (by rfl) T.ms (by decide +kernel) (pa_cons (pv 6) pa_nil)))) pss_nil)
          (C8.pss_cut (ps_if (pt_cmpR op_eq (pv 3) pe_int (nomark _)) (pss_one
              (ps_setLc (i := 6) (own := [("_law_place", 8)]) (g := gName 8) (tt := tYes) rfl scChain.nd rfl rfl (sw_true rfl rfl rfl (by decide +kernel)) (pi_range1 (by rfl) T.mr (pa_cons (pv 2) pa_nil)) (blkOk_by (N := nChain) (sc := defScope sChain) (by decide +kernel))
              (fun _ _ _ _ _ => pg_name (i := 8) scChain.nd rfl (.inl rfl)) (fun _ _ _ _ _ => pts_nil)
              (fun _ _ _ _ _ => pe_callB (call_max2 rfl) (by rfl) T.mm (by decide +kernel) (pa_cons pe_int (pa_cons (pe_callB (call_min2 rfl) (by rfl) T.mn (by decide +kernel) (pa_cons (pe_op op_sub (pv 2) pe_int) (pa_cons
                (pe_op op_sub (pe_op op_add (pv 8) (pe_call GO hr (by rfl) T.gO T.FO.kp T.bO .nil pass0 (pa_cons (pv 0) (pa_cons pe_int pa_nil)))) pe_int) pa_nil))) pa_nil))))) pss_nil)
          (pss_cons (ps_set (i := 7) scChain.nd rfl (.inl rfl) (pe_ix ix_list (pe_lst (pa_cons pe_int (pa_cons (pe_op op_add pe_int (pe_call GO hr (by rfl) T.gO T.FO.kp T.bO .nil pass0 (pa_cons (pv 0) (pa_cons pe_int pa_nil))))
              (pa_cons (pe_op op_add pe_int (pe_call GO hr (by rfl) T.gO T.FO.kp T.bO .nil pass0 (pa_cons (pv 0) (pa_cons pe_int pa_nil)))) pa_nil)))) (pe_call GO hr (by rfl) T.gO T.FO.kp T.bO .nil pass0 (pa_cons (pv 0) (pa_cons pe_int pa_nil))) (fun _ _ => rfl)))
          (pss_one (ps_expr (pe_bm PySem.F.plainAttrs_list PySem.F.slot_list_append PySem.F.type_list_append mt_append (pv 4) (pa_cons (pe_tup (pa_cons (pv 7) (pa_cons (pe_callTy call_tuple_of (by rfl) T.mt (by decide +kernel) (pa_cons (pv 6) pa_nil)) pa_nil))) pa_nil)))))))))
      (pss_one (ps_ret (pe_tup (pa_cons (pv 2) (pa_cons (pv 4) pa_nil)))))))), ?_⟩
    -- many, way, moves
    refine ⟨.ref d, rfl, .int most, rfl, d, l, ns, _, rfl, hD, by omega, by omega, fun r H1 hr1 hD1 o1 => ?_⟩
    refine ⟨1, r, rfl, rfl, .ref d, rfl, d, l, ns, _, rfl, hD1, by omega, by omega, fun way H2 hr2 hD2 o2 => ?_⟩
    obtain ⟨many, em⟩ : ∃ many : Nat, many = 1 + r := ⟨_, rfl⟩
    have em2 : (1 : Int) + (r : Int) = (many : Int) := by omega
    have g2 : Gr d H H2 := ((Gr.refl d H).off o1).off o2
    refine ⟨Nat.zero_le _, fun m nm => ?_⟩
    have hD3 : Dc K l ns (upd H2 m (.lst [])) d := hD2.new nm
    have g3 : Gr d H (upd H2 m (.lst [])) := g2.new nm
    have hm3 : (upd H2 m (.lst [])) m = some (.lst []) := upd_same
    -- the loop's range
    refine ⟨.ref d, rfl, (by show 3 ≤ sizeLine; decide), fun L nL => ?_⟩
    have hD4 := hD3.new (o := .lst [.int 4, .int 4, .int 8]) nL
    have g4 : Gr d H (upd (upd H2 m (.lst [])) L (.lst [.int 4, .int 4, .int 8])) := g3.new nL
    have nLm : L ≠ m := fun z => by rw [z, upd_same] at nL; cases nL
    have hm4 : (upd (upd H2 m (.lst [])) L (.lst [.int 4, .int 4, .int 8])) m = some (.lst []) := by rw [upd_ne (Ne.symm nLm)]; exact hm3
    have hL4 : (upd (upd H2 m (.lst [])) L (.lst [.int 4, .int 4, .int 8])) L = some (.lst [.int 4, .int 4, .int 8]) := upd_same
    generalize (upd (upd H2 m (.lst [])) L (.lst [.int 4, .int 4, .int 8])) = H4 at hD4 g4 hm4 hL4 ⊢
    refine ⟨.ref d, rfl, d, l, ns, _, rfl, hD4, by omega, by omega, fun r3 H5 hr3 hD5 o5 => ?_⟩
    have nmd : m ≠ d := hD2.ne nm
    have nLd : L ≠ d := hD3.ne nL
    have hL5 : H5 L = some (.lst [.int 4, .int 4, .int 8]) := by rw [o5 _ nLd]; exact hL4
    have hm5 : H5 m = some (.lst []) := by rw [o5 _ nmd]; exact hm4
    have g5 : Gr d H H5 := g4.off o5
    obtain ⟨c, hc4, hc8, hc⟩ : ∃ c : Int, 4 ≤ c ∧ c ≤ 8 ∧ ([.int 4, .int 4, .int 8] : List V)[r3]? = some (.int c) := by
      have h3 : r3 < 3 := by omega
      match r3, h3 with
      | 0, _ => exact ⟨4, by decide, by decide, rfl⟩
      | 1, _ => exact ⟨4, by decide, by decide, rfl⟩
      | 2, _ => exact ⟨8, by decide, by decide, rfl⟩
    refine ⟨L, _, _, _, rfl, rfl, SqL.of hL5, atI_nat hc, d, l, ns, _, rfl, hD5, by omega, by omega, fun cnt H6 hr6 hD6 o6 => ?_⟩
    have hm6' : H6 m = some (.lst []) := by rw [o6 _ nmd]; exact hm5
    have g6 : Gr d H H6 := g5.off o6
    refine ⟨1, cnt, rfl, rfl, _, rfl, by omega, by omega, ?_⟩
    have en : ((1 : Int) + (cnt : Int)).toNat = 1 + cnt := by omega
    refine for_range (lo := 0) (n := ((1 : Int) + (cnt : Int)).toNat)
      (fun i σ H' => ∃ y5 y6 y7 ms ws, σ = [some (.ref d), some (.int (most : Int)), some (.int ((1 : Int) + (r : Int))), some (.int (way : Int)), some (.ref m), y5, y6, y7, none] ∧
        Dc K l ns H' d ∧ Gr d H H' ∧ H' m = some (.lst ws) ∧ MovesAt H' ws ms ∧ ms.length = i ∧ ∀ mv ∈ ms, GoodMv many mv)
      ⟨none, none, none, [], [], rfl, hD6, g6, hm6', .nil, rfl, fun _ z => nomatch z⟩ ?_ ?_
    · rintro i σ H7 hi ⟨y5, y6, y7, ms, ws, rfl, hD7, g7, hm7, hM7, hl7, hg7⟩
      rw [en] at hi
      -- row = [off(d, many) for place in range(many)]
      refine ⟨_, rfl, _, rfl, by omega, by omega, fun D nD => ?_⟩
      have nDd : D ≠ d := hD7.ne nD
      have er : ((1 : Int) + (r : Int)).toNat = many := by omega
      refine lc_range (lo := 0) (n := ((1 : Int) + (r : Int)).toNat)
        (fun j H' => ∃ row : List Int, H' D = some (.lst (row.map V.int)) ∧ row.length = j ∧ (∀ x ∈ row, 0 ≤ x ∧ x < (many : Int)) ∧ Dc K l ns H' d ∧ Gr d H7 H')
        ⟨[], upd_same, rfl, (fun _ z => nomatch z), hD7.new nD, (Gr.refl d H7).new nD⟩ ?_ ?_
      · rintro j H8 hj ⟨row, hrow, hrl, hrx, hD8, g8⟩
        refine ⟨rfl, .ref d, rfl, _, rfl, d, l, ns, _, rfl, hD8, by omega, by omega, fun x H9 hx hD9 o9 => ?_⟩
        have hrow9 : H9 D = some (.lst (row.map V.int)) := by rw [o9 _ nDd]; exact hrow
        refine ⟨_, hrow9, ?_, row ++ [(x : Int)], ?_, ?_, ?_, hD9.turn hD7 nD nDd, ?_⟩
        · rw [List.length_map, hrl]
          exact small8 (by omega)
        · rw [upd_same, List.map_append]
          rfl
        · rw [List.length_append, hrl]
          rfl
        · intro z hz
          rcases List.mem_append.mp hz with hz | hz
          · exact hrx z hz
          · have e : z = (x : Int) := by simpa using hz
            omega
        · intro b o nb e
          have e8 := g8.off o9 b o nb e
          rw [upd_ne (ne_of_none e nD)]
          exact e8
      · rintro H8 ⟨row, hrow, hrl, hrx, hD8, g8⟩
        have hR : GoodRow many row := ⟨hrl.trans er, hrx⟩
        let Mid : L2.St → Hp → Prop := fun σ H9 => ∃ D9 row, σ = [some (.ref d), some (.int (most : Int)), some (.int ((1 : Int) + (r : Int))), some (.int (way : Int)), some (.ref m), some (.int (0 + (i : Int))), some (.ref D9), y7, none] ∧
          H9 D9 = some (.lst (row.map V.int)) ∧ GoodRow many row ∧ Dc K l ns H9 d ∧ Gr d H7 H9
        have mid0 : Mid [some (.ref d), some (.int (most : Int)), some (.int ((1 : Int) + (r : Int))), some (.int (way : Int)), some (.ref m), some (.int (0 + (i : Int))), some (.ref D), y7, none] H8 := ⟨D, row, rfl, hrow, hR, hD8, g8⟩
        refine ⟨Mid, ⟨_, rfl, rfl, _, rfl, ite2 (fun e => ?_) (fun e => mid0)⟩, ?_⟩
        · -- row = sorted(row)
          refine ⟨_, rfl, D, row, rfl, SqL.of hrow, by omega, fun ns' p hp _ np => ?_⟩
          exact ⟨p, ns', rfl, upd_same, perm_row hp hR, hD8.new np, g8.new np⟩
        · rintro σ9 H9 ⟨D9, row9, rfl, hrow9, hR9, hD9, g9⟩
          refine ⟨Mid, ⟨_, rfl, rfl, _, rfl, ite2 (fun e => ?_) (fun e => ⟨D9, row9, rfl, hrow9, hR9, hD9, g9⟩)⟩, ?_⟩
          · -- row = [max(0, min(many - 1, ..)) ..]
            refine ⟨_, rfl, _, rfl, by omega, by omega, fun D' nD' => ?_⟩
            have nDd' : D' ≠ d := hD9.ne nD'
            refine lc_range (lo := 0) (n := ((1 : Int) + (r : Int)).toNat)
              (fun j H' => ∃ row : List Int, H' D' = some (.lst (row.map V.int)) ∧ row.length = j ∧ (∀ x ∈ row, 0 ≤ x ∧ x < (many : Int)) ∧ Dc K l ns H' d ∧ Gr d H9 H')
              ⟨[], upd_same, rfl, (fun _ z => nomatch z), hD9.new nD', (Gr.refl d H9).new nD'⟩ ?_ ?_
            · rintro j H10 hj ⟨row', hrow', hrl', hrx', hD10, g10⟩
              refine ⟨rfl, _, rfl, _, _, rfl, rfl, _, rfl, .ref d, rfl, d, l, ns, _, rfl, hD10, by omega, by omega, fun x H11 hx hD11 o11 => ?_⟩
              refine ⟨_, _, rfl, rfl, _, _, rfl, rfl, _, _, rfl, _, _, rfl, ?_⟩
              have cl := clamp ((1 : Int) + (r : Int) - 1) (0 + (j : Int) + (x : Int) - 1) (by omega)
              generalize (if (if 0 + (j : Int) + (x : Int) - 1 < (1 : Int) + (r : Int) - 1 then 0 + (j : Int) + (x : Int) - 1 else (1 : Int) + (r : Int) - 1) > 0 then
                (if 0 + (j : Int) + (x : Int) - 1 < (1 : Int) + (r : Int) - 1 then 0 + (j : Int) + (x : Int) - 1 else (1 : Int) + (r : Int) - 1) else 0) = z at cl ⊢
              have hrow9 : H11 D' = some (.lst (row'.map V.int)) := by rw [o11 _ nDd']; exact hrow'
              refine ⟨_, hrow9, ?_, row' ++ [z], ?_, ?_, ?_, hD11.turn hD9 nD' nDd', ?_⟩
              · rw [List.length_map, hrl']
                exact small8 (by omega)
              · rw [upd_same, List.map_append]
                rfl
              · rw [List.length_append, hrl']
                rfl
              · intro y hy
                rcases List.mem_append.mp hy with hy | hy
                · exact hrx' y hy
                · have e : y = z := by simpa using hy
                  omega
              · intro b o nb e
                have e8 := g10.off o11 b o nb e
                rw [upd_ne (ne_of_none e nD')]
                exact e8
            · rintro H10 ⟨row', hrow', hrl', hrx', hD10, g10⟩
              exact ⟨D', row', rfl, hrow', ⟨hrl'.trans er, hrx'⟩, hD10, g9.trans g10⟩
          · rintro σ10 H10 ⟨D10, row, rfl, hrow, hR, hD10, g10⟩
            -- weight = [1, 1 + off(d, 4), 1 + off(d, 99)][off(d, 3)]
            have g10' : Gr d H H10 := g7.trans g10
            refine ⟨.ref d, rfl, d, l, ns, _, rfl, hD10, by omega, by omega, fun x1 H11 hx1 hD11 o11 => ?_⟩
            refine ⟨1, x1, rfl, rfl, .ref d, rfl, d, l, ns, _, rfl, hD11, by omega, by omega, fun x2 H12 hx2 hD12 o12 => ?_⟩
            refine ⟨1, x2, rfl, rfl, (by show 3 ≤ sizeLine; decide), fun W nW => ?_⟩
            have hD13 := hD12.new (o := .lst [.int 1, .int (1 + (x1 : Int)), .int (1 + (x2 : Int))]) nW
            have nWd : W ≠ d := hD12.ne nW
            have g13 : Gr d H10 (upd H12 W (.lst [.int 1, .int (1 + (x1 : Int)), .int (1 + (x2 : Int))])) := (((Gr.refl d H10).off o11).off o12).new nW
            have hW13 : (upd H12 W (.lst [.int 1, .int (1 + (x1 : Int)), .int (1 + (x2 : Int))])) W = some (.lst [.int 1, .int (1 + (x1 : Int)), .int (1 + (x2 : Int))]) := upd_same
            refine ⟨.ref d, rfl, d, l, ns, _, rfl, hD13, by omega, by omega, fun x3 H14 hx3 hD14 o14 => ?_⟩
            have hW14 : H14 W = some (.lst [.int 1, .int (1 + (x1 : Int)), .int (1 + (x2 : Int))]) := by rw [o14 _ nWd]; exact hW13
            have g14 : Gr d H10 H14 := g13.off o14
            obtain ⟨wt, hw1, hw9, hw⟩ : ∃ c : Int, 1 ≤ c ∧ c ≤ 99 ∧ ([.int 1, .int (1 + (x1 : Int)), .int (1 + (x2 : Int))] : List V)[x3]? = some (.int c) := by
              have h3 : x3 < 3 := by omega
              match x3, h3 with
              | 0, _ => exact ⟨1, by decide, by decide, rfl⟩
              | 1, _ => exact ⟨1 + (x1 : Int), by omega, by omega, rfl⟩
              | 2, _ => exact ⟨1 + (x2 : Int), by omega, by omega, rfl⟩
            refine ⟨W, _, _, _, rfl, rfl, SqL.of hW14, atI_nat hw, ?_⟩
            -- moves.append((weight, tuple(row)))
            have nm' : ∀ {H'}, Dc K l ns H' d → H' m = H' m := fun _ => rfl
            have hm14 : H14 m = some (.lst ws) := (g10.trans g14) m _ nmd hm7
            have nD10 : D10 ≠ d := hD10.ne_of hrow fun s0 l k big z => by
              injection z with z
              exact map_int_dl z
            have hrow14 : H14 D10 = some (.lst (row.map V.int)) := g14 D10 _ nD10 hrow
            refine ⟨.ref m, rfl, .inl ⟨rfl, _, SqL.of hm14⟩, .int wt, rfl, .ref D10, rfl, D10, _, rfl, .inl ⟨SqL.of hrow14, fun tq ntq => ?_⟩⟩
            refine ⟨by show 2 ≤ sizeLine; decide, fun tp ntp => ?_⟩
            have g16 : Same H14 (upd (upd H14 tq (.tup (row.map V.int))) tp (.tup [.int wt, .ref tq])) := (same_new ntq).trans (same_new ntp)
            have htp : (upd (upd H14 tq (.tup (row.map V.int))) tp (.tup [.int wt, .ref tq])) tp = some (.tup [.int wt, .ref tq]) := upd_same
            have htq : (upd (upd H14 tq (.tup (row.map V.int))) tp (.tup [.int wt, .ref tq])) tq = some (.tup (row.map V.int)) := by
              rw [upd_ne (ne_of_none upd_same ntp)]
              exact upd_same
            have hD16 := hD14.same g16
            generalize (upd (upd H14 tq (.tup (row.map V.int))) tp (.tup [.int wt, .ref tq])) = H16 at g16 htp htq hD16 ⊢
            have hm16 := g16 m _ hm14
            have gt : Gr d H7 H16 := (g10.trans g14).trans (Gr.of_same g16)
            have hM16 : MovesAt H16 ws ms := hM7.same (gt.tups (K := K) hD7)
            have hl := hM16.length
            refine ⟨m, _, _, rfl, rfl, hm16, by rw [hl]; exact small8 (by omega), ?_⟩
            refine ⟨some (.int (0 + (i : Int))), some (.ref D10), some (.int wt), ms ++ [(wt, row)], ws ++ [.ref tp], rfl, hD16.turn hD2 nm nmd, ?_, upd_same, ?_, by rw [List.length_append, hl7]; rfl, ?_⟩
            · intro b o nb e
              by_cases hb : b = m
              · rw [hb] at e nb
                have z := g2 m o nb e
                rw [nm] at z
                cases z
              · rw [upd_ne hb]
                exact (g7.trans gt) b o nb e
            · refine MovesAt.same (H := H16) ?_ (MovesAt.snoc ⟨tp, tq, rfl, htp, htq⟩ hM16)
              intro b xs e
              rw [upd_ne]
              · exact e
              · intro z
                rw [z, hm16] at e
                cases e
            · intro mv hmv
              rcases List.mem_append.mp hmv with hmv | hmv
              · exact hg7 mv hmv
              · have e : mv = (wt, row) := by simpa using hmv
                subst e
                exact ⟨hw1, hw9, hR⟩
    · rintro σ7 H7 ⟨y5, y6, y7, ms, ws, rfl, hD7, g7, hm7, hM7, hl7, hg7⟩
      refine ⟨_, rfl, .ref m, rfl, (by show 2 ≤ sizeLine; decide), fun t nt => ?_⟩
      refine q t m many ws ms _ ⟨by omega, by omega, by omega, by omega, hg7⟩ (by omega) ⟨?_, same_new nt _ _ hm7, hM7.same (Same.tups (same_new nt))⟩ (hD7.new nt) (g7.new nt)
      rw [← em2]
      exact upd_same
end
end
/-! ### all(x in range(y) for x in a tuple of ints): a rule of our own -/
/-- the element: x in range(y), y a captured int -/
def eltR (x y : Str) (p1 p2 p3 p4 p5 : Pos) : Expr := .Compare (.Name x p1) [.In] [.Call (.Name "range" p2) [.Name y p3] [] p4] p5
def inR (n z : Int) : Bool := decide (0 ≤ z ∧ z < n)
theorem elt_range {prog : Program} {w : World} {cenv : Env} {A : Around} {E : Value → Shared → Prop} {x y : Str} {p1 p2 p3 p4 p5 : Pos} {s : Shared} {m mg mb : Str → Option Value} {cc : Addr} {z n : Int} {t u : Tok}
    (kf : cenv.scope.kind = .function) (kx : cenv.kindOf x = some .local) (ky : cenv.kindOf y = some .free) (kr : cenv.kindOf "range" = some .globalImplicit) (hm : s.heap.Ns cenv.locals m) (ex : m x = some (.int z t))
    (hc : cenv.cells.lookup y = some cc) (ec : s.heap.IsCell cc (some (.int n u))) (hg : s.heap.Ns cenv.globals mg) (nr : mg "range" = none) (hb : s.heap.Ns cenv.builtins mb) (br : mb "range" = some (.type "range"))
    (dx : (x == ("__debug__" : Str)) = false) (dy : (y == ("__debug__" : Str)) = false) (cy : (y == ("__classdict__" : Str)) = false) :
    wpAny (model prog w) A (eval (eltR x y p1 p2 p3 p4 p5) cenv) (fun v s' => v = .bool (inR n z) ∧ Keeps s s') E s := by
  refine wpAny_Compare1 (wpAny_Name (wpAny_loadName_local kf kx hm ex ?_) dx) (by rfl)
  refine wpAny_Call_Name_kw (Calls.Name_function_global kf kr (Calls.loadGlobal_builtin hg nr hb br ?_) (by decide))
  refine PyProof.Rows.callWith_type1 (Calls.spliced_cons (wpAny_Name (wpAny_loadName_free kf ky hc ec ?_ cy) dy)) (by rfl) (by rfl)
  refine Calls.spliced_nil (call_range_1 ?_)
  have ho := Heap.get?_push_size s.heap (o := { cls := .type "range", data := .fields #[.int 0 s.toks, .int n u, .int 1 (s.toks + 1)] }) rfl
  show wpAny _ _ (do return Value.bool (← contains (Value.ref s.heap.objs.size) (Value.int z t))) _ _ _
  refine wpAny_bind (wpAny_contains_slot (T := "range") ⟨_, ho, rfl⟩ F.slot_range_contains (call_meets F.slot_range_contains ⟨_, ho, rfl⟩ F.entry_range_contains (F.args_range_contains_2 _ _) (q_contains s.heap.objs.size 0 n z s.toks u (s.toks + 1) t) ⟨ho, ?_⟩))
  refine wpAny_truthy_bool (wpAny_pure ⟨?_, _, _, rfl, fun b o e => Heap.get?_push_of_some _ e⟩)
  rw [place1]
  rfl
open GxR in
/-- the walk that all(..) makes, once the generator stands at g -/
def AllReady (X : Cx) (pins : List (Addr × Obj)) (σ : L2.St) (H1 : Hp) (P : Addr) (bs : List Bool) (g : Addr) (s5 : Shared) : Prop :=
  ∃ (fp wr : List Addr) (G : Array GenState → Array GenState → Prop) (F : Nat → Value → Prop) (St : Nat → Shared → Prop) (tr : Nat → Bool),
    WalksS X.prog X.w X.A.in1 g fp wr G bs.length F St ∧ St 0 s5 ∧ TruthOf X.prog X.w X.A.in1 F tr ∧ (∀ j b, bs[j]? = some b → tr j = b) ∧
    ∀ s', Moved wr G s5 s' → ∃ H2, Tabbed P H1 H2 ∧ Inv X pins σ H2 s'
theorem clo_one {cells : List (Str × Addr)} : ∀ (names : List (Str × NameKind)) (acc : List (Str × Addr)) (y : Str) (cc : Addr), (∀ p ∈ names, p.2 = .free → cells.lookup p.1 = some ((cells.lookup p.1).getD 0)) → cells.lookup y = some cc →
    ((y, NameKind.free) ∈ names ∨ acc.lookup y = some cc) → (cloFrom cells names acc).lookup y = some cc := by
  intro names
  induction names with
  | nil =>
    intro acc y cc _ _ h
    rcases h with h | h
    · cases h
    · exact h
  | cons p r ih =>
    intro acc y cc hf hy h
    obtain ⟨n, kd⟩ := p
    unfold cloFrom
    have hf' : ∀ p ∈ r, p.2 = .free → cells.lookup p.1 = some ((cells.lookup p.1).getD 0) := fun p hp => hf p (List.mem_cons_of_mem _ hp)
    by_cases hk : (kd == NameKind.free) = true
    · rw [if_pos hk]
      refine ih _ y cc hf' hy ?_
      by_cases hn : y = n
      · subst hn
        refine .inr ?_
        rw [List.lookup_cons_self, hy]
        rfl
      · rcases h with h | h
        · rcases List.mem_cons.mp h with e | e
          · injection e with e1 _
            exact absurd e1 hn
          · exact .inl e
        · refine .inr ?_
          rw [List.lookup_cons, show (y == n) = false from by simpa using hn]
          exact h
    · rw [if_neg hk]
      refine ih _ y cc hf' hy ?_
      rcases h with h | h
      · rcases List.mem_cons.mp h with e | e
        · injection e with _ e2
          exact absurd (by rw [← e2]; rfl) hk
        · exact .inl e
      · exact .inr h
/-- the generator's code object: there already, or made and put into the table -/
theorem gen_code {M : Model} {A : Around} {env : Env} {c P : Addr} {gpos : Pos} {q : Str} {scope : Scope} {E : Value → Shared → Prop} {Q : Value → Shared → Prop} {s : Shared} {ps : Array Value} (hcode : env.code = .ref c) (cd : PySem.W.CodeHd s.heap c P)
    (hP : s.heap.get? P = some { cls := .none, data := .fields ps }) (ht : TriplesOk ps.toList)
    (h : ∀ (code : Value) (h3 : Heap) (tk : Nat) (more : Array Value), Heap.ExtBut P s.heap h3 → s.heap.objs.size ≤ h3.objs.size → h3.get? P = some { cls := .none, data := .fields (ps ++ more) } → TriplesOk (ps ++ more).toList → Q code { s with heap := h3, toks := tk }) :
    wpAny M A (genexprCode env gpos q scope) Q E s := by
  match hf : codeAmong gpos ps.toList with
  | some cv => exact wpAny_genexprCode_hit hcode (cd.code hP ht) hf (h cv s.heap s.toks #[] (Heap.ExtBut.refl _ _) (Nat.le_refl _) (by rw [Array.append_empty]; exact hP) (by rw [Array.append_empty]; exact ht))
  | none =>
    refine wpAny_genexprCodeX hcode (cd.code hP ht) (cd.tab hP) hf fun c' h' tk hx hge hlt hco _ htab _ => h _ h' tk _ hx (Nat.le_trans hge (Nat.le_of_lt hlt)) htab.2 ?_
    obtain ⟨_, _, _, _, _, _, _, _, _, _, _, _, _, _, _, _, _, _, _, htr, _⟩ := hco
    exact htr
section
variable {X : Cx} {pins : List (Addr × Obj)} {σ : L2.St} {H : Hp} {s : Shared}
open GxR in
theorem gen_range {c P : Addr} {iter : Expr} {x y : Str} {px gpos p1 p2 p3 p4 p5 : Pos} {scope : Scope} {te : TE} {k i : Nat} {Q' : Value → Shared → Prop} {R : List Int → Int → Hp → Prop}
    (hr : Room k X.A) (TB : TabB X.base X.mg c P) (hcode : X.env.code = .ref c) (S : GenS X.env scope x) (hi : PE X iter te) (hy : X.N[i]? = some y) (vy : X.env.kindOf y = some .cell) (fy : (y, NameKind.free) ∈ scope.names) (ly : scope.names.lookup y = some .free)
    (lr : scope.names.lookup ("range" : Str) = some .globalImplicit) (nr : X.mg "range" = none) (dx : (x == ("__debug__" : Str)) = false) (dy : (y == ("__debug__" : Str)) = false) (cy : (y == ("__classdict__" : Str)) = false)
    (hs : ∀ v, genFold iter X.env v = pure v) (I : Inv X pins σ H s) (h : te σ H fun v H1 => ∃ (a : Addr) (ns : List Int) (n : Int), v = .ref a ∧ SqT X.K H1 a (ns.map V.int) ∧ TabG H1 P ∧ σ[i]? = some (some (.int n)) ∧ R ns n H1)
    (hQ : ∀ ns n H1 g s5, R ns n H1 → AllReady X pins σ H1 P (ns.map (inR n)) g s5 → Q' (.ref g) s5) :
    wpAny (model X.prog X.w) X.A (eval (.GeneratorExp (eltR x y p1 p2 p3 p4 p5) [⟨.Name x px, iter, [], 0⟩] scope gpos) X.env) Q' X.xe s := by
  refine wpAny_GeneratorExp_walksQ hr.hd S.co (closure_ok S.free) S.cell S.dot S.loc S.kind (by have := hr.dp; omega) ?_ hs
  refine thn (hi.run pins s σ H _ I h) fun xv s1 ⟨v, H1, I1, r1, a, ns, n, ev, hT, hTab, hn, hR⟩ => ?_
  subst ev
  obtain rfl : xv = Value.ref a := r1
  obtain ⟨its, rv, hTup, hz⟩ := I1.tuple hT
  have tupAt : s1.heap.IsTuple a its.toArray := hTup
  -- the captured int
  obtain ⟨cc, u, hcc, hcell⟩ : ∃ (cc : Addr) (u : Tok), X.env.cells.lookup y = some cc ∧ s1.heap.IsCell cc (some (.int n u)) := by
    obtain ⟨m, _, hl⟩ := I1.loc
    obtain ⟨uv, ru, lk⟩ := hl i y (.int n) hy hn (.inr (.inl vy))
    obtain ⟨u, eu⟩ := ru
    subst eu
    rcases lk with ⟨k1, _⟩ | ⟨_, cc, e1, e2⟩
    · rw [vy] at k1
      cases k1
    · exact ⟨cc, u, e1, e2⟩
  obtain ⟨mb, bb1, bb2⟩ := I1.mod.blt
  have lenI : its.toArray.size = ns.length := by
    have e := rv.length
    rw [List.length_map] at e
    simp only [List.size_toArray]
    omega
  obtain ⟨ps, hP, hps⟩ := hTab
  refine wpAny_pyIter_tuple tupAt ?_
  -- it: the iterator's object
  let it : Obj := { cls := .type "tuple_iterator", data := .fields #[.ref a, .int 0 0] }
  have atP : s1.heap.get? P = some { cls := .none, data := .fields ps } := I1.hok P _ hP
  have ltP : P < s1.heap.objs.size := Heap.lt_size atP
  have limI : (s1.heap.push it).NoLimit := I1.nolimit.push it
  have keepI : ∀ b o, s1.heap.get? b = some o → (s1.heap.push it).get? b = some o := fun b o e => Heap.get?_push_of_some _ e
  have codeI : PySem.W.CodeHd (s1.heap.push it) c P := TB.code.keeps fun b o e => keepI b o (I1.bk b o e)
  have ltS : cStatics < s1.heap.objs.size := let ⟨_, q, _⟩ := I1.nolimit; q.lt
  have neS : cStatics ≠ P := fun e => by
    obtain ⟨_, ⟨o', es, ep, g1, g2, _⟩, _⟩ := I1.nolimit
    rw [e, atP] at g1
    cases g1
    cases g2
  have szI : (s1.heap.push it).objs.size = s1.heap.objs.size + 1 := Heap.size_push ..
  have iterI : (s1.heap.push it).IsTupleIter s1.heap.objs.size a 0 := ⟨_, Heap.get?_push_size _ rfl, rfl, rfl⟩
  have tupI : (s1.heap.push it).IsTuple a its.toArray := by
    obtain ⟨o, e, r⟩ := tupAt
    exact ⟨o, keepI _ _ e, r⟩
  have neIt : a ≠ s1.heap.objs.size := by
    obtain ⟨o, e, _⟩ := tupAt
    exact Nat.ne_of_lt (Heap.lt_size e)
  have neAP : a ≠ P := fun e => by
    obtain ⟨o, g, _, nn, dd⟩ := tupAt
    rw [e, atP] at g
    cases g
    cases dd
  have Wk : ∀ A' : Around, A'.handled = none → Walks X.prog X.w A' s1.heap.objs.size [s1.heap.objs.size, a] [s1.heap.objs.size] its.toArray.size (fun j v => its.toArray[j]? = some v) (fun j hp => hp.IsTupleIter s1.heap.objs.size a j ∧ hp.IsTuple a its.toArray) :=
    fun A' hA => Walks.tuple hA s1.heap.objs.size a neIt its.toArray
  refine ⟨limI, gen_code hcode codeI (keepI _ _ atP) hps fun code h3 tk more hx hge hP3 ht3 => ?_⟩
  have hge2 : s1.heap.objs.size + 1 ≤ h3.objs.size := by
    rw [← szI]
    exact hge
  have keep3 : ∀ b o, b ≠ P → s1.heap.get? b = some o → h3.get? b = some o := fun b o nb e => hx b o nb (keepI b o e)
  obtain ⟨bm, ob, f1, f2, f3, f4, f5, f6, f7, f8⟩ := TB.bm
  have glob3 : h3.Ns X.env.globals X.mg := by
    rw [I1.ok.glob]
    exact ((I1.mod.glob.keeps I1.bk).push it).extBut hx TB.gP
  refine wpAny_builtinsFor (m := X.mg) glob3 f1 f2 (keep3 _ _ f4 (I1.bk _ _ f5)) f6 f7 f8 ?_
  refine ⟨s1.heap.objs.size, [s1.heap.objs.size, a], [s1.heap.objs.size], its.toArray.size, fun j v => its.toArray[j]? = some v, _, fun _ => true, fun j v => ∃ z, ns[j]? = some z ∧ v = .bool (inR n z), rfl, Wk, ?_, ?_, limI.extBut hx neS, ?_, ?_, ?_⟩
  · refine ⟨?_, ?_⟩
    · obtain ⟨o, e, r⟩ := iterI
      exact ⟨o, hx _ _ (Nat.ne_of_gt ltP) e, r⟩
    · obtain ⟨o, e, r⟩ := tupI
      exact ⟨o, hx _ _ neAP e, r⟩
  · intro b hb
    show b < h3.objs.size
    rcases List.mem_cons.mp hb with e | e
    · rw [e]
      exact Nat.lt_of_succ_le hge2
    · have e2 : b = a := by simpa using e
      obtain ⟨o, g, _⟩ := tupAt
      have lta := Heap.lt_size g
      rw [e2]
      exact Nat.lt_of_lt_of_le lta (by omega)
  · intro hmem
    have e : cStatics = s1.heap.objs.size := by simpa using hmem
    rw [e] at ltS
    exact Nat.lt_irrefl _ ltS
  · intro href hhref
    refine ⟨fun A' E' j v s₂ m₂ hA hPv ha2 hb2 hk => ?_, fun A' E' j v s₂ m₂ hA hPv _ ha2 hb2 hk => ?_⟩
    · simp only [List.forIn_nil]
      exact wpAny_pure ⟨rfl, s₂.heap, s₂.toks, rfl, fun _ _ e => e⟩
    · -- what stood ahead of the generator stands
      have old : ∀ b o, b ≠ P → s1.heap.get? b = some o → s₂.heap.get? b = some o := fun b o nb e => by
        refine hk b (List.mem_range.mpr ?_) (fun z => ?_) o (hhref b o (keep3 b o nb e))
        · exact Nat.lt_of_lt_of_le (Heap.lt_size e) (by show s1.heap.objs.size ≤ h3.objs.size; omega)
        · have e2 : b = s1.heap.objs.size := by simpa using z
          exact Nat.ne_of_lt (Heap.lt_size e) e2
      have nPb : ∀ b o, X.base.get? b = some o → b ≠ P := fun b o e z => by
        have q := (I1.bs b o e).2
        rw [z, hP] at q
        cases q
      have hjv : its[j]? = some v := by simpa using hPv
      obtain ⟨zv, ez, rz⟩ : ∃ z, ns[j]? = some z ∧ RelV (.int z) v := by
        have hj : j < ns.length := by
          obtain ⟨h, _⟩ := List.getElem?_eq_some_iff.mp hjv
          simpa [lenI] using (show j < its.toArray.size by simpa using h)
        obtain ⟨uu, g1, g2⟩ := rv.get (i := j) (x := .int ns[j]) (by rw [List.getElem?_map, List.getElem?_eq_getElem hj]; rfl)
        rw [hjv] at g1
        cases g1
        exact ⟨_, List.getElem?_eq_getElem hj, g2⟩
      obtain ⟨tz, rfl⟩ := rz
      have cellS : s₂.heap.IsCell cc (some (.int n u)) := by
        obtain ⟨o, e, d⟩ := hcell
        refine ⟨o, old _ _ (fun z => ?_) e, d⟩
        rw [z, atP] at e
        cases e
        cases d
      have gS : s₂.heap.Ns mainGlobals X.mg := by
        obtain ⟨o, es, ep, e, r⟩ := I1.mod.glob
        exact ⟨o, es, ep, old _ _ (nPb _ _ e) (I1.bk _ _ e), r⟩
      have bS : s₂.heap.Ns builtinsNs mb := by
        obtain ⟨o, es, ep, e, r⟩ := bb1
        exact ⟨o, es, ep, old _ _ (nPb _ _ e) (I1.bk _ _ e), r⟩
      have hclo : (cloFrom X.env.cells scope.names []).lookup y = some cc := clo_one _ _ _ _ (fun p hp hf => by
        obtain ⟨c', ec'⟩ := S.free p hp hf
        rw [ec']
        rfl) hcc (.inl fy)
      refine thn (elt_range (x := x) (y := y) S.kind S.loc ly lr ha2 hb2 hclo cellS (mg := X.mg) (by show s₂.heap.Ns X.env.globals X.mg; rw [I1.ok.glob]; exact gS) nr bS ((bb2 "range" (by decide)).trans (by decide +kernel)) dx dy cy) fun v' s3 hv => ⟨⟨zv, ez, hv.1⟩, hv.2⟩
  · intro g h5 tk5 gs hbare hag hsz5 hk5 W5 hat
    have e0 : passing (fun _ => true) its.toArray.size 0 = List.range its.toArray.size := GxR.passing_true _
    rw [e0] at W5
    rw [List.length_range, lenI] at W5
    have oldA : ∀ b o, s1.heap.get? b = some o → b ∉ h3.objs.size :: [s1.heap.objs.size] := fun b o e hb => by
      have l0 := Heap.lt_size e
      rcases List.mem_cons.mp hb with z | z
      · rw [z] at l0
        exact absurd (Nat.lt_of_lt_of_le l0 (Nat.le_of_succ_le hge2)) (Nat.lt_irrefl _)
      · have z2 : b = s1.heap.objs.size := by simpa using z
        exact Nat.ne_of_lt l0 z2
    have W6 := W5.in4_1
    rw [show ns.length = (ns.map (inR n)).length from (List.length_map _).symm] at W6
    rw [lenI, show ns.length = (ns.map (inR n)).length from (List.length_map _).symm] at hat
    refine hQ ns n H1 g _ hR ⟨_, _, _, _, _, fun j => (ns.map (inR n)).getD j false, W6, hat, ?_, fun j b hb => by show (ns.map (inR n)).getD j false = b; rw [List.getD_eq_getElem?_getD, hb]; rfl, fun s' hm => ?_⟩
    · intro j yv sj Qj Ej hy hQj
      obtain ⟨i', hij, z, hz', rfl⟩ := hy
      obtain ⟨hj, ej⟩ := List.getElem?_eq_some_iff.mp hij
      rw [List.getElem_range] at ej
      subst ej
      refine wpAny_truthy_bool ?_
      have eb : (ns.map (inR n)).getD j false = inR n z := by
        rw [List.getD_eq_getElem?_getD, List.getElem?_map, hz']
        rfl
      have hQj' : Qj ((ns.map (inR n)).getD j false) sj := hQj
      rw [eb] at hQj'
      exact hQj'
    · have J := inv_tab (more := more) (h' := s'.heap) (g' := s'.gens) (d' := s'.drawn) (t' := s'.toks) I1 hP (fun b o nb e => hm.heap b o (oldA b o e) (hk5 b o (keep3 b o nb e))) (hm.heap P _ (oldA P _ atP) (hk5 P _ hP3)) (AllBare.movedS (I1.bare.push hbare) hm)
      rw [sh_eta s1 s' hm.os] at J
      exact ⟨upd H1 P (.tbl (ps ++ more)), ⟨⟨ps ++ more, upd_same, ht3⟩, fun b hb => upd_ne hb⟩, J⟩
/-- all(x in range(y) for x in e): e a tuple of ints, y an int in slot i -/
def tAllR (K : PySem.W.Frag) (P : Addr) (i : Nat) (te : TE) : TE := fun σ H Q => te σ H fun v H1 => ∃ (a : Addr) (ns : List Int) (n : Int), v = .ref a ∧ SqT K H1 a (ns.map V.int) ∧ GxR.TabG H1 P ∧ σ[i]? = some (some (.int n)) ∧
  ∀ H2, GxR.Tabbed P H1 H2 → Q (.bl (ns.all (inR n))) H2
theorem all_tr : ∀ (bs : List Bool) (tr : Nat → Bool), (∀ j b, bs[j]? = some b → tr j = b) → (List.range bs.length).all tr = bs.all id := by
  intro bs tr h
  rw [Bool.eq_iff_iff, List.all_eq_true, List.all_eq_true]
  constructor
  · intro g b hb
    obtain ⟨j, hj, e⟩ := List.getElem_of_mem hb
    have q := g j (List.mem_range.mpr hj)
    rw [h j b (by rw [List.getElem?_eq_getElem hj, e])] at q
    exact q
  · intro g j hj
    have hj' := List.mem_range.mp hj
    rw [h j bs[j] (List.getElem?_eq_getElem hj')]
    exact g _ (List.getElem_mem hj')
theorem pe_allR {c P : Addr} {iter : Expr} {x y : Str} {px p pos gpos p1 p2 p3 p4 p5 : Pos} {scope : Scope} {te : TE} {k i : Nat}
    (hr : Room k X.A) (hg : Gl X "all") (hm : X.mg "all" = none) (TB : GxR.TabB X.base X.mg c P) (hcode : X.env.code = .ref c) (S : GxR.GenS X.env scope x) (hi : PE X iter te) (hy : X.N[i]? = some y) (vy : X.env.kindOf y = some .cell) (fy : (y, NameKind.free) ∈ scope.names) (ly : scope.names.lookup y = some .free)
    (lr : scope.names.lookup ("range" : Str) = some .globalImplicit) (nr : X.mg "range" = none) (dx : (x == ("__debug__" : Str)) = false) (dy : (y == ("__debug__" : Str)) = false) (cy : (y == ("__classdict__" : Str)) = false)
    (hs : ∀ v, genFold iter X.env v = pure v)
    (he : starEach [.GeneratorExp (eltR x y p1 p2 p3 p4 p5) [⟨.Name x px, iter, [], 0⟩] scope gpos] X.env = (false, eval (.GeneratorExp (eltR x y p1 p2 p3 p4 p5) [⟨.Name x px, iter, [], 0⟩] scope gpos) X.env) :: starEach [] X.env := by rfl) :
    PE X (.Call (.Name "all" p) [.GeneratorExp (eltR x y p1 p2 p3 p4 p5) [⟨.Name x px, iter, [], 0⟩] scope gpos] [] pos) (tAllR X.K P i te) := by
  refine ⟨fun pins s σ H Q I h => wpAny_Call_Name_kw (ld_blt I hg hm (by decide +kernel) (PyProof.Rows.callWith_builtin1 (id := "all") ?_ he (by rfl)))⟩
  rw [he]
  show wpAny _ _ (spliced (_ :: backTo pos (starEach [] X.env))) _ _ s
  refine Calls.spliced_cons (gen_range (R := fun ns n H1 => ∀ H2, GxR.Tabbed P H1 H2 → Q (.bl (ns.all (inR n))) H2) hr TB hcode S hi hy vy fy ly lr nr dx dy cy hs I h fun ns n H1 g s5 hR ⟨fp, wr, G, F, St', tr, W, hst, htr, hb, hI⟩ => Calls.spliced_nil ?_)
  refine call_all_walkS (W.self 0 _ _ _ hst ⟨g, fp, wr, G, _, F, St', _, rfl, W, hst, htr, fun s' hmv => ?_⟩)
  obtain ⟨H2, hT, J⟩ := hI s' hmv
  refine ⟨.bl _, H2, J, rfl, ?_⟩
  rw [all_tr _ tr hb, List.all_map]
  exact hR H2 hT
end
/-! ### a def of the text whose code object is known -/
structure FunT (K : PySem.W.Frag) (x qual : Str) (st : Stmt) (f : Addr) (fd : FuncData) (c : Addr) : Prop where
  ex : ∃ (oc : Value) (od : Option Addr) (kV doc pm : Value) (an : Option Addr) (ct : Value) (osl : Array (Option Value)),
    fd = PySem.W.fnOf x qual (defArgs st) (defBody st) (defScope st) .none kV doc pm an (.ref c) ct ∧ K.lookup f = some ⟨oc, od, .func fd, osl⟩ ∧ PySem.W.codeIn K (.ref c) qual = true
  kp : PySem.W.keepIn K (.ref f) = true
/-- x not in range(..) -/
theorem op_notIn_rng {X : Cx} : OpR X (compareOp .NotIn) (fun x y H Q => ∃ i a lo hi, x = V.int i ∧ y = V.ref a ∧ H a = some (.rng lo hi) ∧ Q (.bl (!decide (lo ≤ i ∧ i < hi))) H) := by
  intro pins s σ H x y v u Q I rx ry ⟨i, a, lo, hi, ex, ey, ha, q⟩
  subst ex ey
  obtain ⟨k, rfl⟩ := rx
  have e2 : u = Value.ref a := ry
  subst e2
  obtain ⟨t1, t2, t3, ho⟩ := I.hok a _ ha
  show wpAny _ _ (do return Value.bool (!(← contains (Value.ref a) (Value.int i k)))) _ _ s
  refine wpAny_bind (wpAny_contains_slot (T := "range") ⟨_, ho, rfl⟩ F.slot_range_contains (call_meets F.slot_range_contains ⟨_, ho, rfl⟩ F.entry_range_contains (F.args_range_contains_2 _ _) (q_contains a lo hi i t1 t2 t3 k) ⟨ho, wpAny_truthy_bool ?_⟩))
  refine wpAny_pure ⟨.bl _, H, I, rfl, ?_⟩
  rw [place1]
  exact q
section
variable {P : Program} {w : World} {K : PySem.W.Frag} {mg : Str → Option Value} {base : Heap}
/-! ### _is_move -/
theorem scIsMove : FnScope ["many", "move", "weight", "whither"] ["many", "move"] (defScope sIsMove) := ⟨rfl, rfl, rfl, by decide +kernel, rfl, by decide +kernel, by decide +kernel⟩
def isMv (many : Int) (m : Mv) : Bool := decide (1 ≤ m.1 ∧ m.1 < 100) && decide ((m.2.length : Int) = many) && m.2.all (inR many)
def spIsMove (T : Addr) : Sp := fun vs H Q _ => ∃ (many : Int) (v : V) (m : Mv), vs = [.int many, v] ∧ MoveAt H v m ∧ GxR.TabG H T ∧ ∀ H', Gr T H H' → GxR.TabG H' T → Q (.bl (isMv many m)) H'
/-- the program's names that a chain leans on -/
structure ChTxt (K : PySem.W.Frag) (mg : Str → Option Value) (fM cM tM : Addr) (fdM : FuncData) (C fI : Addr) (fdI : FuncData) : Prop where
  FM : FunT K "_is_move" "_is_move" sIsMove fM fdM cM
  bM : Binds K fdM ["many", "move"] []
  gM : mg "_is_move" = some (.ref fM)
  FI : Fun K "__init__" "Chain.__init__" (inClass cChain 0) fI fdI
  bI : Binds K fdI ["self", "many", "moves"] []
  mC : Mk K C fI
  cl : Cls K C
  nM : NoAttr K C "_many"
  nV : NoAttr K C "_moves"
  gC : mg "Chain" = some (.ref C)
  gP : ∃ t, mg "MOST_PLACES" = some (.int 6 t)
  gV : ∃ t, mg "MOST_MOVES" = some (.int 8 t)
  gW : ∃ t, mg "MOST_WEIGHT" = some (.int 99 t)
  ml : mg "len" = none
  mi : mg "isinstance" = none
  mt : mg "tuple" = none
  mr : mg "range" = none
  ma : mg "all" = none
  me : mg "enumerate" = none
  mL : mg "list" = none
section
variable {fM cM tM : Addr} {fdM : FuncData} {C fI : Addr} {fdI : FuncData}
theorem genS_move {L f : Addr} {cdv : Value} {scope : Scope} (hs : scope.names = [((".0" : Str), .local), (("place" : Str), .local), (("many" : Str), .free), (("range" : Str), .globalImplicit)]) (hk : scope.kind = .function) (hc : scope.isCoroutine = false) (ha : (envOfC "_is_move" (defScope sIsMove) L f cdv).cells.lookup ("many" : Str) ≠ none) :
    GxR.GenS (envOfC "_is_move" (defScope sIsMove) L f cdv) scope "place" := by
  refine ⟨hk, hc, ?_, ?_, ?_, ?_⟩
  · rw [hs]
    decide +kernel
  · rw [hs]
    decide +kernel
  · rw [hs]
    decide +kernel
  · intro y hy hf
    rw [hs] at hy
    have e : y.1 = ("many" : Str) := by
      rcases List.mem_cons.mp hy with e | hy
      · rw [e] at hf
        cases hf
      rcases List.mem_cons.mp hy with e | hy
      · rw [e] at hf
        cases hf
      rcases List.mem_cons.mp hy with e | hy
      · rw [e]
      rcases List.mem_cons.mp hy with e | hy
      · rw [e] at hf
        cases hf
      · cases hy
    rw [e]
    cases q : (envOfC "_is_move" (defScope sIsMove) L f cdv).cells.lookup ("many" : Str) with
    | none => exact absurd q ha
    | some c => exact ⟨c, rfl⟩
theorem ok_ismove (T : ChTxt K mg fM cM tM fdM C fI fdI) (TB : GxR.TabB base mg cM tM) : FnOk P w K mg base CX0 1 fM fdM ["many", "move"] (spIsMove tM) := by
  obtain ⟨oc, od, kV, doc, pm, an, ct, osl, efd, lk, hcd⟩ := T.FM.ex
  subst efd
  obtain ⟨tw, gW⟩ := T.gW
  refine fn_of (N := ["many", "move", "weight", "whither"]) lk hcd scIsMove (fun vs H Q E h => ?_) (fun A outer s H vs Q E hr h => ?_)
  · obtain ⟨many, v, m, rfl, _⟩ := h
    rfl
  · obtain ⟨many, v, m, rfl, ⟨a, b, rfl, ha, hb⟩, hTab, q⟩ := h
    refine ⟨_, pss_cons (ps_if (PW.pt (pw_or (pt_not (pt_val (pe_callB RZ.call_isTy (by rfl) T.mi (by decide +kernel) (pa_cons (pv 1) (pa_cons (pe_bltn (v := .ty "tuple") (by rfl) T.mt (by decide +kernel) rfl) pa_nil)))))
          (pw_or1 (pt_cmpR op_ne (pe_callB call_len_seq (by rfl) T.ml PySem.boot_len (pa_cons (pv 1) pa_nil)) pe_int (nomark _))))) (pss_one (ps_ret pe_bl)) pss_nil)
      (pss_cons (ps_asg (pv 1) (pg_tup rfl (pgs_cons (pg_name (i := 2) scIsMove.nd rfl (.inl rfl)) (pgs_cons (pg_name (i := 3) scIsMove.nd rfl (.inl rfl)) pgs_nil))))
      (pss_cons (ps_if (pt_cmpR op_notIn_rng (pv 2) (pe_callTy cr_range2 (by rfl) T.mr (by decide +kernel) (pa_cons pe_int (pa_cons (pe_op op_add (pe_glob (v := .int 99) (by rfl) gW ⟨_, rfl⟩) pe_int) pa_nil))) rfl) (pss_one (ps_ret pe_bl)) pss_nil)
      (pss_cons (ps_if (PW.pt (pw_or (pt_not (pt_val (pe_callB RZ.call_isTy (by rfl) T.mi (by decide +kernel) (pa_cons (pv 3) (pa_cons (pe_bltn (v := .ty "tuple") (by rfl) T.mt (by decide +kernel) rfl) pa_nil)))))
          (pw_or1 (pt_cmpR op_ne (pe_callB call_len_seq (by rfl) T.ml PySem.boot_len (pa_cons (pv 3) pa_nil)) (pv 0) (nomark _))))) (pss_one (ps_ret pe_bl)) pss_nil)
      (pss_one (ps_ret (pe_allR (k := 0) (x := "place") (y := "many") (i := 0) hr (by rfl) T.ma TB rfl (genS_move (by rfl) rfl rfl ?hcell) (pv 3) rfl rfl (by decide +kernel) (by decide +kernel) (by decide +kernel) T.mr (by decide) (by decide) (by decide) (fun _ => rfl) (by rfl))))))), ?_⟩
    case hcell =>
      intro z
      have q : ((envOfC "_is_move" (defScope sIsMove) s.heap.objs.size fM (.ref cM)).cells.lookup ("many" : Str)).isSome = true := PySem.W.cellsFrom_some _ _ _ (.inl (by decide +kernel))
      rw [z] at q
      cases q
    have neT : ∀ {p : Addr}, H p = none → p ≠ tM := fun np z => by
      obtain ⟨ps, e, _⟩ := hTab
      rw [z, e] at np
      cases np
    refine ⟨.ref a, rfl, .ref a, "tuple", rfl, .tup ha, true, rfl, ?_⟩
    refine ⟨.ref a, rfl, a, _, rfl, .inr (SqT.of ha), rfl, _, rfl, iteNS rfl ?_⟩
    refine ⟨.ref a, rfl, a, _, rfl, SqT.of ha, rfl, .int m.1, [.ref b], rfl, .ref b, [], rfl, rfl, ?_⟩
    refine ⟨.int m.1, rfl, 99, 1, rfl, rfl, 1, 100, rfl, fun r nr => ⟨m.1, r, 1, 100, rfl, rfl, upd_same, _, rfl, ?_⟩⟩
    have g1 : Same H (upd H r (.rng 1 100)) := same_new nr
    have tab1 : GxR.TabG (upd H r (.rng 1 100)) tM := by
      obtain ⟨ps, e, t⟩ := hTab
      exact ⟨ps, g1 _ _ e, t⟩
    have hb1 := g1 _ _ hb
    by_cases h1 : 1 ≤ m.1 ∧ m.1 < 100
    · refine iteNS h1 ?_
      refine ⟨.ref b, rfl, .ref b, "tuple", rfl, .tup hb1, true, rfl, ?_⟩
      refine ⟨.ref b, rfl, b, _, rfl, .inr (SqT.of hb1), .int many, rfl, rfl, _, rfl, ?_⟩
      by_cases h2 : (((m.2.map V.int).length : Nat) : Int) = many
      · refine iteNS (congrArg V.int h2) ?_
        refine ⟨.ref b, rfl, b, m.2, many, rfl, SqT.of hb1, tab1, rfl, fun H2 ⟨t2, k2⟩ => ?_⟩
        have e : isMv many m = m.2.all (inR many) := by
          unfold isMv
          rw [List.length_map] at h2
          rw [decide_eq_true h1, decide_eq_true h2, Bool.true_and, Bool.true_and]
        have q2 := q H2 (fun x o nx ex => by rw [k2 x nx]; exact g1 _ _ ex) t2
        rw [e] at q2
        exact q2
      · have e : isMv many m = false := by
          unfold isMv
          rw [List.length_map] at h2
          rw [decide_eq_false h2, Bool.and_false, Bool.false_and]
        have q2 := q _ (Gr.of_same g1) tab1
        rw [e] at q2
        have h3 : ¬ V.int (((m.2.map V.int).length : Nat) : Int) = V.int many := fun z => h2 (V.int.inj z)
        show if (!decide (V.int (((m.2.map V.int).length : Nat) : Int) = V.int many)) = true then _ else _
        rw [decide_eq_false h3]
        exact q2
    · have e : isMv many m = false := by
        unfold isMv
        rw [decide_eq_false h1, Bool.false_and, Bool.false_and]
      have q2 := q _ (Gr.of_same g1) tab1
      rw [e] at q2
      rw [decide_eq_false h1]
      exact q2
end
end
section
variable {P : Program} {w : World} {K : PySem.W.Frag} {mg : Str → Option Value} {base : Heap}
variable {fM cM tM : Addr} {fdM : FuncData} {C fI : Addr} {fdI : FuncData}
/-! ### class Chain -/
theorem scInit : FnScope ["self", "many", "moves", "number", "move"] ["self", "many", "moves"] (defScope (inClass cChain 0)) := ⟨rfl, rfl, rfl, by decide +kernel, rfl, by decide +kernel, by decide +kernel⟩
def chF (many : Int) (a : Addr) : List (Str × V) := putF "_moves" (.ref a) (putF "_many" (.int many) [])
theorem ne_mm : ¬ (("_many" : Str) = "_moves") := by decide +kernel
theorem chF_many (many : Int) (a : Addr) : (chF many a).lookup ("_many" : Str) = some (.int many) := by
  unfold chF
  rw [lookup_putF, if_neg ne_mm, lookup_putF, if_pos rfl]
theorem chF_moves (many : Int) (a : Addr) : (chF many a).lookup ("_moves" : Str) = some (.ref a) := by
  unfold chF
  rw [lookup_putF, if_pos rfl]
theorem chF_no (many : Int) (a : Addr) {m : Str} (h1 : ¬ m = "_many") (h2 : ¬ m = "_moves") : (chF many a).lookup m = none := by
  unfold chF
  rw [lookup_putF, if_neg h2, lookup_putF, if_neg h1]
  all_goals rfl
def ChainAt (C : Addr) (H : Hp) (x : Addr) (many : Nat) (ms : List Mv) : Prop := ∃ dx a ws, H x = some (.ins C dx (chF (many : Int) a)) ∧ H a = some (.lst ws) ∧ MovesAt H ws ms
theorem ChainAt.same {C : Addr} {H H' : Hp} {x : Addr} {many : Nat} {ms : List Mv} (s : Same H H') (h : ChainAt C H x many ms) : ChainAt C H' x many ms := by
  obtain ⟨dx, a, ws, h1, h2, h3⟩ := h
  exact ⟨dx, a, ws, s _ _ h1, s _ _ h2, h3.same (Same.tups s)⟩
theorem moves_no_dl {H : Hp} {ws : List V} {ms : List Mv} (h : MovesAt H ws ms) (s0 : Int) (l : Addr) (k big : Int) : HO.lst ws ≠ .lst (dl s0 l k big) := by
  intro z
  injection z with z
  subst z
  cases h with
  | cons a _ =>
    obtain ⟨_, _, e, _⟩ := a
    cases e
theorem ChainAt.gr {C d l : Addr} {ns : List Int} {H H' : Hp} {x : Addr} {many : Nat} {ms : List Mv} (hd : Dc K l ns H d) (s : Gr d H H') (h : ChainAt C H x many ms) : ChainAt C H' x many ms := by
  obtain ⟨dx, a, ws, h1, h2, h3⟩ := h
  exact ⟨dx, a, ws, s _ _ (hd.ne_of h1 fun _ _ _ _ z => nomatch z) h1, s _ _ (hd.ne_of h2 (moves_no_dl h3)) h2, h3.same (s.tups hd)⟩
/-- all that is tracked, but at x and t, is as it was -/
def Gr2 (x t : Addr) (H H' : Hp) : Prop := ∀ b o, b ≠ x → b ≠ t → H b = some o → H' b = some o
def spInitG (C T : Addr) : Sp := fun vs H Q _ => ∃ (x dx l : Addr) (many : Nat) (ws : List V) (ms : List Mv), vs = [.ref x, .int (many : Int), .ref l] ∧ H x = some (.ins C dx []) ∧ H l = some (.lst ws) ∧ MovesAt H ws ms ∧ Good many ms ∧ GxR.TabG H T ∧
  ∀ H', ChainAt C H' x many ms → Gr2 x T H H' → GxR.TabG H' T → Q .non H'
theorem isMv_good {many : Nat} {m : Mv} (h : GoodMv many m) : isMv (many : Int) m = true := by
  obtain ⟨h1, h2, h3, h4⟩ := h
  unfold isMv
  rw [decide_eq_true (show 1 ≤ m.1 ∧ m.1 < 100 from ⟨h1, by omega⟩), decide_eq_true (show (m.2.length : Int) = (many : Int) by rw [h3]), Bool.true_and, Bool.true_and, List.all_eq_true]
  intro x hx
  unfold inR
  exact decide_eq_true (h4 x hx)
theorem ok_initG (T : ChTxt K mg fM cM tM fdM C fI fdI) (TB : GxR.TabB base mg cM tM) : FnOk P w K mg base CX0 2 fI fdI ["self", "many", "moves"] (spInitG C tM) := by
  have GM : FnOk P w K mg base CX0 1 fM fdM ["many", "move"] (spIsMove tM) := ok_ismove T TB
  obtain ⟨tp, gP⟩ := T.gP
  obtain ⟨tv, gV⟩ := T.gV
  refine T.FI.ok scInit (fun vs H Q E h => ?_) (fun cdv A outer s H vs Q E hr h => ?_)
  · obtain ⟨x, dx, l, many, ws, ms, rfl, _⟩ := h
    rfl
  · obtain ⟨x, dx, l, many, ws, ms, rfl, hx, hl, hM, G, hTab, q⟩ := h
    have lenW := hM.length
    refine ⟨_, pss_cons (ps_if (pt_not (pt_chain op_le op_le pe_int (pv 1) (pe_glob (v := .int 6) (by rfl) gP ⟨_, rfl⟩))) pss_never pss_nil)
      (pss_cons (ps_if (pt_not (pt_chain op_le op_le pe_int (pe_callB call_len_seq (by rfl) T.ml PySem.boot_len (pa_cons (pv 2) pa_nil)) (pe_glob (v := .int 8) (by rfl) gV ⟨_, rfl⟩))) pss_never pss_nil)
      (pss_cons (ps_for PassesOwn.never rfl (pi_enum (by rfl) T.me (pa_cons (pv 2) pa_nil)) (pg_tup rfl (pgs_cons (pg_name (i := 3) scInit.nd rfl (.inl rfl)) (pgs_cons (pg_name (i := 4) scInit.nd rfl (.inl rfl)) pgs_nil)))
          (pss_one (ps_if (pt_not (pt_val (pe_call GM hr (by rfl) T.gM T.FM.kp T.bM .nil pass0 (pa_cons (pv 1) (pa_cons (pv 4) pa_nil))))) pss_never pss_nil)))
      (pss_cons (ps_fld (pv 0) (pv 1) rfl)
      (pss_one (ps_fld (pv 0) (pe_callTy call_list_of (by rfl) T.mL (by decide +kernel) (pa_cons (pv 2) pa_nil)) rfl))))), ?_⟩
    have G1 := G.m1
    have G2 := G.m6
    have G3 := G.l1
    have G4 := G.l8
    refine ⟨.int (many : Int), rfl, 1, (many : Int), rfl, rfl, _, rfl, ifD (by omega) ⟨_, _, rfl, rfl, _, rfl, iteNS (by omega) ?_⟩⟩
    have hS : SqL K H l ws := SqL.of hl
    refine ⟨.ref l, rfl, l, ws, rfl, .inl hS, 1, _, rfl, rfl, _, rfl, ifD (by omega) ⟨_, _, rfl, rfl, _, rfl, iteNS (by omega) ?_⟩⟩
    -- for number, move in enumerate(moves)
    have nxT : x ≠ tM := fun z => by
      obtain ⟨ps, e, _⟩ := hTab
      rw [z, e] at hx
      cases hx
    have nlT : l ≠ tM := fun z => by
      obtain ⟨ps, e, _⟩ := hTab
      rw [z, e] at hl
      cases hl
    have nxl : x ≠ l := ne_of hx hl (fun z => nomatch z)
    have tupK : ∀ {H'}, Gr tM H H' → ∀ b xs, H b = some (.tup xs) → H' b = some (.tup xs) := fun {H'} g b xs e => g b _ (fun z => by
      obtain ⟨ps, e2, _⟩ := hTab
      rw [z, e2] at e
      cases e) e
    refine ⟨.ref l, rfl, l, ws, rfl, hS, for_it (walk_enum (K := K) (a := l) (xs := ws)) (fun i σ H' => ∃ y3 y4, σ = [some (.ref x), some (.int (many : Int)), some (.ref l), y3, y4] ∧ Gr tM H H' ∧ GxR.TabG H' tM)
      ⟨none, none, rfl, Gr.refl _ _, hTab⟩ (fun i σ H' hi ⟨y3, y4, e, g, t⟩ => SqL.of (g l _ nlT hl)) ?_ ?_⟩
    · rintro i z σ H1 H2 hi ⟨y3, y4, rfl, g1, t1⟩ ⟨Tp, u, v, rfl, nT, rfl, eu, ev⟩
      have g2 : Gr tM H (upd H1 Tp (.tup [u, v])) := g1.new nT
      have t2 : GxR.TabG (upd H1 Tp (.tup [u, v])) tM := by
        obtain ⟨ps, e, t⟩ := t1
        exact ⟨ps, (same_new nT) _ _ e, t⟩
      refine ⟨Tp, [u, v], rfl, SqT.of upd_same, rfl, u, [v], rfl, v, [], rfl, rfl, ?_⟩
      obtain ⟨m, em, hm⟩ := hM.get' ev
      have hgood := G.mv m (List.mem_of_getElem? em)
      have hm2 : MoveAt (upd H1 Tp (.tup [u, v])) v m := hm.same (tupK g2)
      refine ⟨.int (many : Int), rfl, v, rfl, (many : Int), v, m, rfl, hm2, t2, fun H3 g3 t3 => ?_⟩
      rw [isMv_good hgood]
      refine ⟨true, rfl, ?_⟩
      exact ⟨some u, some v, rfl, g2.trans g3, t3⟩
    · rintro σ H1 ⟨y3, y4, rfl, g1, t1⟩
      have hx1 := g1 x _ nxT hx
      have hl1 := g1 l _ nlT hl
      refine ⟨.int (many : Int), rfl, .ref x, rfl, x, C, dx, [], rfl, hx1, T.cl, T.nM, (by show 0 < 1000; decide), ?_⟩
      have hx2 : (upd H1 x (.ins C dx (putF "_many" (.int (many : Int)) []))) x = some (.ins C dx (putF "_many" (.int (many : Int)) [])) := upd_same
      have hl2 : (upd H1 x (.ins C dx (putF "_many" (.int (many : Int)) []))) l = some (.lst ws) := by
        rw [upd_ne (Ne.symm nxl)]
        exact hl1
      refine ⟨.ref l, rfl, l, ws, rfl, .inl (SqL.of hl2), fun a na => ?_⟩
      have nxa : x ≠ a := ne_of_none hx2 na
      refine ⟨.ref x, rfl, x, C, dx, _, rfl, (by rw [upd_ne nxa]; exact hx2), T.cl, T.nV, (by show 1 < 1000; decide), ?_⟩
      have naH1 : H1 a = none := by
        rw [upd_ne (Ne.symm nxa)] at na
        exact na
      have keepT : ∀ b o, b ≠ x → H1 b = some o → (upd (upd (upd H1 x (.ins C dx (putF "_many" (.int (many : Int)) []))) a (.lst ws)) x (.ins C dx (chF (many : Int) a))) b = some o := fun b o nb e => by
        rw [upd_ne nb, upd_ne (ne_of_none e naH1), upd_ne nb]
        exact e
      have ntx : ∀ xs, H1 x ≠ some (.tup xs) := fun xs z => by
        rw [hx1] at z
        cases z
      refine q _ ⟨dx, a, ws, upd_same, ?_, hM.same fun b xs e => ?_⟩ (fun b o nb nt e => keepT b o nb (g1 b o nt e)) ?_
      · rw [upd_ne (Ne.symm nxa)]
        exact upd_same
      · have e1 := tupK g1 b xs e
        refine keepT b _ (fun z => ?_) e1
        rw [z] at e1
        exact ntx xs e1
      · obtain ⟨ps, e, t⟩ := t1
        exact ⟨ps, keepT _ _ (Ne.symm nxT) e, t⟩
/-! ### places, told -/
theorem scPlaces : FnScope ["self"] ["self"] (defScope (inClass cChain 1)) := ⟨rfl, rfl, rfl, by decide +kernel, rfl, by decide +kernel, by decide +kernel⟩
theorem scTold : FnScope ["self"] ["self"] (defScope (inClass cChain 2)) := ⟨rfl, rfl, rfl, by decide +kernel, rfl, by decide +kernel, by decide +kernel⟩
def spPlaces (C : Addr) : Sp := fun vs H Q _ => ∃ (x : Addr) (many : Nat) (ms : List Mv), vs = [.ref x] ∧ ChainAt C H x many ms ∧ Q (.int (many : Int)) H
def spTold (C : Addr) : Sp := fun vs H Q _ => ∃ (x : Addr) (many : Nat) (ms : List Mv), vs = [.ref x] ∧ ChainAt C H x many ms ∧ ∀ (l : Addr) (ws : List V), H l = none → MovesAt (upd H l (.lst ws)) ws ms → Q (.ref l) (upd H l (.lst ws))
theorem ok_places {f : Addr} {fd : FuncData} {k : Nat} (F : Fun K "places" "Chain.places" (inClass cChain 1) f fd) (cl : Cls K C) (nM : NoAttr K C "_many") : FnOk P w K mg base CX0 (k + 1) f fd ["self"] (spPlaces C) := by
  refine F.ok scPlaces (fun vs H Q E h => ?_) (fun cdv A outer s H vs Q E hr h => ?_)
  · obtain ⟨x, many, ms, rfl, _⟩ := h
    rfl
  · obtain ⟨x, many, ms, rfl, ⟨dx, a, ws, h1, h2, h3⟩, q⟩ := h
    exact ⟨_, pss_one (ps_ret (pe_fld (pv 0) rfl)), .ref x, rfl, x, C, dx, _, _, rfl, h1, cl, nM, chF_many _ _, q⟩
theorem ok_told {f : Addr} {fd : FuncData} {k : Nat} (F : Fun K "told" "Chain.told" (inClass cChain 2) f fd) (cl : Cls K C) (nV : NoAttr K C "_moves") (mL : mg "list" = none) : FnOk P w K mg base CX0 (k + 1) f fd ["self"] (spTold C) := by
  refine F.ok scTold (fun vs H Q E h => ?_) (fun cdv A outer s H vs Q E hr h => ?_)
  · obtain ⟨x, many, ms, rfl, _⟩ := h
    rfl
  · obtain ⟨x, many, ms, rfl, ⟨dx, a, ws, h1, h2, h3⟩, q⟩ := h
    exact ⟨_, pss_one (ps_ret (pe_callTy call_list_of (by rfl) mL (by decide +kernel) (pa_cons (pe_fld (pv 0) rfl) pa_nil))), .ref x, rfl, x, C, dx, _, _, rfl, h1, cl, nV, chF_moves _ _, a, ws, rfl, .inl (SqL.of h2), fun l nl => q l ws nl (h3.same (Same.tups (same_new nl)))⟩
/-! ### _law_made -/
theorem scMade : FnScope ["_law_told"] ["_law_told"] (defScope sMade) := ⟨rfl, rfl, rfl, by decide +kernel, rfl, by decide +kernel, by decide +kernel⟩
def spMade (C T : Addr) : Sp := fun vs H Q _ => ∃ (t m : Addr) (many : Nat) (ws : List V) (ms : List Mv), vs = [.ref t] ∧ ToldAt H t m many ws ms ∧ Good many ms ∧ GxR.TabG H T ∧ ∀ H' x, ChainAt C H' x many ms → H x = none → Gr T H H' → GxR.TabG H' T → Q (.ref x) H'
theorem ok_made {f : Addr} {fd : FuncData} (F : Fun K "_law_made" "_law_made" sMade f fd) (T : ChTxt K mg fM cM tM fdM C fI fdI) (TB : GxR.TabB base mg cM tM) : FnOk P w K mg base CX0 4 f fd ["_law_told"] (spMade C tM) := by
  have GI : FnOk P w K mg base CX0 2 fI fdI ["self", "many", "moves"] (spInitG C tM) := ok_initG T TB
  refine F.ok scMade (fun vs H Q E h => ?_) (fun cdv A outer s H vs Q E hr h => ?_)
  · obtain ⟨t, m, many, ws, ms, rfl, _⟩ := h
    rfl
  · obtain ⟨t, m, many, ws, ms, rfl, ⟨h1, h2, h3⟩, G, ⟨ps, hT, htr⟩, q⟩ := h
    refine ⟨_, pss_one (ps_ret (pe_make T.mC GI hr (by rfl) T.gC T.bI .nil pass0 (pa_cons (pe_ix ix_tup (pv 0) pe_int (fun _ _ => rfl)) (pa_cons (pe_callTy call_list_of (by rfl) T.mL (by decide +kernel) (pa_cons (pe_ix ix_tup (pv 0) pe_int (fun _ _ => rfl)) pa_nil)) pa_nil)))), ?_⟩
    refine ⟨.ref t, rfl, t, _, 0, _, rfl, rfl, SqT.of h1, atI_nat (j := 0) rfl, .ref t, rfl, t, _, 1, _, rfl, rfl, SqT.of h1, atI_nat (j := 1) rfl, m, ws, rfl, .inl (SqL.of h2), fun l nl x dx nx ndx nxd => ?_⟩
    have s1 : Same H (upd H l (.lst ws)) := same_new nl
    have s2 : Same (upd H l (.lst ws)) (upd (upd H l (.lst ws)) dx (.own x)) := same_new ndx
    have nx' : (upd (upd H l (.lst ws)) dx (.own x)) x = none := by
      rw [upd_ne (Ne.symm nxd)]
      exact nx
    have s3 := same_new (o := .ins C dx []) nx'
    have s := (s1.trans s2).trans s3
    refine ⟨x, dx, l, many, ws, ms, rfl, upd_same, (s2.trans s3) _ _ upd_same, h3.same (Same.tups s), G, ⟨ps, s _ _ hT, htr⟩, fun H' hc g t' => ⟨rfl, ?_⟩⟩
    exact q H' x hc (s1.free nx) (fun b o nb e => g b o (ne_of_none (s1 _ _ e) nx) nb (s _ _ e)) t'
end
/-! ### enumerate(a tuple): a rule of our own -/
set_option maxHeartbeats 1000000 in
theorem enum_new1 {v : Value} {o : Obj} {Hc : Heap → Prop} (B : Begins v o Hc) : Meets (Builtin.«enumerate.__new__» ⟨[.type "enumerate", v], []⟩) (fun _ R s => Hc s.heap ∧
    R (.ok (.ret (.ref (s.heap.push o).objs.size))) { s with heap := (s.heap.push o).push { cls := .type "enumerate", data := .fields #[.none, .bool false, .ref s.heap.objs.size, rawInt 0, .none, .none] } }) := by
  refine .of_wp fun prog w A R s hR => ?_
  obtain ⟨hp, gn, dr, tk, os⟩ := s
  obtain ⟨hc, hR⟩ := hR
  have subE := sub_enumerate
  have begin_ : ∀ {A' : Around} {E Q : Value → Shared → Prop}, Q (.ref hp.objs.size) ⟨hp.push o, gn, dr, tk, os⟩ → wpAny (model prog w) A' (pyIter v) Q E ⟨hp, gn, dr, tk, os⟩ := fun q => B.iter prog w _ _ ⟨hp, gn, dr, tk, os⟩ _ hc q
  wp_walk using begin_
  refine wpAny_stack_any fun st => wpAny_pure ?_
  split
  case h_1 c _ _ _ _ _ =>
    cases (c == Value.type "enumerate") <;> (wp_walk using begin_; exact ⟨_, rfl, hR⟩)
  all_goals (wp_walk using begin_; exact ⟨_, rfl, hR⟩)
theorem call_enum1 {prog : Program} {w : World} {A : Around} {E : Value → Shared → Prop} {s : Shared} {v : Value} {o : Obj} {Hc : Heap → Prop} {Q : Value → Shared → Prop} (B : Begins v o Hc) (hc : Hc s.heap)
    (h : ∀ h', IsEnum h' (s.heap.objs.size + 1) s.heap.objs.size 0 .none → h'.get? s.heap.objs.size = some o → (∀ b u, s.heap.get? b = some u → h'.get? b = some u) → Q (.ref (s.heap.objs.size + 1)) { s with heap := h' }) :
    wpAny (model prog w) A (call (.type "enumerate") [v]) Q E s := by
  refine callType_new F.called_enumerate (by decide) (F.typeCall_enumerate_1 _) (F.newCall_enumerate_1 _) (fun obj => F.args_object_init_2 obj _) F.entry_enumerate_new (enum_new1 B) ⟨hc, ?_⟩
  have sz : (s.heap.push o).objs.size = s.heap.objs.size + 1 := Heap.size_push ..
  have e1 := Heap.get?_push_size (s.heap.push o) (o := { cls := .type "enumerate", data := .fields #[.none, .bool false, .ref s.heap.objs.size, rawInt 0, .none, .none] }) rfl
  rw [sz] at e1
  show _ ∧ _
  rw [sz]
  exact ⟨⟨_, e1, rfl⟩, h _ e1 (Heap.get?_push_of_some _ (Heap.get?_push_size _ B.free)) fun b u e => Heap.get?_push_of_some _ (Heap.get?_push_of_some _ e)⟩
/-- the tuple at a, each item in a new pair -/
def ItEt (K : PySem.W.Frag) (a : Addr) : It :=
  ⟨fun i H => ∃ (xs : List V) (x : V), SqT K H a xs ∧ xs[i]? = some x, fun i H v H' => ∃ T x, v = .ref T ∧ H T = none ∧ H' = upd H T (.tup [.int (i : Nat), x]) ∧ ∀ xs, SqT K H a xs → xs[i]? = some x, fun i H => ∃ xs : List V, SqT K H a xs ∧ xs.length = i⟩
theorem turn_enumT {P : Program} {w : World} {K : PySem.W.Frag} {elts : List Expr} {kk : Nat} {tpos : Pos} (a e it : Addr) :
    Turn P w K (.Tuple elts kk tpos) (ItEt K a) [e, it] e (fun i h => (∃ old, IsEnum h e it ((i : Nat) : Int) old) ∧ h.IsTupleIter it a i ∧ e ≠ it ∧ a ≠ it ∧ a ≠ e) where
  mem := List.mem_cons_self
  obj := fun i h ⟨⟨old, he⟩, ⟨o, ho, _, hd⟩, _⟩ b hb => by
    rcases List.mem_cons.mp hb with z | z
    · subst z
      exact ⟨_, he, fun v q => nomatch q⟩
    · have z2 : b = it := by simpa using z
      subst z2
      exact ⟨o, ho, fun v q => by rw [hd] at q; cases q⟩
  keep := fun i h h' ⟨⟨old, he⟩, ⟨o, ho, r⟩, hne⟩ k => ⟨⟨old, k e List.mem_cons_self _ he⟩, ⟨o, k it (by simp) o ho, r⟩, hne⟩
  item := by
    intro X hP hw hK hc i pins s σ H E I hf ⟨⟨old, he⟩, hit, hne, nai, nae⟩ ⟨xs, x, hq, hx⟩
    subst hP hw hK
    obtain ⟨its, rv, tp, hz⟩ := I.tuple hq
    have tp1 : s.heap.IsTuple a its.toArray := tp
    obtain ⟨u, hu, ru⟩ := rv.get hx
    have lte : e < s.heap.objs.size := Heap.lt_size he
    have lti : it < s.heap.objs.size := let ⟨_, q, _⟩ := hit; Heap.lt_size q
    have hh : X.A.in1.handled = none := I.ok.hd hc
    have Dr := Draws.tuple (prog := X.prog) (w := X.w) hh it a nai its.toArray
    have hlt : i < its.toArray.size := by
      obtain ⟨q, _⟩ := List.getElem?_eq_some_iff.mp hu
      simpa using q
    refine wpAny_pyNext_enum_itemD Dr he ⟨hit, tp1⟩ hlt hne (by simp [hne, Ne.symm nae]) fun x' h' tk hP ho ⟨hit', _⟩ hT hsz hk => ⟨_, rfl, wpAny_letOwnedTupleGo_enum (s := { s with heap := h', toks := tk + 1 }) ho fun h2 he2 sb => ?_⟩
    have ex' : x' = u := by
      have q : its[i]? = some x' := by simpa using hP
      rw [hu] at q
      exact (Option.some.inj q).symm
    subst ex'
    have hT2 : h2.get? s.heap.objs.size = some { cls := .type "tuple", data := .seq #[.int i tk, x'] } := (sb.2 _ (Nat.ne_of_gt lte)).trans hT
    have new : ObjOk X.prog X.w (upd H s.heap.objs.size (.tup [.int (i : Nat), x])) h2 s.heap.objs.size (.tup [.int (i : Nat), x]) := ⟨by show 2 ≤ sizeLine; decide, [.int i tk, x'], .cons ⟨_, rfl⟩ (.cons ru .nil), ⟨_, hT2, rfl, _, rfl⟩⟩
    have I1 : Inv X pins σ (upd H s.heap.objs.size (.tup [.int (i : Nat), x])) { s with heap := h2, toks := tk + 1 } :=
      I.turnedNew (ch := [e, it]) (fun b ob hb q => (sb.2 b (fun z => hb (by simp [z]))).trans (hk b ob (fun z => hb (by simp [z])) (fun z => hb (by simp [z])) q)) hf (Nat.le_refl _) new
    refine ⟨.ref s.heap.objs.size, _, I1, rfl, ⟨_, x, rfl, I.hok.fresh (Nat.le_refl _), rfl, fun ys hy => by rw [I.tuple_inj hy hq]; exact hx⟩, ⟨⟨x', ?_⟩, ?_, hne, nai, nae⟩, fun b hb => ?_⟩
    · rw [show ((i + 1 : Nat) : Int) = (i : Int) + 1 by omega]
      exact he2
    · obtain ⟨o, q1, q2⟩ := hit'
      exact ⟨o, (sb.2 it (Ne.symm hne)).trans q1, q2⟩
    · have ltb : b < s.heap.objs.size := by
        rcases List.mem_cons.mp hb with z | z
        · rw [z]
          exact lte
        · have z2 : b = it := by simpa using z
          rw [z2]
          exact lti
      rw [upd_ne (Nat.ne_of_lt ltb)]
      exact (hf b hb).1
  done := by
    intro X hP hw hK hc i pins s σ H E I hf ⟨⟨old, he⟩, hit, hne, nai, nae⟩ ⟨xs, hq, hx⟩
    subst hP hw hK
    obtain ⟨its, rv, tp, hz⟩ := I.tuple hq
    have tp1 : s.heap.IsTuple a its.toArray := tp
    have hh : X.A.in1.handled = none := I.ok.hd hc
    have Dr := Draws.tuple (prog := X.prog) (w := X.w) hh it a nai its.toArray
    have en : i = its.toArray.size := by
      have := rv.length
      simp only [List.size_toArray]
      omega
    subst en
    obtain ⟨f0, f1, f2, f3, f4, f5⟩ := hf it (by simp)
    exact wpAny_pyNext_enum_endD Dr he ⟨hit, tp1⟩ fun h' eb => ⟨rfl, I.turned (t' := s.toks) (fun b o hb q => eb b o hb q) f0 f1 f3 f4 f5⟩
  self := fun A i s Q E ⟨⟨_, he⟩, _⟩ h => wpAny_pyIter_enum he h
def iEnumT (K : PySem.W.Frag) (ta : TA) : TI := fun σ H R => ta σ H fun vs H1 => ∃ a xs, vs = [.ref a] ∧ SqT K H1 a xs ∧ R (ItEt K a) H1
theorem pi_enumT {X : Cx} {e : Expr} {ta : TA} {p pos tpos : Pos} {elts : List Expr} {kk : Nat} (hg : Gl X "enumerate") (hm : X.mg "enumerate" = none) (ha : PA X [e] ta) (hs : starEach [e] X.env = [(false, eval e X.env)] := by rfl) :
    PI X (.Tuple elts kk tpos) (.Call (.Name "enumerate" p) [e] [] pos) (iEnumT X.K ta) := by
  refine ⟨fun pins s σ H R I h => Call_ (ld_blt I hg hm boot_enumerate (PyProof.Rows.callWith_type1 (thn (ha.run pos pins s σ H _ I h) fun us s1 hq => ?_) hs rfl))⟩
  obtain ⟨vs, H1, I1, r1, a, xs, ex, hq, q⟩ := hq
  subst ex
  cases r1 with
  | cons r rr =>
    cases rr
    cases r
    obtain ⟨its, rv, tp, hz⟩ := I1.tuple hq
    have tp1 : s1.heap.IsTuple a its.toArray := tp
    have lta : a < s1.heap.objs.size := let ⟨_, g, _⟩ := tp1; Heap.lt_size g
    refine call_enum1 (begins_tuple a its.toArray) tp1 fun h' he hit hk => wpAny_pyIter_enum he ?_
    refine ⟨s1.heap.objs.size + 1, [s1.heap.objs.size + 1, s1.heap.objs.size], _, _, H1, rfl, I1.kept (t' := s1.toks) hk, turn_enumT a (s1.heap.objs.size + 1) s1.heap.objs.size, ⟨⟨.none, he⟩, ⟨_, hit, rfl, rfl⟩, Nat.succ_ne_self _, Nat.ne_of_lt lta, Nat.ne_of_lt (Nat.lt_succ_of_lt lta)⟩, fun b hb => ?_, q⟩
    have hle : s1.heap.objs.size ≤ b := by
      rcases List.mem_cons.mp hb with z | z
      · rw [z]
        exact Nat.le_succ _
      · have z2 : b = s1.heap.objs.size := by simpa using z
        rw [z2]
        exact Nat.le_refl _
    exact I1.fpOk hle (I1.hok.fresh hle)
theorem walk_enumT {K : PySem.W.Frag} {a : Addr} {xs : List V} : Walk (ItEt K a) xs.length (fun H => SqT K H a xs) (YPair (fun i => some (.int (i : Nat))) (fun i => xs[i]?)) :=
  ⟨fun i _ hi q => ⟨xs, xs[i], q, by simp [hi]⟩, fun _ q => ⟨xs, q, rfl⟩, fun i H v H' _ q ⟨T, x, h1, h2, h3, h4⟩ => ⟨T, .int (i : Nat), x, h1, h2, h3, rfl, h4 xs q⟩⟩
/-! ### fractions: the mathematics -/
def gcdI (x y : Int) : Int := ((Nat.gcd x.natAbs y.natAbs : Nat) : Int)
def frac (x y : Int) : Int × Int := (x / gcdI x y, y / gcdI x y)
theorem gcdI_pos {x y : Int} (h : 0 < y) : 0 < gcdI x y := by
  unfold gcdI
  have : 0 < Nat.gcd x.natAbs y.natAbs := Nat.gcd_pos_of_pos_right _ (by omega)
  omega
theorem gcdI_dl (x y : Int) : gcdI x y ∣ x := by
  unfold gcdI
  exact Int.ofNat_dvd_left.mpr (Nat.gcd_dvd_left _ _)
theorem gcdI_dr (x y : Int) : gcdI x y ∣ y := by
  unfold gcdI
  exact Int.ofNat_dvd_left.mpr (Nat.gcd_dvd_right _ _)
theorem gcdI_scale {k : Int} (hk : 0 < k) (x y : Int) : gcdI (k * x) (k * y) = k * gcdI x y := by
  unfold gcdI
  rw [Int.natAbs_mul, Int.natAbs_mul, Nat.gcd_mul_left]
  have : ((k.natAbs : Nat) : Int) = k := by omega
  rw [Int.natCast_mul, this]
theorem frac_scale {k : Int} (hk : 0 < k) (x y : Int) : frac (k * x) (k * y) = frac x y := by
  unfold frac
  rw [gcdI_scale hk, Int.mul_ediv_mul_of_pos _ _ hk, Int.mul_ediv_mul_of_pos _ _ hk]
theorem frac_l (x y : Int) : gcdI x y * (frac x y).1 = x := Int.mul_ediv_cancel' (gcdI_dl x y)
theorem frac_r (x y : Int) : gcdI x y * (frac x y).2 = y := Int.mul_ediv_cancel' (gcdI_dr x y)
theorem frac_pos {x y : Int} (h : 0 < y) : 0 < (frac x y).2 := by
  have h1 := frac_r x y
  have h2 := gcdI_pos (x := x) h
  refine Int.not_le.mp fun hn => ?_
  have h3 := Int.mul_le_mul_of_nonneg_left hn (Int.le_of_lt h2)
  rw [h1, Int.mul_zero] at h3
  omega
theorem frac_le {x y : Int} (h : 0 < y) : (frac x y).2 ≤ y := by
  have h1 := frac_r x y
  have h2 := gcdI_pos (x := x) h
  have h3 := frac_pos (x := x) h
  have h4 : 1 * (frac x y).2 ≤ gcdI x y * (frac x y).2 := Int.mul_le_mul_of_nonneg_right (by omega) (by omega)
  omega
theorem frac_nn {x y : Int} (hx : 0 ≤ x) (h : 0 < y) : 0 ≤ (frac x y).1 := Int.ediv_nonneg hx (Int.le_of_lt (gcdI_pos h))
theorem frac_top {x y : Int} (hx : 0 ≤ x) (h : 0 < y) : (frac x y).1 ≤ x := Int.ediv_le_self _ hx
theorem frac_idem {x y : Int} (h : 0 < y) : frac (frac x y).1 (frac x y).2 = frac x y := by
  have h2 := gcdI_pos (x := x) h
  have e := frac_scale h2 (frac x y).1 (frac x y).2
  rw [frac_l, frac_r] at e
  exact e.symm
/-- the sum of two fractions of one bottom -/
theorem frac_add {x y z : Int} (h : 0 < z) : frac ((frac x z).1 * (frac y z).2 + (frac y z).1 * (frac x z).2) ((frac x z).2 * (frac y z).2) = frac (x + y) z := by
  have g1 := gcdI_pos (x := x) h
  have g2 := gcdI_pos (x := y) h
  have e1 := frac_l x z
  have e2 := frac_r x z
  have e3 := frac_l y z
  have e4 := frac_r y z
  generalize (frac x z).1 = a at *
  generalize (frac x z).2 = b at *
  generalize (frac y z).1 = c at *
  generalize (frac y z).2 = d at *
  generalize gcdI x z = k at *
  generalize gcdI y z = l at *
  rw [← frac_scale (Int.mul_pos g1 g2)]
  have f1 : k * l * (a * d + c * b) = z * (x + y) := by
    have : k * l * (a * d + c * b) = (k * a) * (l * d) + (l * c) * (k * b) := by
      rw [Int.mul_add]
      congr 1
      · ac_rfl
      · ac_rfl
    rw [this, e1, e4, e3, e2, Int.mul_add, Int.mul_comm x z, Int.mul_comm y z]
  have f2 : k * l * (b * d) = z * z := by
    have : k * l * (b * d) = (k * b) * (l * d) := by ac_rfl
    rw [this, e2, e4]
  rw [f1, f2]
  exact frac_scale h _ _
theorem frac_self {z : Int} (h : 0 < z) : frac z z = (1, 1) := by
  have e := frac_scale h 1 1
  rw [Int.mul_one] at e
  rw [e]
  decide
theorem frac_zero {z : Int} (h : 0 < z) : frac 0 z = (0, 1) := by
  have e := frac_scale h 0 1
  rw [Int.mul_one, Int.mul_zero] at e
  rw [e]
  decide
/-- the steps of the law's own reckoning keep the greatest divisor -/
theorem gcdI_step {x y : Int} (hx : 0 ≤ x) (hy : 0 < y) : gcdI y (x % y) = gcdI x y := by
  unfold gcdI
  have h1 : (x % y).natAbs = x.natAbs % y.natAbs := Int.natAbs_emod_of_nonneg hx y |> fun z => z
  rw [h1]
  congr 1
  rw [Nat.gcd_comm, ← Nat.gcd_rec, Nat.gcd_comm]
theorem gcdI_zero {x : Int} (hx : 0 ≤ x) : gcdI x 0 = x := by
  unfold gcdI
  rw [show (0 : Int).natAbs = 0 from rfl, Nat.gcd_zero_right]
  omega
theorem gcdI_abs (x y : Int) : gcdI (if x < 0 then -x else x) y = gcdI x y := by
  unfold gcdI
  congr 2
  split <;> omega

section
variable {P : Program} {w : World} {K : PySem.W.Frag} {mg : Str → Option Value} {base : Heap}
/-! ### fraction -/
theorem scFraction : FnScope ["top", "bottom", "shared"] ["top", "bottom"] (defScope sFraction) := ⟨rfl, rfl, rfl, by decide +kernel, rfl, by decide +kernel, by decide +kernel⟩
def spFraction : Sp := fun vs H Q _ => ∃ (x y : Int), vs = [.int x, .int y] ∧ 0 < y ∧ y < 1000000 ∧ ∀ t, H t = none → Q (.ref t) (upd H t (.tup [.int (frac x y).1, .int (frac x y).2]))
theorem gcdI_le {x y : Int} (h : 0 < y) : gcdI x y ≤ y := Int.le_of_dvd h (gcdI_dr x y)
theorem ok_fraction {f : Addr} {fd : FuncData} {k : Nat} (F : Fun K "fraction" "fraction" sFraction f fd) (mgcd : mg "gcd" = some (.builtin "math.gcd")) : FnOk P w K mg base CX0 (k + 1) f fd ["top", "bottom"] spFraction := by
  refine F.ok scFraction (fun vs H Q E h => ?_) (fun cdv A outer s H vs Q E hr h => ?_)
  · obtain ⟨x, y, rfl, _⟩ := h
    rfl
  · obtain ⟨x, y, rfl, h1, h2, q⟩ := h
    refine ⟨_, pss_cons (ps_set (i := 2) scFraction.nd rfl (.inl rfl) (pe_callBfun cr_gcd (by rfl) mgcd (pa_cons (pv 0) (pa_cons (pv 1) pa_nil))))
      (pss_cons (ps_if (pt_cmpR op_lt (pv 1) pe_int (nomark _)) (pss_one (ps_set (i := 2) scFraction.nd rfl (.inl rfl) (pe_un un_neg (pv 2)))) pss_nil)
      (pss_one (ps_ret (pe_tup (pa_cons (pe_op op_fdiv (pv 0) (pv 2)) (pa_cons (pe_op op_fdiv (pv 1) (pv 2)) pa_nil)))))), ?_⟩
    have g1 := gcdI_pos (x := x) h1
    have g2 := gcdI_le (x := x) h1
    refine ⟨.int x, rfl, .int y, rfl, x, y, rfl, ?_⟩
    refine ⟨.int y, rfl, y, 0, rfl, rfl, _, rfl, ite2 (fun e => ?_) (fun e => ?_)⟩
    · have e2 : y < 0 := of_decide_eq_true e
      omega
    · refine ⟨.int x, rfl, .int (gcdI x y), rfl, x, gcdI x y, rfl, rfl, ⟨g1, by omega⟩, .int y, rfl, .int (gcdI x y), rfl, y, gcdI x y, rfl, rfl, ⟨g1, by omega⟩, (by show 2 ≤ sizeLine; decide), fun t nt => ?_⟩
      exact q t nt
end
section
variable {P : Program} {w : World} {K : PySem.W.Frag} {mg : Str → Option Value} {base : Heap}
/-! ### _law_low -/
theorem scLow : FnScope ["_law_top", "_law_bottom", "_law_one", "_law_other"] ["_law_top", "_law_bottom"] (defScope sLawLow) := ⟨rfl, rfl, rfl, by decide +kernel, rfl, by decide +kernel, by decide +kernel⟩
def spLow : Sp := fun vs H Q _ => ∃ (x y : Int), vs = [.int x, .int y] ∧ 0 < y ∧ y.natAbs < 2 ^ 8999 ∧ ∀ t, H t = none → Q (.ref t) (upd H t (.tup [.int (frac x y).1, .int (frac x y).2]))
theorem ok_low {f : Addr} {fd : FuncData} {k : Nat} (F : Fun K "_law_low" "_law_low" sLawLow f fd) (ma : mg "abs" = none) : FnOk P w K mg base CX0 (k + 1) f fd ["_law_top", "_law_bottom"] spLow := by
  refine F.ok scLow (fun vs H Q E h => ?_) (fun cdv A outer s H vs Q E hr h => ?_)
  · obtain ⟨x, y, rfl, _⟩ := h
    rfl
  · obtain ⟨x, y, rfl, h1, h2, q⟩ := h
    refine ⟨_, pss_cons (ps_set (i := 2) scLow.nd rfl (.inl rfl) (pe_callB call_abs (by rfl) ma (by decide +kernel) (pa_cons (pv 0) pa_nil)))
      (pss_cons (ps_set (i := 3) scLow.nd rfl (.inl rfl) (pv 1))
      (pss_cons (ps_while PassesOwn.never (pt_cmpR op_gt (pv 3) pe_int (nomark _))
        (pss_one (ps_par (i := 2) (j := 3) rfl scLow.nd rfl rfl (by decide) rfl rfl (pa_cons (pv 3) (pa_cons (pe_op op_mod (pv 2) (pv 3)) pa_nil)) (by rfl))))
      (pss_one (ps_ret (pe_tup (pa_cons (pe_op op_fdivW (pv 0) (pv 2)) (pa_cons (pe_op op_fdivW (pv 1) (pv 2)) pa_nil))))))), ?_⟩
    have g1 := gcdI_pos (x := x) h1
    have g2 := Int.le_of_dvd h1 (gcdI_dr x y)
    have g3 : (gcdI x y).natAbs < 2 ^ 8999 := Nat.lt_of_le_of_lt (by omega) h2
    refine ⟨.int x, rfl, x, rfl, .int y, rfl, ?_⟩
    refine while_by (fun σ H' => ∃ a b : Int, σ = [some (.int x), some (.int y), some (.int a), some (.int b)] ∧ H' = H ∧ 0 ≤ a ∧ 0 ≤ b ∧ gcdI a b = gcdI x y)
      (fun σ _ => match σ with | [_, _, _, some (.int b)] => b.toNat | _ => 0) ⟨_, y, rfl, rfl, abs_nn x, by omega, gcdI_abs x y⟩ ?_ ?_
    · rintro σ H' ⟨a, b, rfl, rfl, ha, hb, e⟩
      refine ⟨.int b, rfl, b, 0, rfl, rfl, _, rfl, ite2 (fun c => ?_) (fun c => ?_)⟩
      · have c0 : 0 < b := of_decide_eq_true c
        refine ⟨.int b, rfl, .int a, rfl, .int b, rfl, a, b, rfl, rfl, (by show 0 < b; omega), .int b, .int (a % b), rfl, ⟨b, a % b, rfl, rfl, hb, Int.emod_nonneg _ (by omega), (gcdI_step ha c0).trans e⟩, ?_⟩
        have := Int.emod_lt_of_pos a c0
        have := Int.emod_nonneg a (show b ≠ 0 by omega)
        show (a % b).toNat < b.toNat
        omega
      · have c0 : ¬ 0 < b := fun z => c (decide_eq_true z)
        have b0 : b = 0 := by omega
        subst b0
        rw [gcdI_zero ha] at e
        subst e
        exact ⟨.int x, rfl, .int (gcdI x y), rfl, x, gcdI x y, rfl, rfl, wide_div g1 g3 (by decide) (by decide), .int y, rfl, .int (gcdI x y), rfl, y, gcdI x y, rfl, rfl, wide_div g1 g3 (by decide) (by decide), (by show 2 ≤ sizeLine; decide), fun t nt => q t nt⟩
    · rintro σ H' Q1 Q2 hq ⟨v, e1, i, j, e2, e3, b, e4, e5⟩
      exact ⟨v, e1, i, j, e2, e3, b, e4, hq _ _ e5⟩
end
section
variable {P : Program} {w : World} {K : PySem.W.Frag} {mg : Str → Option Value} {base : Heap}
/-! ### fractions that are told -/
def FracAt (H : Hp) (v : V) (p : Int × Int) : Prop := ∃ t, v = .ref t ∧ H t = some (.tup [.int p.1, .int p.2])
theorem FracAt.same {H H' : Hp} {v : V} {p : Int × Int} (s : Same H H') (h : FracAt H v p) : FracAt H' v p := by
  obtain ⟨t, e, h⟩ := h
  exact ⟨t, e, s _ _ h⟩
theorem dp_pair {K : PySem.W.Frag} {H : Hp} {t : Addr} {p : Int × Int} (h : H t = some (.tup [.int p.1, .int p.2])) : Dp K H (.ref t) (.tuple [.int p.1, .int p.2]) := .tup (SqT.of h) (.cons (.int _) (.cons (.int _) .nil))
theorem shaped_pair (p : Int × Int) : SeqAt.shaped (.tuple [.int p.1, .int p.2]) = true := rfl
theorem eqv_pair (p r : Int × Int) : PyData.eqv (.tuple [.int p.1, .int p.2]) (.tuple [.int r.1, .int r.2]) = decide (p = r) := by
  have e : PyData.eqv (.tuple [.int p.1, .int p.2]) (.tuple [.int r.1, .int r.2]) = (p.1 == r.1 && (p.2 == r.2 && true)) := rfl
  rw [e, Bool.and_true]
  obtain ⟨a, b⟩ := p
  obtain ⟨c, d⟩ := r
  by_cases h1 : a = c <;> by_cases h2 : b = d <;> simp [h1, h2]
/-! ### _law_add, _law_sum -/
theorem scAdd : FnScope ["_law_one", "_law_other"] ["_law_one", "_law_other"] (defScope sLawAdd) := ⟨rfl, rfl, rfl, by decide +kernel, rfl, by decide +kernel, by decide +kernel⟩
theorem scSum : FnScope ["_law_some", "_law_found", "_law_one"] ["_law_some"] (defScope sLawSum) := ⟨rfl, rfl, rfl, by decide +kernel, rfl, by decide +kernel, by decide +kernel⟩
theorem scIsShare : FnScope ["_law_found", "_law_number"] ["_law_found"] (defScope sLawIsShare) := ⟨rfl, rfl, rfl, by decide +kernel, rfl, by decide +kernel, by decide +kernel⟩
def Big (x : Int) : Prop := x.natAbs < 2 ^ 4000
theorem Big.mul {x y : Int} (hx : Big x) (hy : Big y) : (x * y).natAbs < 2 ^ 8999 := by
  rw [Int.natAbs_mul]
  refine Nat.lt_of_lt_of_le (Nat.mul_lt_mul'' hx hy) ?_
  rw [← Nat.pow_add]
  exact Nat.pow_le_pow_right (by decide) (by decide)
theorem Big.ok {x y : Int} (hx : Big x) (hy : Big y) : CMulW x y := wide_mul hx hy (by decide) (by decide) (by decide)
theorem Big.of_le {x : Int} {m : Nat} (h : x.natAbs ≤ m) (hm : m < 2 ^ 4000 := by decide) : Big x := Nat.lt_of_le_of_lt h hm
def spAdd : Sp := fun vs H Q _ => ∃ (v u : V) (p r : Int × Int), vs = [v, u] ∧ FracAt H v p ∧ FracAt H u r ∧ 0 < p.2 ∧ 0 < r.2 ∧ Big p.1 ∧ Big p.2 ∧ Big r.1 ∧ Big r.2 ∧
  ∀ t, H t = none → Q (.ref t) (upd H t (.tup [.int (frac (p.1 * r.2 + r.1 * p.2) (p.2 * r.2)).1, .int (frac (p.1 * r.2 + r.1 * p.2) (p.2 * r.2)).2]))
theorem ok_add {f fL : Addr} {fd fdL : FuncData} (F : Fun K "_law_add" "_law_add" sLawAdd f fd) (FL : Fun K "_law_low" "_law_low" sLawLow fL fdL) (bL : Binds K fdL ["_law_top", "_law_bottom"] []) (gL : mg "_law_low" = some (.ref fL)) (ma : mg "abs" = none) :
    FnOk P w K mg base CX0 2 f fd ["_law_one", "_law_other"] spAdd := by
  have GL : FnOk P w K mg base CX0 1 fL fdL ["_law_top", "_law_bottom"] spLow := ok_low FL ma
  refine F.ok scAdd (fun vs H Q E h => ?_) (fun cdv A outer s H vs Q E hr h => ?_)
  · obtain ⟨v, u, p, r, rfl, _⟩ := h
    rfl
  · obtain ⟨v, u, p, r, rfl, ⟨a, rfl, ha⟩, ⟨b, rfl, hb⟩, p2, r2, b1, b2, b3, b4, q⟩ := h
    have sa : SqT K H a [.int p.1, .int p.2] := SqT.of ha
    have sb : SqT K H b [.int r.1, .int r.2] := SqT.of hb
    refine ⟨_, pss_one (ps_ret (pe_call GL hr (by rfl) gL FL.kp bL .nil pass0 (pa_cons (pe_op op_add (pe_op op_mulW (pe_ix ix_tup (pv 0) pe_int (fun _ _ => rfl)) (pe_ix ix_tup (pv 1) pe_int (fun _ _ => rfl)))
        (pe_op op_mulW (pe_ix ix_tup (pv 1) pe_int (fun _ _ => rfl)) (pe_ix ix_tup (pv 0) pe_int (fun _ _ => rfl))))
      (pa_cons (pe_op op_mulW (pe_ix ix_tup (pv 0) pe_int (fun _ _ => rfl)) (pe_ix ix_tup (pv 1) pe_int (fun _ _ => rfl))) pa_nil)))), ?_⟩
    refine ⟨.ref a, rfl, a, _, 0, _, rfl, rfl, sa, atI_nat (j := 0) rfl, .ref b, rfl, b, _, 1, _, rfl, rfl, sb, atI_nat (j := 1) rfl, p.1, r.2, rfl, rfl, b1.ok b4, ?_⟩
    refine ⟨.ref b, rfl, b, _, 0, _, rfl, rfl, sb, atI_nat (j := 0) rfl, .ref a, rfl, a, _, 1, _, rfl, rfl, sa, atI_nat (j := 1) rfl, r.1, p.2, rfl, rfl, b3.ok b2, _, _, rfl, rfl, ?_⟩
    refine ⟨.ref a, rfl, a, _, 1, _, rfl, rfl, sa, atI_nat (j := 1) rfl, .ref b, rfl, b, _, 1, _, rfl, rfl, sb, atI_nat (j := 1) rfl, p.2, r.2, rfl, rfl, b2.ok b4, ?_⟩
    exact ⟨_, _, rfl, Int.mul_pos p2 r2, b2.mul b4, fun t nt => q t nt⟩
def spSumL : Sp := fun vs H Q _ => ∃ (l : Addr) (us : List V) (xs : List Int) (z : Int), vs = [.ref l] ∧ H l = some (.lst us) ∧ Paired (fun u x => FracAt H u (frac x z)) us xs ∧ 0 < z ∧ z ≤ 1000000 ∧ (∀ x ∈ xs, 0 ≤ x) ∧ xs.sum ≤ 1000000 ∧
  ∀ t H', Same H H' → H' t = some (.tup [.int (frac xs.sum z).1, .int (frac xs.sum z).2]) → Q (.ref t) H'
theorem frac_big {x z : Int} (hx : 0 ≤ x) (h1 : x ≤ 1000000) (hz : 0 < z) (h2 : z ≤ 1000000) : Big (frac x z).1 ∧ Big (frac x z).2 := by
  have a1 := frac_nn hx hz
  have a2 := frac_top hx hz
  have a3 := frac_pos (x := x) hz
  have a4 := frac_le (x := x) hz
  exact ⟨Big.of_le (m := 1000000) (by omega), Big.of_le (m := 1000000) (by omega)⟩
theorem sum_nn : ∀ {xs : List Int}, (∀ x ∈ xs, 0 ≤ x) → 0 ≤ xs.sum
  | [], _ => by simp
  | x :: r, h => by
    have h1 := h x List.mem_cons_self
    have h2 := sum_nn (xs := r) fun y hy => h y (List.mem_cons_of_mem _ hy)
    rw [List.sum_cons]
    omega
theorem sum_take_le : ∀ {xs : List Int} (i : Nat), (∀ x ∈ xs, 0 ≤ x) → (xs.take i).sum ≤ xs.sum
  | [], i, _ => by simp
  | x :: r, 0, h => by
    rw [List.take_zero]
    exact sum_nn h
  | x :: r, i + 1, h => by
    have h2 := sum_take_le (xs := r) i fun y hy => h y (List.mem_cons_of_mem _ hy)
    rw [List.take_succ_cons, List.sum_cons, List.sum_cons]
    omega
theorem paired_at {α β : Type} {F : α → β → Prop} : ∀ {l₁ : List α} {l₂ : List β} {i : Nat} {a : α}, Paired F l₁ l₂ → l₁[i]? = some a → ∃ b, l₂[i]? = some b ∧ F a b
  | _, _, _, _, .nil, e => by simp at e
  | _, _, 0, _, .cons h _, e => by
    simp at e
    subst e
    exact ⟨_, rfl, h⟩
  | _, _, i + 1, a, .cons _ t, e => by
    obtain ⟨b, h1, h2⟩ := paired_at (i := i) (a := a) t (by simpa using e)
    exact ⟨b, by simpa using h1, h2⟩
theorem ok_sum {f fA fL : Addr} {fd fdA fdL : FuncData} (F : Fun K "_law_sum" "_law_sum" sLawSum f fd) (FA : Fun K "_law_add" "_law_add" sLawAdd fA fdA) (bA : Binds K fdA ["_law_one", "_law_other"] []) (gA : mg "_law_add" = some (.ref fA))
    (FL : Fun K "_law_low" "_law_low" sLawLow fL fdL) (bL : Binds K fdL ["_law_top", "_law_bottom"] []) (gL : mg "_law_low" = some (.ref fL)) (ma : mg "abs" = none) : FnOk P w K mg base CX0 3 f fd ["_law_some"] spSumL := by
  have GA : FnOk P w K mg base CX0 2 fA fdA ["_law_one", "_law_other"] spAdd := ok_add FA FL bL gL ma
  refine F.ok scSum (fun vs H Q E h => ?_) (fun cdv A outer s H vs Q E hr h => ?_)
  · obtain ⟨l, us, xs, z, rfl, _⟩ := h
    rfl
  · obtain ⟨l, us, xs, z, rfl, hl, hp, z0, z1, hx, hs, q⟩ := h
    refine ⟨_, pss_cons (ps_set (i := 1) scSum.nd rfl (.inl rfl) (pe_tup (pa_cons pe_int (pa_cons pe_int pa_nil))))
      (pss_cons (ps_for PassesOwn.never rfl (pi_list (pv 0)) (pg_name (i := 2) scSum.nd rfl (.inl rfl)) (pss_one (ps_set (i := 1) scSum.nd rfl (.inl rfl) (pe_call GA hr (by rfl) gA FA.kp bA .nil pass0 (pa_cons (pv 1) (pa_cons (pv 2) pa_nil))))))
      (pss_one (ps_ret (pv 1)))), ?_⟩
    refine ⟨by show 2 ≤ sizeLine; decide, fun t nt => ?_⟩
    have s0 : Same H (upd H t (.tup [.int 0, .int 1])) := same_new nt
    refine ⟨.ref l, rfl, l, rfl, ⟨_, SqL.of (s0 _ _ hl)⟩, for_list (K := K) (a := l) (xs := us) (fun i σ H' => ∃ t y, σ = [some (.ref l), some (.ref t), y] ∧ Same H H' ∧ FracAt H' (.ref t) (frac (xs.take i).sum z))
      ⟨t, none, rfl, s0, t, rfl, ?_⟩ (fun i σ H' _ ⟨t, y, e, s1, _⟩ => SqL.of (s1 _ _ hl)) ?_ ?_⟩
    · rw [List.take_zero, List.sum_nil, frac_zero z0]
      exact upd_same
    · rintro i u σ H' hu ⟨t', y, rfl, s1, hf⟩
      obtain ⟨x, ex, fx⟩ := paired_at hp hu
      have x0 := hx x (List.mem_of_getElem? ex)
      have et := sum_take ex
      have le1 := sum_take_le i hx
      have le2 := sum_take_le (i + 1) hx
      have nn1 : 0 ≤ (xs.take i).sum := sum_nn fun y hy => hx y (List.mem_of_mem_take hy)
      obtain ⟨b1, b2⟩ := frac_big nn1 (by omega) z0 z1
      obtain ⟨b3, b4⟩ := frac_big x0 (by omega) z0 z1
      refine ⟨.ref t', rfl, u, rfl, .ref t', u, _, _, rfl, hf, fx.same s1, frac_pos z0, frac_pos z0, b1, b2, b3, b4, fun t2 nt2 => ?_⟩
      refine ⟨t2, some u, rfl, s1.trans (same_new nt2), t2, rfl, ?_⟩
      rw [et, frac_add z0]
      exact upd_same
    · rintro σ H' ⟨t', y, rfl, s1, t2, e, hf⟩
      cases e
      have el : us.length = xs.length := hp.length
      rw [el, List.take_length] at hf
      exact ⟨.ref t', rfl, q t' H' s1 hf⟩
/-! ### _law_is_share, _law_are_shares -/
def IsFr (p : Int × Int) : Prop := 0 ≤ p.1 ∧ 0 < p.2 ∧ p.2.natAbs < 2 ^ 8999 ∧ frac p.1 p.2 = p
def spIsShare : Sp := fun vs H Q _ => ∃ (v : V) (p : Int × Int), vs = [v] ∧ FracAt H v p ∧ IsFr p ∧ ∀ H', Same H H' → Q (.bl true) H'
theorem kit_ib : PySem.W.kitOne K (.type "int") (.type "bool") = some false := kit_ty (by decide +kernel)
theorem kit_ii : PySem.W.kitOne K (.type "int") (.type "int") = some true := kit_ty (by decide +kernel)
theorem hu64 {A : Around} {k : Nat} (hr : Room k A) : A.units + 64 < cLine := by
  have := hr.un
  omega
theorem ok_isshare {f fL : Addr} {fd fdL : FuncData} (F : Fun K "_law_is_share" "_law_is_share" sLawIsShare f fd) (FL : Fun K "_law_low" "_law_low" sLawLow fL fdL) (bL : Binds K fdL ["_law_top", "_law_bottom"] []) (gL : mg "_law_low" = some (.ref fL)) (ma : mg "abs" = none)
    (mi : mg "isinstance" = none) (mt : mg "tuple" = none) (mb : mg "bool" = none) (mI : mg "int" = none) (ml : mg "len" = none) :
    FnOk P w K mg base CX0 2 f fd ["_law_found"] spIsShare := by
  have GL : FnOk P w K mg base CX0 1 fL fdL ["_law_top", "_law_bottom"] spLow := ok_low FL ma
  refine F.ok scIsShare (fun vs H Q E h => ?_) (fun cdv A outer s H vs Q E hr h => ?_)
  · obtain ⟨v, p, rfl, _⟩ := h
    rfl
  · obtain ⟨v, p, rfl, ⟨t, rfl, ht⟩, ⟨p1, p2, p3, p4⟩, q⟩ := h
    have st : SqT K H t [.int p.1, .int p.2] := SqT.of ht
    have hu := hu64 hr
    refine ⟨_, pss_cons (ps_if (PW.pt (pw_or (pt_not (pt_val (pe_callB RZ.call_isTy (by rfl) mi (by decide +kernel) (pa_cons (pv 0) (pa_cons (pe_bltn (v := .ty "tuple") (by rfl) mt (by decide +kernel) rfl) pa_nil)))))
          (pw_or1 (pt_cmpR op_ne (pe_callB call_len_seq (by rfl) ml PySem.boot_len (pa_cons (pv 0) pa_nil)) pe_int (nomark _))))) (pss_one (ps_ret pe_bl)) pss_nil)
      (pss_cons (ps_for PassesOwn.never rfl (pi_tup (pv 0)) (pg_name (i := 1) scIsShare.nd rfl (.inl rfl))
        (pss_one (ps_if (PW.pt (pw_or (pt_val (pe_callB call_isi (by rfl) mi (by decide +kernel) (pa_cons (pv 1) (pa_cons (pe_bltn (v := .ty "bool") (by rfl) mb (by decide +kernel) rfl) pa_nil))))
          (pw_or1 (pt_not (pt_val (pe_callB call_isi (by rfl) mi (by decide +kernel) (pa_cons (pv 1) (pa_cons (pe_bltn (v := .ty "int") (by rfl) mI (by decide +kernel) rfl) pa_nil)))))))) (pss_one (ps_ret pe_bl)) pss_nil)))
      (pss_one (ps_ret (pe_and (pe_cmpR op_ge (pe_ix ix_tup (pv 0) pe_int (fun _ _ => rfl)) pe_int (nomark _)) (pe_and (pe_cmpR op_gt (pe_ix ix_tup (pv 0) pe_int (fun _ _ => rfl)) pe_int (nomark _))
        (pe_one (pe_cmpR (op_eqD hu) (pe_call GL hr (by rfl) gL FL.kp bL .nil pass0 (pa_cons (pe_ix ix_tup (pv 0) pe_int (fun _ _ => rfl)) (pa_cons (pe_ix ix_tup (pv 0) pe_int (fun _ _ => rfl)) pa_nil))) (pv 0) (nomark _)))))))), ?_⟩
    refine ⟨.ref t, rfl, .ref t, "tuple", rfl, .tup ht, true, rfl, .ref t, rfl, t, _, rfl, .inr st, rfl, _, rfl, iteNS rfl ?_⟩
    refine ⟨.ref t, rfl, t, rfl, ⟨_, st⟩, for_tup (K := K) (a := t) (xs := [.int p.1, .int p.2]) (fun i σ H' => ∃ y, σ = [some (.ref t), y] ∧ H' = H) ⟨none, rfl, rfl⟩ (fun i σ H' _ ⟨y, _, e⟩ => by rw [e]; exact st) ?_ ?_⟩
    · rintro i u σ H' hu' ⟨y, rfl, rfl⟩
      obtain ⟨z, rfl⟩ : ∃ z, u = V.int z := by
        match i, hu' with
        | 0, e => exact ⟨_, (Option.some.inj e).symm⟩
        | 1, e => exact ⟨_, (Option.some.inj e).symm⟩
        | i + 2, e => simp at e
      refine ⟨.int z, rfl, .int z, .ty "bool", .type "int", .type "bool", false, rfl, .ty _, .base (.int z), kit_ib, false, rfl, ?_⟩
      refine ⟨.int z, rfl, .int z, .ty "int", .type "int", .type "int", true, rfl, .ty _, .base (.int z), kit_ii, true, rfl, ?_⟩
      exact ⟨_, rfl, rfl⟩
    · rintro σ H' ⟨y, rfl, rfl⟩
      refine ⟨.ref t, rfl, t, _, 0, _, rfl, rfl, st, atI_nat (j := 0) rfl, p.1, 0, rfl, rfl, _, rfl, ifD p1 ?_⟩
      refine ⟨.ref t, rfl, t, _, 1, _, rfl, rfl, st, atI_nat (j := 1) rfl, p.2, 0, rfl, rfl, _, rfl, ifD p2 ?_⟩
      refine ⟨.ref t, rfl, t, _, 0, _, rfl, rfl, st, atI_nat (j := 0) rfl, .ref t, rfl, t, _, 1, _, rfl, rfl, st, atI_nat (j := 1) rfl, p.1, p.2, rfl, p2, p3, fun t2 nt2 => ?_⟩
      have s1 := same_new (o := .tup [.int (frac p.1 p.2).1, .int (frac p.1 p.2).2]) nt2
      refine ⟨.ref t, rfl, _, _, dp_pair upd_same, dp_pair (s1 _ _ ht), rfl, rfl, ?_⟩
      rw [eqv_pair, p4, decide_eq_true rfl]
      rw [p4] at s1
      exact q _ s1
def nAre : List Str := ["_law_found", "_law_many", "_law_one"]
theorem scAre : FnScope ["_law_found", "_law_many", "_law_one"] ["_law_found", "_law_many"] (defScope sLawAreShares) := ⟨rfl, rfl, rfl, by decide +kernel, rfl, by decide +kernel, by decide +kernel⟩
def spAre : Sp := fun vs H Q _ => ∃ (l : Addr) (us : List V) (xs : List Int) (z : Int), vs = [.ref l, .int (xs.length : Int)] ∧ H l = some (.lst us) ∧ Paired (fun u x => FracAt H u (frac x z)) us xs ∧ 0 < z ∧ z ≤ 1000000 ∧ (∀ x ∈ xs, 0 ≤ x) ∧ xs.sum = z ∧
  ∀ H', Same H H' → Q (.bl true) H'
theorem frac_is {x z : Int} (hx : 0 ≤ x) (hz : 0 < z) (h2 : z ≤ 1000000) : IsFr (frac x z) := by
  have a3 := frac_pos (x := x) hz
  have a4 := frac_le (x := x) hz
  refine ⟨frac_nn hx hz, a3, ?_, frac_idem hz⟩
  exact Nat.lt_of_lt_of_le (show (frac x z).2.natAbs < 2 ^ 20 by omega) (Nat.pow_le_pow_right (by decide) (by decide))
theorem ok_are {f fS fU fA fL : Addr} {fd fdS fdU fdA fdL : FuncData} (F : Fun K "_law_are_shares" "_law_are_shares" sLawAreShares f fd) (FS : Fun K "_law_is_share" "_law_is_share" sLawIsShare fS fdS) (bS : Binds K fdS ["_law_found"] []) (gS : mg "_law_is_share" = some (.ref fS))
    (FU : Fun K "_law_sum" "_law_sum" sLawSum fU fdU) (bU : Binds K fdU ["_law_some"] []) (gU : mg "_law_sum" = some (.ref fU)) (FA : Fun K "_law_add" "_law_add" sLawAdd fA fdA) (bA : Binds K fdA ["_law_one", "_law_other"] []) (gA : mg "_law_add" = some (.ref fA))
    (FL : Fun K "_law_low" "_law_low" sLawLow fL fdL) (bL : Binds K fdL ["_law_top", "_law_bottom"] []) (gL : mg "_law_low" = some (.ref fL)) (ma : mg "abs" = none)
    (mi : mg "isinstance" = none) (mt : mg "tuple" = none) (mL : mg "list" = none) (mb : mg "bool" = none) (mI : mg "int" = none) (ml : mg "len" = none) :
    FnOk P w K mg base CX0 4 f fd ["_law_found", "_law_many"] spAre := by
  have GS : FnOk P w K mg base CX0 2 fS fdS ["_law_found"] spIsShare := ok_isshare FS FL bL gL ma mi mt mb mI ml
  have GU : FnOk P w K mg base CX0 3 fU fdU ["_law_some"] spSumL := ok_sum FU FA bA gA FL bL gL ma
  refine F.ok scAre (fun vs H Q E h => ?_) (fun cdv A outer s H vs Q E hr h => ?_)
  · obtain ⟨l, us, xs, z, rfl, _⟩ := h
    rfl
  · obtain ⟨l, us, xs, z, rfl, hl, hp, z0, z1, hx, hs, q⟩ := h
    have hu := hu64 hr
    have hr2 : Room 2 _ := hr.mono (by decide)
    have el : us.length = xs.length := hp.length
    refine ⟨_, pss_cons (ps_if (PW.pt (pw_or (pt_not (pt_val (pe_callB RZ.call_isTy (by rfl) mi (by decide +kernel) (pa_cons (pv 0) (pa_cons (pe_bltn (v := .ty "list") (by rfl) mL (by decide +kernel) rfl) pa_nil)))))
          (pw_or1 (pt_cmpR op_ne (pe_callB call_len_seq (by rfl) ml PySem.boot_len (pa_cons (pv 0) pa_nil)) (pv 1) (nomark _))))) (pss_one (ps_ret pe_bl)) pss_nil)
      (pss_one (ps_ret (pe_and (pe_cmpR (op_eqD hu) (pe_lc (own := [("_law_one", 2)]) (g := gName 2) (tt := tNot (tB (tCall spIsShare [] E0 (tCons (tVar 2) tNil)))) rfl scAre.nd (pi_list (pv 0)) (blkOk_by (N := nAre) (sc := defScope sLawAreShares) (by decide +kernel))
            (fun _ _ _ _ _ => pg_name (i := 2) scAre.nd rfl (.inl rfl)) (fun _ _ _ _ _ => pts_one (pt_not (pt_val (pe_call GS hr2 (by rfl) gS FS.kp bS .nil pass0 (pa_cons (pv 2) pa_nil)))))
            (fun _ _ _ _ _ => pv 2)) (pe_lst pa_nil) (nomark _))
        (pe_one (pe_cmpR (op_eqD hu) (pe_call GU hr (by rfl) gU FU.kp bU .nil pass0 (pa_cons (pv 0) pa_nil)) (pe_tup (pa_cons pe_int (pa_cons pe_int pa_nil))) (nomark _)))))), ?_⟩
    refine ⟨.ref l, rfl, .ref l, "list", rfl, .lst hl, true, rfl, .ref l, rfl, l, _, rfl, .inl (SqL.of hl), .int (xs.length : Int), rfl, rfl, _, rfl, iteNS (by rw [el]) ?_⟩
    refine ⟨.ref l, rfl, l, rfl, ⟨_, SqL.of hl⟩, fun D nD => ?_⟩
    have sD : Same H (upd H D (.lst [])) := same_new nD
    refine lc_list (K := K) (a := l) (xs := us) (fun i H' => Same H H' ∧ H' D = some (.lst [])) ⟨sD, upd_same⟩ (fun i H' _ h => SqL.of (h.1 _ _ hl)) ?_ ?_
    · rintro i u H' hu' ⟨s1, hD⟩
      obtain ⟨x, ex, fx⟩ := paired_at hp hu'
      have x0 := hx x (List.mem_of_getElem? ex)
      refine ⟨rfl, u, rfl, u, _, rfl, fx.same s1, frac_is x0 z0 z1, fun H2 s2 => ⟨true, rfl, ?_⟩⟩
      exact ⟨s1.trans s2, s2 _ _ hD⟩
    · rintro H' ⟨s1, hD⟩
      refine ⟨Nat.zero_le _, fun e ne => ?_⟩
      have s2 : Same H' (upd H' e (.lst [])) := same_new ne
      refine ⟨.list [], .list [], .lst (SqL.of (s2 _ _ hD)) .nil, .lst (SqL.of upd_same) .nil, rfl, rfl, true, rfl, ?_⟩
      have s3 := s1.trans s2
      have hp3 : Paired (fun u x => FracAt (upd H' e (.lst [])) u (frac x z)) us xs := L2.Paired.mapP hp fun _ _ h => h.same s3
      refine ⟨.ref l, rfl, l, us, xs, z, rfl, s3 _ _ hl, hp3, z0, z1, hx, by omega, fun t H3 s4 ht => ?_⟩
      refine ⟨(by show 2 ≤ sizeLine; decide), fun t2 nt2 => ?_⟩
      have s5 := same_new (o := .tup [.int 1, .int 1]) nt2
      refine ⟨_, _, dp_pair (s5 _ _ ht), dp_pair (p := (1, 1)) upd_same, rfl, rfl, ?_⟩
      rw [hs, frac_self z0, eqv_pair, decide_eq_true rfl]
      exact q _ ((s3.trans s4).trans s5)
end
section
variable {P : Program} {w : World} {K : PySem.W.Frag} {mg : Str → Option Value} {base : Heap} {C : Addr}
/-- xs[i], by values -/
theorem pget_list {X : Cx} : PGet X (rIxL X.K) := by
  intro pins s σ H o i ov iv Q I ro ri h
  obtain ⟨p, xs, k, z, eo, ei, hq, he, q⟩ := h
  subst eo ei
  have e0 : ov = Value.ref p := ro
  subst e0
  obtain ⟨t, rfl⟩ := ri
  obtain ⟨its, r, pl, hz⟩ := I.list hq
  obtain ⟨j, h1, h2, h3, h4, h5⟩ := atI_get he
  obtain ⟨u, eu, ru⟩ := r.get h2
  have hl := r.length
  have hn := line63
  by_cases h0 : 0 ≤ k
  · have hj : k.toNat = j := by
      rw [seqIndex_of h0 h5] at h1
      exact Option.some.inj h1
    exact wpAny_getItem_list pl.isList h0 (by omega) (by rw [hj]; simpa using eu) ⟨z, H, I, ru, q⟩
  · have hj : (k + (its.toArray.size : Int)).toNat = j := by
      rw [seqIndex_neg (by omega) h4] at h1
      rw [List.size_toArray, ← hl]
      exact Option.some.inj h1
    exact wpAny_getItem_list_neg pl.isList (by omega) (by rw [List.size_toArray] <;> omega) (by omega) (by rw [hj]; simpa using eu) ⟨z, H, I, ru, q⟩
/-! ### _weights -/
/-- the weights of the moves that lead b to e -/
def cnt (ms : List Mv) (b e : Nat) : Int := (ms.map fun m => if m.2[b]? = some ((e : Nat) : Int) then m.1 else 0).sum
def tot (ms : List Mv) : Int := (ms.map (·.1)).sum
def rowV (many : Nat) (g : Nat → Int) : List V := (List.range many).map fun e => V.int (g e)
/-- rows of numbers: the lists at as, told by f; all new since H0 -/
structure RowsAt (H0 H : Hp) (R : Addr) (as : List Addr) (many : Nat) (f : Nat → Nat → Int) : Prop where
  at_ : H R = some (.lst (as.map V.ref))
  len : as.length = many
  row : ∀ b a, as[b]? = some a → H a = some (.lst (rowV many (f b)))
  nd : as.Nodup
  new : ∀ a ∈ as, H0 a = none
  newR : H0 R = none
  neR : R ∉ as
theorem rowV_get {many e : Nat} {g : Nat → Int} (h : e < many) : (rowV many g)[e]? = some (.int (g e)) := by
  unfold rowV
  rw [List.getElem?_map, List.getElem?_range h]
  rfl
theorem rowV_len (many : Nat) (g : Nat → Int) : (rowV many g).length = many := by
  unfold rowV
  rw [List.length_map, List.length_range]
theorem rowV_set {many e : Nat} {g : Nat → Int} {z : Int} (h : e < many) : (rowV many g).set e (.int z) = rowV many (fun x => if x = e then z else g x) := by
  apply List.ext_getElem?
  intro i
  rw [List.getElem?_set]
  by_cases hi : i < many
  · rw [rowV_get hi, rowV_get hi, rowV_len]
    by_cases he : e = i
    · subst he
      rw [if_pos rfl, if_pos h, if_pos rfl]
    · rw [if_neg he, if_neg (Ne.symm he)]
  · have h1 : (rowV many g)[i]? = none := List.getElem?_eq_none_iff.mpr (by rw [rowV_len]; omega)
    have h2 : (rowV many (fun x => if x = e then z else g x))[i]? = none := List.getElem?_eq_none_iff.mpr (by rw [rowV_len]; omega)
    rw [h1, h2, if_neg (by omega)]
theorem RowsAt.same {H0 H H' : Hp} {R : Addr} {as : List Addr} {many : Nat} {f : Nat → Nat → Int} (h : RowsAt H0 H R as many f) (s : Same H H') : RowsAt H0 H' R as many f :=
  ⟨s _ _ h.at_, h.len, fun b a e => s _ _ (h.row b a e), h.nd, h.new, h.newR, h.neR⟩
/-- one number of one row is changed -/
theorem RowsAt.put {H0 H : Hp} {R : Addr} {as : List Addr} {many : Nat} {f : Nat → Nat → Int} {b e : Nat} {a : Addr} {z : Int} (h : RowsAt H0 H R as many f) (hb : as[b]? = some a) (he : e < many) :
    RowsAt H0 (upd H a (.lst ((rowV many (f b)).set e (.int z)))) R as many (fun x y => if x = b ∧ y = e then z else f x y) := by
  have ma := List.mem_of_getElem? hb
  have nRa : R ≠ a := fun q => h.neR (q ▸ ma)
  refine ⟨by rw [upd_ne nRa]; exact h.at_, h.len, fun x c hx => ?_, h.nd, h.new, h.newR, h.neR⟩
  by_cases hx2 : x = b
  · subst hx2
    rw [hb] at hx
    cases hx
    rw [upd_same, rowV_set he]
    congr 3
    funext y
    by_cases hy : y = e
    · rw [if_pos hy, if_pos ⟨rfl, hy⟩]
    · rw [if_neg hy, if_neg (fun q => hy q.2)]
  · have nc : c ≠ a := fun q => hx2 (nd_ix h.nd hx (q ▸ hb))
    rw [upd_ne nc, h.row x c hx]
    congr 3
    funext y
    rw [if_neg (fun q => hx2 q.1)]
theorem RowsAt.keep {H0 H : Hp} {R : Addr} {as : List Addr} {many : Nat} {f : Nat → Nat → Int} {a : Addr} {o : HO} (h : RowsAt H0 H R as many f) (s : Same H0 H) (ma : a ∈ as) : Same H0 (upd H a o) := fun b u e => by
  rw [upd_ne (ne_of_none e (h.new a ma))]
  exact s b u e
theorem flat_rep {α : Type} : ∀ (n : Nat) (x : α), (List.replicate n [x]).flatten = List.replicate n x
  | 0, _ => rfl
  | n + 1, x => by rw [List.replicate_succ, List.flatten_cons, flat_rep n x, List.replicate_succ]; rfl
def spWeights (C : Addr) : Sp := fun vs H Q _ => ∃ (x : Addr) (many : Nat) (ms : List Mv), vs = [.ref x] ∧ ChainAt C H x many ms ∧ Good many ms ∧ ∀ R as H', Same H H' → RowsAt H H' R as many (cnt ms) → Q (.ref R) H'
def nW : List Str := ["chain", "rows", "weight", "whither", "begin", "end", "_"]
theorem scW : FnScope ["chain", "rows", "weight", "whither", "begin", "end", "_"] ["chain"] (defScope sWeights) := ⟨rfl, rfl, rfl, by decide +kernel, rfl, by decide +kernel, by decide +kernel⟩
theorem cnt_snoc (ms : List Mv) (i : Nat) (m : Mv) (h : ms[i]? = some m) (b e : Nat) : cnt (ms.take (i + 1)) b e = cnt (ms.take i) b e + (if m.2[b]? = some ((e : Nat) : Int) then m.1 else 0) := by
  unfold cnt
  rw [List.take_add_one, h, List.map_append, List.sum_append]
  simp
/-- what a chain's methods are -/
structure ChM (K : PySem.W.Frag) (C fP fT : Addr) (fdP fdT : FuncData) : Prop where
  FP : Fun K "places" "Chain.places" (inClass cChain 1) fP fdP
  bP : Binds K fdP ["self"] []
  hP : Meth K C "places" fP
  FT : Fun K "told" "Chain.told" (inClass cChain 2) fT fdT
  bT : Binds K fdT ["self"] []
  hT : Meth K C "told" fT
  cl : Cls K C
  nM : NoAttr K C "_many"
  nV : NoAttr K C "_moves"
theorem ch_no {many : Int} {a : Addr} : (chF many a).lookup ("places" : Str) = none := chF_no _ _ (by decide +kernel) (by decide +kernel)
theorem ch_noT {many : Int} {a : Addr} : (chF many a).lookup ("told" : Str) = none := chF_no _ _ (by decide +kernel) (by decide +kernel)
theorem ok_weights {f fP fT : Addr} {fd fdP fdT : FuncData} (F : Fun K "_weights" "_weights" sWeights f fd) (T : ChM K C fP fT fdP fdT) (mr : mg "range" = none) (me : mg "enumerate" = none) (mL : mg "list" = none) : FnOk P w K mg base CX0 2 f fd ["chain"] (spWeights C) := by
  have GP : FnOk P w K mg base CX0 1 fP fdP ["self"] (spPlaces C) := ok_places T.FP T.cl T.nM
  have GT : FnOk P w K mg base CX0 1 fT fdT ["self"] (spTold C) := ok_told T.FT T.cl T.nV mL
  refine F.ok scW (fun vs H Q E h => ?_) (fun cdv A outer s H vs Q E hr h => ?_)
  · obtain ⟨x, many, ms, rfl, _⟩ := h
    rfl
  · obtain ⟨x, many, ms, rfl, hC, G, q⟩ := h
    refine ⟨_, pss_cons (ps_setLc (i := 1) (own := [("_", 6)]) (g := gName 6) (tt := tYes) rfl scW.nd rfl rfl (sw_true rfl rfl rfl (by decide +kernel)) (pi_range1 (by rfl) mr (pa_cons (pe_meth0 (pv 0) T.cl T.hP GP hr T.bP .nil pass0) pa_nil)) (blkOk_by (N := nW) (sc := defScope sWeights) (by decide +kernel))
          (fun _ _ _ _ _ => pg_name (i := 6) scW.nd rfl (.inl rfl)) (fun _ _ _ _ _ => pts_nil) (fun _ _ _ _ _ => pe_op op_rep (pe_lst (pa_cons pe_int pa_nil)) (pe_meth0 (pv 0) T.cl T.hP GP hr T.bP .nil pass0)))
      (pss_cons (ps_for PassesOwn.never rfl (pi_list (pe_meth0 (pv 0) T.cl T.hT GT hr T.bT .nil pass0)) (pg_tup rfl (pgs_cons (pg_name (i := 2) scW.nd rfl (.inl rfl)) (pgs_cons (pg_name (i := 3) scW.nd rfl (.inl rfl)) pgs_nil)))
        (pss_one (ps_for PassesOwn.never rfl (pi_enumT (by rfl) me (pa_cons (pv 3) pa_nil)) (pg_tup rfl (pgs_cons (pg_name (i := 4) scW.nd rfl (.inl rfl)) (pgs_cons (pg_name (i := 5) scW.nd rfl (.inl rfl)) pgs_nil)))
          (pss_one (ps_augS (pe_ix ix_list (pv 1) (pv 4) (fun _ _ => rfl)) (pv 5) pget_list (pv 2) ip_add set_list)))))
      (pss_one (ps_ret (pv 1)))), ?_⟩
    obtain ⟨dx, a0, ws, h1, h2, h3⟩ := id hC
    have m1 := G.m1
    have m6 := G.m6
    have en : ((many : Nat) : Int).toNat = many := by omega
    -- rows = [[0] * chain.places() for _ in range(chain.places())]
    refine ⟨.ref x, rfl, x, dx, _, rfl, h1, ch_no, x, many, ms, rfl, hC, _, rfl, by omega, by omega, fun R nR => ?_⟩
    refine lc_range (lo := 0) (n := ((many : Nat) : Int).toNat) (fun j H' => Same H H' ∧ ∃ as : List Addr, as.length = j ∧ H' R = some (.lst (as.map V.ref)) ∧ (∀ a ∈ as, H' a = some (.lst (rowV many fun _ => 0))) ∧ as.Nodup ∧ (∀ a ∈ as, H a = none) ∧ R ∉ as)
      ⟨same_new nR, [], rfl, upd_same, (fun _ z => nomatch z), List.nodup_nil, (fun _ z => nomatch z), (fun z => nomatch z)⟩ ?_ ?_
    · rintro j H1 hj ⟨s1, as, el, hR, hrow, nd, new, nRa⟩
      rw [en] at hj
      refine ⟨rfl, Nat.le_add_left 1 0 |> fun _ => (by show 1 ≤ sizeLine; decide), fun z nz => ?_⟩
      have s2 : Same H1 (upd H1 z (.lst [.int 0])) := same_new nz
      have hC2 := (hC.same s1).same s2
      obtain ⟨dx2, a2, ws2, g1, g2, g3⟩ := id hC2
      refine ⟨.ref x, rfl, x, dx2, _, rfl, g1, ch_no, x, many, ms, rfl, hC2, ?_⟩
      refine ⟨z, (many : Int), [.int 0], rfl, rfl, upd_same, by omega, by omega, ?_, fun y ny => ?_⟩
      · rw [en]
        exact Nat.le_of_lt (small8 (by show 1 * many ≤ 8; omega))
      · have s3 : Same (upd H1 z (.lst [.int 0])) (upd (upd H1 z (.lst [.int 0])) y (.lst (List.replicate ((many : Nat) : Int).toNat [V.int 0]).flatten)) := same_new ny
        have erow : (List.replicate ((many : Nat) : Int).toNat [V.int 0]).flatten = rowV many fun _ => 0 := by
          rw [en]
          unfold rowV
          apply List.ext_getElem?
          intro i
          have e1 := flat_rep many (V.int 0)
          rw [e1, List.getElem?_replicate, List.getElem?_map]
          by_cases hi : i < many
          · rw [if_pos hi, List.getElem?_range hi]
            rfl
          · rw [if_neg hi, List.getElem?_eq_none_iff.mpr (by rw [List.length_range]; omega)]
            rfl
        have ny1 : H1 y = none := s2.free ny
        have hRn : (upd (upd H1 z (.lst [.int 0])) y (.lst (List.replicate ((many : Nat) : Int).toNat [V.int 0]).flatten)) R = some (.lst (as.map V.ref)) := s3 _ _ (s2 _ _ hR)
        refine ⟨_, hRn, by rw [List.length_map, el]; exact small8 (by omega), ?_⟩
        have nyR : y ≠ R := (ne_of_none hR ny1).symm
        have keep : ∀ b u, b ≠ R → H1 b = some u → (upd (upd (upd H1 z (.lst [.int 0])) y (.lst (List.replicate ((many : Nat) : Int).toNat [V.int 0]).flatten)) R (.lst (as.map V.ref ++ [.ref y]))) b = some u := fun b u nb e => by
          rw [upd_ne nb]
          exact s3 _ _ (s2 _ _ e)
        refine ⟨fun b u e => ?_, as ++ [y], by rw [List.length_append, el]; rfl, by rw [upd_same, List.map_append]; rfl, fun a ha => ?_, ?_, fun a ha => ?_, ?_⟩
        · by_cases hb : b = R
          · rw [hb] at e
            rw [nR] at e
            cases e
          · exact keep b u hb (s1 _ _ e)
        · rcases List.mem_append.mp ha with ha | ha
          · exact keep a _ (fun q => nRa (q ▸ ha)) (hrow a ha)
          · have ea : a = y := by simpa using ha
            rw [ea, upd_ne nyR, upd_same, erow]
        · refine List.nodup_append.mpr ⟨nd, by simp, fun a ha b hb => ?_⟩
          have eb : b = y := by simpa using hb
          rw [eb]
          exact ne_of_none (hrow a ha) ny1
        · rcases List.mem_append.mp ha with ha | ha
          · exact new a ha
          · have ea : a = y := by simpa using ha
            rw [ea]
            exact s1.free ny1
        · intro ha
          rcases List.mem_append.mp ha with ha | ha
          · exact nRa ha
          · have ea : R = y := by simpa using ha
            exact nyR ea.symm
    · rintro H1 ⟨s1, as, el, hR, hrow, nd, new, nRa⟩
      rw [en] at el
      have RA0 : RowsAt H H1 R as many (cnt []) := ⟨hR, el, fun b a e => hrow a (List.mem_of_getElem? e), nd, new, nR, nRa⟩
      have hC1 := hC.same s1
      obtain ⟨dx1, a1, ws1, g1, g2, g3⟩ := id hC1
      refine ⟨.ref x, rfl, x, dx1, _, rfl, g1, ch_noT, x, many, ms, rfl, hC1, fun l wl nl hM => ?_⟩
      have s2 : Same H1 (upd H1 l (.lst wl)) := same_new nl
      have lenW := hM.length
      have nlH : H l = none := s1.free nl
      refine ⟨l, rfl, ⟨_, SqL.of upd_same⟩, for_list (K := K) (a := l) (xs := wl)
        (fun i σ H' => ∃ y2 y3 y4 y5, σ = [some (.ref x), some (.ref R), y2, y3, y4, y5, none] ∧ Same H H' ∧ H' l = some (.lst wl) ∧ MovesAt H' wl ms ∧ RowsAt H H' R as many (cnt (ms.take i)) ∧ l ∉ as)
        ⟨none, none, none, none, rfl, s1.trans s2, upd_same, hM, RA0.same s2, fun q => ?_⟩ (fun i σ H' _ ⟨_, _, _, _, _, _, hl, _⟩ => SqL.of hl) ?_ ?_⟩
      · have := hrow l q
        rw [nl] at this
        cases this
      · rintro i v σ H2 hv ⟨y2, y3, y4, y5, rfl, sH, hl, hM2, RA, nla⟩
        obtain ⟨m, em, ⟨ta, tb, rfl, hta, htb⟩⟩ := hM2.get' hv
        have hgood := G.mv m (List.mem_of_getElem? em)
        obtain ⟨_, _, hlen, hin⟩ := hgood
        refine ⟨ta, _, rfl, SqT.of hta, rfl, .int m.1, [.ref tb], rfl, .ref tb, [], rfl, rfl, ?_⟩
        refine ⟨.ref tb, rfl, tb, _, rfl, SqT.of htb, for_it (walk_enumT (K := K) (a := tb) (xs := m.2.map V.int))
          (fun j σ H' => ∃ y4 y5, σ = [some (.ref x), some (.ref R), some (.int m.1), some (.ref tb), y4, y5, none] ∧ Same H H' ∧ H' l = some (.lst wl) ∧ MovesAt H' wl ms ∧ H' tb = some (.tup (m.2.map V.int)) ∧
            RowsAt H H' R as many (fun b e => cnt (ms.take i) b e + (if b < j ∧ m.2[b]? = some ((e : Nat) : Int) then m.1 else 0)))
          ⟨y4, y5, rfl, sH, hl, hM2, htb, ?_⟩ (fun j σ H' _ ⟨_, _, _, _, _, _, h, _⟩ => SqT.of h) ?_ ?_⟩
        · have ef : (fun b e => cnt (ms.take i) b e + (if b < 0 ∧ m.2[b]? = some ((e : Nat) : Int) then m.1 else 0)) = cnt (ms.take i) := by
            funext b e
            rw [if_neg (fun q => absurd q.1 (Nat.not_lt_zero _)), Int.add_zero]
          rw [ef]
          exact RA
        · rintro j z σ H3 H4 hj ⟨y4, y5, rfl, sH3, hl3, hM3, htb3, RA3⟩ ⟨Tp, u, u2, rfl, nT, rfl, eu, ev⟩
          have eu' : V.int ((j : Nat) : Int) = u := Option.some.inj eu
          subst eu'
          rw [List.length_map, hlen] at hj
          have hj2 : j < m.2.length := by omega
          have ev : (m.2.map V.int)[j]? = some u2 := ev
          rw [List.getElem?_map, List.getElem?_eq_getElem hj2] at ev
          have eu2 : V.int m.2[j] = u2 := Option.some.inj ev
          subst eu2
          obtain ⟨e0, e1⟩ := hin m.2[j] (List.getElem_mem hj2)
          obtain ⟨e, ee⟩ : ∃ e : Nat, m.2[j] = (e : Int) := ⟨m.2[j].toNat, by omega⟩
          have he : e < many := by omega
          have s4 : Same H3 (upd H3 Tp (.tup [.int ((j : Nat) : Int), .int m.2[j]])) := same_new nT
          have RA4 := RA3.same s4
          obtain ⟨a, ha⟩ : ∃ a, as[j]? = some a := ⟨as[j]'(by omega), List.getElem?_eq_getElem (by omega)⟩
          have hrw := RA4.row j a ha
          have ma := List.mem_of_getElem? ha
          refine ⟨Tp, _, rfl, SqT.of upd_same, rfl, .int ((j : Nat) : Int), [.int m.2[j]], rfl, .int m.2[j], [], rfl, rfl, ?_⟩
          have gj : (as.map V.ref)[j]? = some (.ref a) := by rw [List.getElem?_map, ha]; rfl
          refine ⟨.ref R, rfl, .int ((j : Nat) : Int), rfl, R, _, ((j : Nat) : Int), _, rfl, rfl, SqL.of RA4.at_, atI_nat gj, .int m.2[j], rfl, ?_⟩
          have gz : (rowV many (fun e => cnt (ms.take i) j e + (if j < j ∧ m.2[j]? = some ((e : Nat) : Int) then m.1 else 0)))[e]? = some (.int (cnt (ms.take i) j e)) := by
            rw [rowV_get he, if_neg (fun q => absurd q.1 (Nat.lt_irrefl _)), Int.add_zero]
          refine ⟨a, _, m.2[j], _, rfl, rfl, SqL.of hrw, at_of ee gz, .int m.1, rfl, _, _, rfl, rfl, a, _, m.2[j], e, rfl, rfl, hrw, ?_, ?_⟩
          · rw [ee, rowV_len]
            unfold ixN
            rw [if_pos (by omega), if_pos (by omega)]
            rfl
          · have RA5 := RA4.put (z := cnt (ms.take i) j e + m.1) ha he
            have neq : ∀ {b : Addr} {u : HO}, H b = some u → b ≠ a := fun e => ne_of_none e (RA4.new a ma)
            have nl2 : l ≠ a := fun q => nla (q ▸ ma)
            refine ⟨some (.int ((j : Nat) : Int)), some (.int m.2[j]), rfl, RA4.keep (sH3.trans s4) ma, ?_, ?_, ?_, ?_⟩
            · rw [upd_ne nl2]
              exact s4 _ _ hl3
            · refine MovesAt.same (fun b xs q => ?_) (hM3.same (Same.tups s4))
              rw [upd_ne]
              · exact q
              · intro q2
                rw [q2, hrw] at q
                cases q
            · rw [upd_ne]
              · exact s4 _ _ htb3
              · intro q2
                have := s4 _ _ htb3
                rw [q2, hrw] at this
                cases this
            · have ef : (fun x y => if x = j ∧ y = e then cnt (ms.take i) j e + m.1 else cnt (ms.take i) x y + (if x < j ∧ m.2[x]? = some ((y : Nat) : Int) then m.1 else 0)) = fun b e => cnt (ms.take i) b e + (if b < j + 1 ∧ m.2[b]? = some ((e : Nat) : Int) then m.1 else 0) := by
                funext b y
                by_cases hb : b = j
                · subst hb
                  have g : m.2[b]? = some m.2[b] := List.getElem?_eq_getElem hj2
                  by_cases hy : y = e
                  · subst hy
                    rw [if_pos ⟨rfl, rfl⟩, if_pos ⟨Nat.lt_succ_self _, by rw [g, ee]⟩]
                  · rw [if_neg (fun q => hy q.2), if_neg (fun q => Nat.lt_irrefl _ q.1), if_neg (fun q => hy ?_)]
                    have q2 := q.2
                    rw [g, ee] at q2
                    have := Option.some.inj q2
                    omega
                · rw [if_neg (fun q => hb q.1)]
                  have hh : (b < j ∧ m.2[b]? = some ((y : Nat) : Int)) ↔ (b < j + 1 ∧ m.2[b]? = some ((y : Nat) : Int)) := ⟨fun q => ⟨Nat.lt_succ_of_lt q.1, q.2⟩, fun q => ⟨by omega, q.2⟩⟩
                  by_cases hc : b < j ∧ m.2[b]? = some ((y : Nat) : Int)
                  · rw [if_pos hc, if_pos (hh.mp hc)]
                  · rw [if_neg hc, if_neg (fun q => hc (hh.mpr q))]
              rw [← ef]
              exact RA5
        · rintro σ H3 ⟨y4, y5, rfl, sH3, hl3, hM3, htb3, RA3⟩
          refine ⟨some (.int m.1), some (.ref tb), y4, y5, rfl, sH3, hl3, hM3, ?_, nla⟩
          have ef : (fun b e => cnt (ms.take i) b e + (if b < (m.2.map V.int).length ∧ m.2[b]? = some ((e : Nat) : Int) then m.1 else 0)) = cnt (ms.take (i + 1)) := by
            funext b e
            rw [cnt_snoc ms i m em, List.length_map]
            by_cases hc : m.2[b]? = some ((e : Nat) : Int)
            · obtain ⟨hlt, _⟩ := List.getElem?_eq_some_iff.mp hc
              rw [if_pos ⟨hlt, hc⟩, if_pos hc]
            · rw [if_neg (fun q => hc q.2), if_neg hc]
          rw [← ef]
          exact RA3
      · rintro σ H2 ⟨y2, y3, y4, y5, rfl, sH, hl, hM2, RA, nla⟩
        rw [lenW, List.take_length] at RA
        exact ⟨.ref R, rfl, q R as H2 sH RA⟩
end
/-! ### chances -/
theorem sum_map_add {α : Type} : ∀ (l : List α) (f g : α → Int), (l.map fun x => f x + g x).sum = (l.map f).sum + (l.map g).sum
  | [], _, _ => rfl
  | a :: l, f, g => by
    have ih := sum_map_add l f g
    simp only [List.map_cons, List.sum_cons, ih]
    omega
theorem sum_zero : ∀ (l : List Nat), (l.map fun _ => (0 : Int)).sum = 0
  | [] => rfl
  | _ :: l => by
    simp only [List.map_cons, List.sum_cons, sum_zero l]
    rfl
theorem sum_none : ∀ (n k : Nat) (c : Int), n ≤ k → ((List.range n).map fun e => if some ((k : Nat) : Int) = some ((e : Nat) : Int) then c else 0).sum = 0
  | 0, _, _, _ => rfl
  | n + 1, k, c, h => by
    rw [List.range_succ, List.map_append, List.sum_append, sum_none n k c (by omega)]
    have : ¬ some ((k : Nat) : Int) = some ((n : Nat) : Int) := fun q => by
      have := Option.some.inj q
      omega
    simp [this]
    omega
theorem sum_ind : ∀ (n k : Nat) (c : Int), k < n → ((List.range n).map fun e => if some ((k : Nat) : Int) = some ((e : Nat) : Int) then c else 0).sum = c
  | 0, _, _, h => absurd h (Nat.not_lt_zero _)
  | n + 1, k, c, h => by
    rw [List.range_succ, List.map_append, List.sum_append]
    by_cases e : k = n
    · subst e
      rw [sum_none k k c (Nat.le_refl _)]
      simp
    · rw [sum_ind n k c (by omega)]
      have : ¬ some ((k : Nat) : Int) = some ((n : Nat) : Int) := fun q => by
        have := Option.some.inj q
        omega
      simp [this]
      omega
theorem sum_cnt {many b : Nat} (hb : b < many) : ∀ {ms : List Mv}, (∀ m ∈ ms, GoodMv many m) → ((List.range many).map (cnt ms b)).sum = tot ms
  | [], _ => by
    show ((List.range many).map fun _ => (0 : Int)).sum = 0
    exact sum_zero _
  | m :: ms, h => by
    have ih := sum_cnt hb (ms := ms) fun x hx => h x (List.mem_cons_of_mem _ hx)
    have ef : cnt (m :: ms) b = fun e => (if m.2[b]? = some ((e : Nat) : Int) then m.1 else 0) + cnt ms b e := by
      funext e
      unfold cnt
      rw [List.map_cons, List.sum_cons]
    rw [ef, sum_map_add, ih]
    obtain ⟨_, _, hl, hx⟩ := h m List.mem_cons_self
    have hb2 : b < m.2.length := by omega
    obtain ⟨h0, h1⟩ := hx m.2[b] (List.getElem_mem hb2)
    obtain ⟨k, ek⟩ : ∃ k : Nat, m.2[b] = (k : Int) := ⟨m.2[b].toNat, by omega⟩
    rw [List.getElem?_eq_getElem hb2, ek, sum_ind many k m.1 (by omega)]
    unfold tot
    rw [List.map_cons, List.sum_cons]
theorem tot_pos {many : Nat} {ms : List Mv} (G : Good many ms) : 0 < tot ms ∧ tot ms ≤ 792 := by
  have key : ∀ l : List Mv, (∀ m ∈ l, GoodMv many m) → (l.length : Int) ≤ tot l ∧ tot l ≤ 99 * (l.length : Int) := by
    intro l
    induction l with
    | nil =>
      intro _
      exact ⟨by decide, by decide⟩
    | cons m l ih =>
      intro h
      obtain ⟨a, b⟩ := ih fun x hx => h x (List.mem_cons_of_mem _ hx)
      obtain ⟨c, d, _⟩ := h m List.mem_cons_self
      unfold tot at *
      rw [List.map_cons, List.sum_cons, List.length_cons]
      constructor <;> omega
  obtain ⟨a, b⟩ := key ms G.mv
  have := G.l1
  have := G.l8
  omega
theorem cnt_nn {many : Nat} {ms : List Mv} (h : ∀ m ∈ ms, GoodMv many m) (b e : Nat) : 0 ≤ cnt ms b e := by
  unfold cnt
  refine sum_nn fun x hx => ?_
  obtain ⟨m, hm, rfl⟩ := List.mem_map.mp hx
  have := (h m hm).1
  split <;> omega
def FracRow (H : Hp) (l : Addr) (ps : List (Int × Int)) : Prop := ∃ us, H l = some (.lst us) ∧ Paired (FracAt H) us ps
theorem FracRow.same {H H' : Hp} {l : Addr} {ps : List (Int × Int)} (s : Same H H') (h : FracRow H l ps) : FracRow H' l ps := by
  obtain ⟨us, e, p⟩ := h
  exact ⟨us, s _ _ e, L2.Paired.mapP p fun _ _ q => q.same s⟩
def ChanAt (H : Hp) (L : Addr) (pss : List (List (Int × Int))) : Prop := ∃ ls : List Addr, H L = some (.lst (ls.map V.ref)) ∧ Paired (FracRow H) ls pss
def chanOf (many : Nat) (ms : List Mv) : List (List (Int × Int)) := (List.range many).map fun b => (List.range many).map fun e => frac (cnt ms b e) (tot ms)
theorem paired_snoc {α β : Type} {F : α → β → Prop} {a : α} {b : β} (h : F a b) : ∀ {l₁ : List α} {l₂ : List β}, Paired F l₁ l₂ → Paired F (l₁ ++ [a]) (l₂ ++ [b])
  | _, _, .nil => .cons h .nil
  | _, _, .cons q t => .cons q (paired_snoc h t)
theorem take_map_range {β : Type} {n i : Nat} (f : Nat → β) (h : i < n) : ((List.range n).map f).take (i + 1) = ((List.range n).map f).take i ++ [f i] := by
  rw [List.take_add_one, List.getElem?_map, List.getElem?_range h]
  rfl
section
variable {P : Program} {w : World} {K : PySem.W.Frag} {mg : Str → Option Value} {base : Heap} {C : Addr}
def spChances (C : Addr) : Sp := fun vs H Q _ => ∃ (x : Addr) (many : Nat) (ms : List Mv), vs = [.ref x] ∧ ChainAt C H x many ms ∧ Good many ms ∧ ∀ L H', Same H H' → ChanAt H' L (chanOf many ms) → Q (.ref L) H'
def retE (st : Stmt) : Expr := match defBody st with
  | [.Return (some e) _] => e
  | _ => .Constant .none 0 ⟨0, 0, 0, 0⟩
def lcScope (e : Expr) : Scope := match e with
  | .ListComp _ _ sc _ => sc
  | _ => { kind := .function, names := [], isGenerator := false, isCoroutine := false }
def nCh : List Str := ["chain", "row", "weight"]
theorem scCh : FnScope ["chain", "row", "weight"] ["chain"] (defScope sChances) := ⟨rfl, rfl, rfl, by decide +kernel, rfl, by decide +kernel, by decide +kernel⟩
theorem ok_chances {f fW fF fP fT : Addr} {fd fdW fdF fdP fdT : FuncData} (F : Fun K "chances" "chances" sChances f fd) (FW : Fun K "_weights" "_weights" sWeights fW fdW) (bW : Binds K fdW ["chain"] []) (gW : mg "_weights" = some (.ref fW))
    (FF : Fun K "fraction" "fraction" sFraction fF fdF) (bF : Binds K fdF ["top", "bottom"] []) (gF : mg "fraction" = some (.ref fF)) (mgcd : mg "gcd" = some (.builtin "math.gcd")) (T : ChM K C fP fT fdP fdT) (mr : mg "range" = none) (me : mg "enumerate" = none) (mL : mg "list" = none) (msum : mg "sum" = none) :
    FnOk P w K mg base CX0 3 f fd ["chain"] (spChances C) := by
  have GW : FnOk P w K mg base CX0 2 fW fdW ["chain"] (spWeights C) := ok_weights FW T mr me mL
  have GF : FnOk P w K mg base CX0 1 fF fdF ["top", "bottom"] spFraction := ok_fraction FF mgcd
  refine F.ok scCh (fun vs H Q E h => ?_) (fun cdv A outer s H vs Q E hr h => ?_)
  · obtain ⟨x, many, ms, rfl, _⟩ := h
    rfl
  · obtain ⟨x, many, ms, rfl, hC, G, q⟩ := h
    have hr1 : Room 1 _ := hr.mono (by decide)
    refine ⟨_, pss_one (ps_ret (pe_lc (own := [("row", 1)]) (g := gName 1) (tt := tYes) (te := tLc (iList K (tVar 1)) (gName 2) tYes (tCall spFraction [] E0 (tCons (tVar 2) (tCons (tCB (rSum K) (tCons (tVar 1) tNil)) tNil))) [2]) rfl scCh.nd (pi_list (pe_call GW hr (by rfl) gW FW.kp bW .nil pass0 (pa_cons (pv 0) pa_nil))) (blkOk_by (N := nCh) (sc := defScope sChances) (by decide +kernel))
        (fun _ _ _ _ _ => pg_name (i := 1) scCh.nd rfl (.inr rfl)) (fun _ _ _ _ _ => pts_nil)
        (fun _ _ _ _ _ => by exact (pe_lc (own := [("weight", 2)]) (g := gName 2) (tt := tYes) (te := tCall spFraction [] E0 (tCons (tVar 2) (tCons (tCB (rSum K) (tCons (tVar 1) tNil)) tNil))) rfl scCh.nd (pi_list (pv 1)) (blkOk_by (N := nCh) (sc := lcScope (retE sChances)) (by decide +kernel))
          (fun _ _ _ _ _ => pg_name (i := 2) scCh.nd rfl (.inl rfl)) (fun _ _ _ _ _ => pts_nil)
          (fun _ _ _ _ _ => by exact (pe_call GF hr1 (by rfl) gF FF.kp bF .nil pass0 (pa_cons (pv 2) (pa_cons (by exact (pe_callB (cr_sum rfl) (by rfl) msum (by decide +kernel) (pa_cons (pv 1) pa_nil))) pa_nil)))))))), ?_⟩
    obtain ⟨tp, t792⟩ := tot_pos G
    refine ⟨.ref x, rfl, x, many, ms, rfl, hC, G, fun R as H1 s1 RA => ?_⟩
    refine ⟨R, rfl, ⟨_, SqL.of RA.at_⟩, fun D nD => ?_⟩
    have nDH : H D = none := s1.free nD
    refine lc_list (K := K) (a := R) (xs := as.map V.ref) (fun i H' => Same H1 H' ∧ ∃ ls : List Addr, ls.length = i ∧ H' D = some (.lst (ls.map V.ref)) ∧ Paired (FracRow H') ls ((chanOf many ms).take i) ∧ D ∉ ls)
      ⟨same_new nD, [], rfl, upd_same, .nil, (fun z => nomatch z)⟩ (fun i H' _ h => SqL.of (h.1 _ _ RA.at_)) ?_ ?_
    · rintro i v H2 hv ⟨s2, ls, el, hD, hp, nDl⟩
      rw [List.getElem?_map] at hv
      obtain ⟨a, ha, rfl⟩ := Option.map_eq_some_iff.mp hv
      have hi : i < many := by
        obtain ⟨q, _⟩ := List.getElem?_eq_some_iff.mp ha
        rw [RA.len] at q
        exact q
      have hrow := s2 _ _ (RA.row i a ha)
      refine ⟨rfl, .ref a, rfl, a, rfl, ⟨_, SqL.of hrow⟩, fun D2 nD2 => ?_⟩
      refine lc_list (K := K) (a := a) (xs := rowV many (cnt ms i)) (fun j H' => Same H2 H' ∧ ∃ us : List V, us.length = j ∧ H' D2 = some (.lst us) ∧ Paired (FracAt H') us (((List.range many).map fun e => frac (cnt ms i e) (tot ms)).take j))
        ⟨same_new nD2, [], rfl, upd_same, .nil⟩ (fun j H' _ h => SqL.of (h.1 _ _ hrow)) ?_ ?_
      · rintro j y H3 hy ⟨s3, us, eu, hD2, hp2⟩
        have hj : j < many := by
          obtain ⟨q, _⟩ := List.getElem?_eq_some_iff.mp hy
          rw [rowV_len] at q
          exact q
        rw [rowV_get hj] at hy
        cases hy
        have hrow3 := s3 _ _ hrow
        have eI : rowV many (cnt ms i) = ((List.range many).map (cnt ms i)).map V.int := by
          unfold rowV
          rw [List.map_map]
          rfl
        rw [eI] at hrow3
        refine ⟨rfl, .int (cnt ms i j), rfl, .ref a, rfl, a, (List.range many).map (cnt ms i), rfl, SqL.of hrow3, cnt ms i j, tot ms, ?_, tp, by omega, fun t nt => ?_⟩
        · rw [sum_cnt hi G.mv]
          rfl
        · have s4 := same_new (o := .tup [.int (frac (cnt ms i j) (tot ms)).1, .int (frac (cnt ms i j) (tot ms)).2]) nt
          refine ⟨us, s4 _ _ hD2, by rw [eu]; exact small8 (by have := G.m6; omega), ?_⟩
          have neD2 : ∀ {b u}, H2 b = some u → b ≠ D2 := fun e => ne_of_none e nD2
          refine ⟨fun b u e => by rw [upd_ne (neD2 e)]; exact s4 _ _ (s3 _ _ e), us ++ [.ref t], by rw [List.length_append, eu]; rfl, upd_same, ?_⟩
          rw [take_map_range _ hj]
          have ntD : t ≠ D2 := (ne_of_none hD2 nt).symm
          have mv : ∀ v p, FracAt H3 v p → FracAt (upd (upd H3 t (.tup [.int (frac (cnt ms i j) (tot ms)).1, .int (frac (cnt ms i j) (tot ms)).2])) D2 (.lst (us ++ [.ref t]))) v p := fun v p ⟨tt, e1, e2⟩ => by
            refine ⟨tt, e1, ?_⟩
            rw [upd_ne]
            · exact s4 _ _ e2
            · intro z
              rw [z, hD2] at e2
              cases e2
          refine paired_snoc ⟨t, rfl, ?_⟩ (L2.Paired.mapP hp2 fun v p q => mv v p q)
          rw [upd_ne ntD]
          exact upd_same
      · rintro H3 ⟨s3, us, eu, hD2, hp2⟩
        rw [rowV_len, List.take_of_length_le (by rw [List.length_map, List.length_range]; exact Nat.le_refl _)] at hp2
        have nD2' : D2 ≠ D := (ne_of_none hD nD2).symm
        have nD2l : D2 ∉ ls := fun z => by
          have : ∀ {l₁ : List Addr} {l₂ : List (List (Int × Int))}, Paired (FracRow H2) l₁ l₂ → D2 ∈ l₁ → False := by
            intro l₁ l₂ hq
            induction hq with
            | nil => intro h; cases h
            | cons h t ih =>
              intro hm
              rcases List.mem_cons.mp hm with e | e
              · obtain ⟨us', e', _⟩ := h
                rw [← e, nD2] at e'
                cases e'
              · exact ih e
          exact this hp z
        refine ⟨ls.map V.ref, s3 _ _ hD, by rw [List.length_map, el]; exact small8 (by have := G.m6; omega), ?_⟩
        have mvF : ∀ v p, FracAt H3 v p → FracAt (upd H3 D (.lst (ls.map V.ref ++ [.ref D2]))) v p := fun v p ⟨tt, e1, e2⟩ => by
          refine ⟨tt, e1, ?_⟩
          rw [upd_ne]
          · exact e2
          · intro z
            rw [z, s3 _ _ hD] at e2
            cases e2
        have mvR : ∀ l ps, l ≠ D → FracRow H3 l ps → FracRow (upd H3 D (.lst (ls.map V.ref ++ [.ref D2]))) l ps := fun l ps nl ⟨us', e1, e2⟩ => ⟨us', by rw [upd_ne nl]; exact e1, L2.Paired.mapP e2 fun v p q => mvF v p q⟩
        refine ⟨fun b u e => by rw [upd_ne (ne_of_none e nD)]; exact s3 _ _ (s2 _ _ e), ls ++ [D2], by rw [List.length_append, el]; rfl, by rw [upd_same, List.map_append]; rfl, ?_, ?_⟩
        · have et : (chanOf many ms).take (i + 1) = (chanOf many ms).take i ++ [(List.range many).map fun e => frac (cnt ms i e) (tot ms)] := take_map_range _ hi
          rw [et]
          refine paired_snoc (mvR D2 _ nD2' ⟨us, hD2, hp2⟩) ?_
          have : ∀ {l₁ : List Addr} {l₂ : List (List (Int × Int))}, D ∉ l₁ → Paired (FracRow H2) l₁ l₂ → Paired (FracRow (upd H3 D (.lst (ls.map V.ref ++ [.ref D2])))) l₁ l₂ := by
            intro l₁ l₂ hn hq
            induction hq with
            | nil => exact .nil
            | cons h t ih => exact .cons (mvR _ _ (fun z => hn (z ▸ List.mem_cons_self)) (h.same s3)) (ih fun z => hn (List.mem_cons_of_mem _ z))
          exact this nDl hp
        · intro z
          rcases List.mem_append.mp z with z | z
          · exact nDl z
          · have e : D = D2 := by simpa using z
            exact nD2' e.symm
    · rintro H2 ⟨s2, ls, el, hD, hp, nDl⟩
      rw [List.length_map, RA.len, List.take_of_length_le (by unfold chanOf; rw [List.length_map, List.length_range]; exact Nat.le_refl _)] at hp
      exact q D H2 (s1.trans s2) ⟨ls, hD, hp⟩
end
section
variable {P : Program} {w : World} {K : PySem.W.Frag} {mg : Str → Option Value} {base : Heap}
/-! ### the law -/
def spLaw (K : PySem.W.Frag) (T : Addr) : Sp := fun vs H Q _ => ∃ (a : Addr) (ns : List Int), vs = [.ref a] ∧ SqL K H a (ns.map V.int) ∧ ns.length ≤ 63 ∧ GxR.TabG H T ∧ ∀ H', Q (.bl true) H'
def nLaw : List Str := ["_law_script", "_law_told", "_law_found", "_law_weight", "_law_place", "_law_other", "_law_mine", "_law_move"]
theorem scLaw : FnScope ["_law_script", "_law_told", "_law_found", "_law_weight", "_law_place", "_law_other", "_law_mine", "_law_move"] ["_law_script"] (defScope sLaw) := ⟨rfl, rfl, rfl, by decide +kernel, rfl, by decide +kernel, by decide +kernel⟩
/-- a list of the moves' weights where the test is true -/
def wsOf (ms : List Mv) (t : Mv → Bool) : List Int := (ms.filter t).map (·.1)
theorem wsOf_snoc {ms : List Mv} {i : Nat} {m : Mv} (h : ms[i]? = some m) (t : Mv → Bool) : wsOf (ms.take (i + 1)) t = wsOf (ms.take i) t ++ (if t m = true then [m.1] else []) := by
  unfold wsOf
  rw [List.take_add_one, h, List.filter_append, List.map_append]
  congr 1
  by_cases q : t m = true
  · simp [q]
  · simp [q]
theorem wsOf_len (ms : List Mv) (t : Mv → Bool) (i : Nat) : (wsOf (ms.take i) t).length ≤ i := by
  unfold wsOf
  rw [List.length_map]
  refine Nat.le_trans (List.length_filter_le _ _) ?_
  rw [List.length_take]
  exact Nat.min_le_left _ _
theorem wsOf_all (ms : List Mv) : (wsOf ms fun _ => true).sum = tot ms := by
  unfold wsOf tot
  rw [List.filter_eq_self.mpr fun _ _ => rfl]
def leads (b e : Nat) (m : Mv) : Bool := decide (V.int (m.2.getD b 0) = V.int ((e : Nat) : Int))
theorem wsOf_cnt {many b : Nat} (hb : b < many) (e : Nat) : ∀ {ms : List Mv}, (∀ m ∈ ms, GoodMv many m) → (wsOf ms (leads b e)).sum = cnt ms b e
  | [], _ => rfl
  | m :: ms, h => by
    have ih := wsOf_cnt hb e (ms := ms) fun x hx => h x (List.mem_cons_of_mem _ hx)
    obtain ⟨_, _, hl, _⟩ := h m List.mem_cons_self
    have hb2 : b < m.2.length := by omega
    have g : m.2[b]? = some m.2[b] := List.getElem?_eq_getElem hb2
    unfold wsOf cnt at *
    rw [List.map_cons, List.sum_cons, ← ih, List.filter_cons]
    have el : leads b e m = decide (m.2[b]? = some ((e : Nat) : Int)) := by
      unfold leads
      rw [List.getD_eq_getElem?_getD, g]
      by_cases q : m.2[b] = ((e : Nat) : Int)
      · simp [q]
      · simp [q]
    rw [el]
    by_cases q : m.2[b]? = some ((e : Nat) : Int)
    · rw [if_pos (decide_eq_true q), if_pos q, List.map_cons, List.sum_cons]
    · rw [if_neg (by simpa using q), if_neg q, Int.zero_add]
structure LawDefs (K : PySem.W.Frag) (mg : Str → Option Value) (fh fM fCh fA fL : Addr) (fdh fdM fdCh fdA fdL : FuncData) : Prop where
  Fh : Fun K "_law_chain" "_law_chain" sChain fh fdh
  bh : Binds K fdh ["_law_d", "_law_most"] []
  gh : mg "_law_chain" = some (.ref fh)
  FM : Fun K "_law_made" "_law_made" sMade fM fdM
  bM : Binds K fdM ["_law_told"] []
  gM : mg "_law_made" = some (.ref fM)
  FC : Fun K "chances" "chances" sChances fCh fdCh
  bC : Binds K fdCh ["chain"] []
  gC : mg "chances" = some (.ref fCh)
  FA : Fun K "_law_are_shares" "_law_are_shares" sLawAreShares fA fdA
  bA : Binds K fdA ["_law_found", "_law_many"] []
  gA : mg "_law_are_shares" = some (.ref fA)
  FL : Fun K "_law_low" "_law_low" sLawLow fL fdL
  bL : Binds K fdL ["_law_top", "_law_bottom"] []
  gL : mg "_law_low" = some (.ref fL)
theorem ok_law {f fc fd' fo fh fM fCh fA fL C tM : Addr} {fd fdc fdd fdo fdh fdM fdCh fdA fdL : FuncData} (F : Fun K "law" "law" sLaw f fd) (T : LawTxt K mg fc fd' fo fdc fdd fdo) (D : LawDefs K mg fh fM fCh fA fL fdh fdM fdCh fdA fdL)
    (GM : FnOk P w K mg base CX0 4 fM fdM ["_law_told"] (spMade C tM)) (GC : FnOk P w K mg base CX0 3 fCh fdCh ["chain"] (spChances C)) (GA : FnOk P w K mg base CX0 4 fA fdA ["_law_found", "_law_many"] spAre)
    (mi : mg "isinstance" = none) (mL : mg "list" = none) (msum : mg "sum" = none) : FnOk P w K mg base CX0 6 f fd ["_law_script"] (spLaw K tM) := by
  have GD : FnOk P w K mg base CX0 2 fd' fdd ["_law_script", "_law_k"] (spDice K) := T.dice
  have GH : FnOk P w K mg base CX0 3 fh fdh ["_law_d", "_law_most"] (spChain K) := ok_chain D.Fh T
  have GL : FnOk P w K mg base CX0 1 fL fdL ["_law_top", "_law_bottom"] spLow := ok_low D.FL T.ma
  refine F.ok scLaw (fun vs H Q E h => ?_) (fun cdv A outer s H vs Q E hr h => ?_)
  · obtain ⟨a, ns, rfl, _⟩ := h
    rfl
  · obtain ⟨a, ns, rfl, hS, hl, hTab, q⟩ := h
    have hu := hu64 hr
    have r1 : Room 1 _ := hr.mono (by decide)
    have r2 : Room 2 _ := hr.mono (by decide)
    have r3 : Room 3 _ := hr.mono (by decide)
    have r4 : Room 4 _ := hr.mono (by decide)
    refine ⟨_, pss_cons (ps_set (i := 1) scLaw.nd rfl (.inl rfl) (pe_call GH r3 (by rfl) D.gh D.Fh.kp D.bh .nil pass0 (pa_cons (pe_call GD r2 (by rfl) T.gD T.FD.kp T.bD .nil pass0 (pa_cons (pv 0) (pa_cons pe_int pa_nil))) (pa_cons pe_int pa_nil))))
      (pss_cons (ps_set (i := 2) scLaw.nd rfl (.inl rfl) (pe_call GC r3 (by rfl) D.gC D.FC.kp D.bC .nil pass0 (pa_cons (pe_call GM r4 (by rfl) D.gM D.FM.kp D.bM .nil pass0 (pa_cons (pv 1) pa_nil)) pa_nil)))
      (pss_cons (ps_if (PW.pt (pw_or (pt_not (pt_val (pe_callB RZ.call_isTy (by rfl) mi (by decide +kernel) (pa_cons (pv 2) (pa_cons (pe_bltn (v := .ty "list") (by rfl) mL (by decide +kernel) rfl) pa_nil)))))
          (pw_or1 (pt_cmpR op_ne (pe_callB call_len_seq (by rfl) T.ml PySem.boot_len (pa_cons (pv 2) pa_nil)) (pe_ix ix_tup (pv 1) pe_int (fun _ _ => rfl)) (nomark _))))) (pss_one (ps_ret pe_bl)) pss_nil)
      (pss_cons (ps_set (i := 3) scLaw.nd rfl (.inl rfl) (pe_callB (cr_sum rfl) (by rfl) msum (by decide +kernel) (pa_cons
          (pe_lc (own := [("_law_move", 7)]) (g := gName 7) (tt := tYes) (te := tOp (rIxT K) (tVar 7) (tC (.int 0))) rfl scLaw.nd (pi_list (pe_ix ix_tup (pv 1) pe_int (fun _ _ => rfl))) (blkOk_by (N := nLaw) (sc := defScope sLaw) (by decide +kernel))
            (fun _ _ _ _ _ => pg_name (i := 7) scLaw.nd rfl (.inl rfl)) (fun _ _ _ _ _ => pts_nil) (fun _ _ _ _ _ => by exact (pe_ix ix_tup (pv 7) pe_int (fun _ _ => rfl)))) pa_nil)))
      (pss_cons (ps_for PassesOwn.never rfl (pi_range1 (by rfl) T.mr (pa_cons (pe_ix ix_tup (pv 1) pe_int (fun _ _ => rfl)) pa_nil)) (pg_name (i := 4) scLaw.nd rfl (.inr rfl))
        (pss_cons (ps_if (pt_not (pt_val (pe_call GA r4 (by rfl) D.gA D.FA.kp D.bA .nil pass0 (pa_cons (pe_ix ix_list (pv 2) (pv 4) (fun _ _ => rfl)) (pa_cons (pe_ix ix_tup (pv 1) pe_int (fun _ _ => rfl)) pa_nil))))) (pss_one (ps_ret pe_bl)) pss_nil)
        (pss_one (ps_for PassesOwn.never rfl (pi_range1 (by rfl) T.mr (pa_cons (pe_ix ix_tup (pv 1) pe_int (fun _ _ => rfl)) pa_nil)) (pg_name (i := 5) scLaw.nd rfl (.inr rfl))
          (pss_cons (ps_set (i := 6) scLaw.nd rfl (.inl rfl) (pe_callB (cr_sum rfl) (by rfl) msum (by decide +kernel) (pa_cons
            (pe_lc (own := [("_law_move", 7)]) (g := gName 7) (tt := tTest (tOp rEq (tOp (rIxT K) (tOp (rIxT K) (tVar 7) (tC (.int 1))) (tVar 4)) (tVar 5))) (te := tOp (rIxT K) (tVar 7) (tC (.int 0))) rfl scLaw.nd (pi_list (pe_ix ix_tup (pv 1) pe_int (fun _ _ => rfl))) (blkOk_by (N := nLaw) (sc := defScope sLaw) (by decide +kernel))
              (fun _ _ _ _ _ => pg_name (i := 7) scLaw.nd rfl (.inl rfl)) (fun _ _ _ _ _ => by exact (pts_one (pt_cmpR op_eq (pe_ix ix_tup (pe_ix ix_tup (pv 7) pe_int (fun _ _ => rfl)) (pv 4) (fun _ _ => rfl)) (pv 5) (nomark _)))) (fun _ _ _ _ _ => by exact (pe_ix ix_tup (pv 7) pe_int (fun _ _ => rfl)))) pa_nil)))
          (pss_one (ps_if (pt_cmpR (op_neD hu) (pe_ix ix_list (pe_ix ix_list (pv 2) (pv 4) (fun _ _ => rfl)) (pv 5) (fun _ _ => rfl)) (pe_call GL r1 (by rfl) D.gL D.FL.kp D.bL .nil pass0 (pa_cons (pv 6) (pa_cons (pv 3) pa_nil))) (nomark _)) (pss_one (ps_ret pe_bl)) pss_nil)))))))
      (pss_one (ps_ret pe_bl)))))), ?_⟩
    -- told
    refine ⟨.ref a, rfl, a, ns, 0, rfl, hS, hl, by decide, fun H1 d s1 nd hD => ?_⟩
    refine ⟨d, a, ns, 6, rfl, hD, by decide, by decide, fun t m many ws ms H2 G _ hT hD2 g2 => ?_⟩
    obtain ⟨ps, hP, htr⟩ := hTab
    have hP1 := s1 _ _ hP
    have hP2 := g2 _ _ (hD.ne_of hP1 fun _ _ _ _ z => nomatch z) hP1
    -- found
    refine ⟨.ref t, rfl, t, m, many, ws, ms, rfl, hT, G, ⟨ps, hP2, htr⟩, fun H3 x hC nx g3 hT3 => ?_⟩
    refine ⟨x, many, ms, rfl, hC, G, fun L H4 s4 hCh => ?_⟩
    obtain ⟨ht2, hm2, hM2⟩ := hT
    have neP : ∀ {p o}, H2 p = some o → (∀ qs, o ≠ .tbl qs) → p ≠ tM := fun e n z => by
      rw [z, hP2] at e
      exact n _ (Option.some.inj e).symm
    have ht4 := s4 _ _ (g3 t _ (neP ht2 fun _ z => nomatch z) ht2)
    have hm4 := s4 _ _ (g3 m _ (neP hm2 fun _ z => nomatch z) hm2)
    have hM4 : MovesAt H4 ws ms := hM2.same fun b xs e => s4 _ _ (g3 b _ (neP e fun _ z => nomatch z) e)
    obtain ⟨ls, hL, hp⟩ := hCh
    have lenL : ls.length = many := by
      rw [hp.length]
      unfold chanOf
      rw [List.length_map, List.length_range]
    have lenW := hM4.length
    have m1 := G.m1
    have m6 := G.m6
    have l8 := G.l8
    obtain ⟨tp, t792⟩ := tot_pos G
    refine ⟨.ref L, rfl, .ref L, "list", rfl, .lst hL, true, rfl, .ref L, rfl, L, _, rfl, .inl (SqL.of hL), .ref t, rfl, t, _, 0, _, rfl, rfl, SqT.of ht4, atI_nat (j := 0) rfl, rfl, _, rfl, iteNS (by rw [List.length_map, lenL]) ?_⟩
    -- weight
    refine ⟨.ref t, rfl, t, _, 1, _, rfl, rfl, SqT.of ht4, atI_nat (j := 1) rfl, m, rfl, ⟨_, SqL.of hm4⟩, fun D1 nD1 => ?_⟩
    refine lc_list (K := K) (a := m) (xs := ws) (fun i H' => Same H4 H' ∧ H' D1 = some (.lst ((wsOf (ms.take i) fun _ => true).map V.int))) ⟨same_new nD1, by rw [List.take_zero]; exact upd_same⟩ (fun i H' _ h => SqL.of (h.1 _ _ hm4)) ?_ ?_
    · rintro i v H5 hv ⟨s5, hD5⟩
      obtain ⟨mv, em, ⟨ta, tb, rfl, hta, htb⟩⟩ := hM4.get' hv
      refine ⟨rfl, .ref ta, rfl, ta, _, 0, _, rfl, rfl, SqT.of (s5 _ _ hta), atI_nat (j := 0) rfl, _, hD5, ?_, ?_, ?_⟩
      · rw [List.length_map]
        refine small8 (Nat.le_trans (wsOf_len ms _ i) ?_)
        obtain ⟨q1, _⟩ := List.getElem?_eq_some_iff.mp em
        omega
      · intro b u e
        rw [upd_ne (ne_of_none e nD1)]
        exact s5 _ _ e
      · rw [upd_same, wsOf_snoc em, if_pos rfl, List.map_append]
        rfl
    rintro H5 ⟨s5, hD5⟩
    rw [lenW, List.take_length] at hD5
    refine ⟨D1, _, rfl, SqL.of hD5, ?_⟩
    have eW := wsOf_all ms
    -- for place
    have en : ((many : Nat) : Int).toNat = many := by omega
    have ht5 := s5 _ _ ht4
    refine ⟨.ref t, rfl, t, _, 0, _, rfl, rfl, SqT.of ht5, atI_nat (j := 0) rfl, _, rfl, by omega, by omega, ?_⟩
    refine for_range (lo := 0) (n := ((many : Nat) : Int).toNat) (fun i σ H' => ∃ y4 y5 y6, σ = [some (.ref a), some (.ref t), some (.ref L), some (.int ((wsOf ms fun _ => true).sum)), y4, y5, y6, none] ∧ Same H4 H')
      ⟨none, none, none, rfl, s5⟩ ?_ ?_
    · rintro i σ H6 hi ⟨y4, y5, y6, rfl, s6⟩
      rw [en] at hi
      have hi2 : i < ls.length := by omega
      obtain ⟨pss, ep, ⟨us, hus, hpu⟩⟩ := paired_at hp (List.getElem?_eq_getElem hi2)
      have epr : pss = (List.range many).map fun e => frac (cnt ms i e) (tot ms) := by
        unfold chanOf at ep
        rw [List.getElem?_map, List.getElem?_range hi] at ep
        exact (Option.some.inj ep).symm
      subst epr
      have hus6 := s6 _ _ hus
      have hpu6 : Paired (FracAt H6) us ((List.range many).map fun e => frac (cnt ms i e) (tot ms)) := L2.Paired.mapP hpu fun _ _ q => q.same s6
      have hL6 := s6 _ _ hL
      have ht6 := s6 _ _ ht4
      have gL : (ls.map V.ref)[i]? = some (.ref ls[i]) := by
        rw [List.getElem?_map, List.getElem?_eq_getElem hi2]
        rfl
      have hpx : Paired (fun u x => FracAt H6 u (frac x (tot ms))) us ((List.range many).map (cnt ms i)) := by
        have : ∀ (es : List Nat) (vs : List V), Paired (FracAt H6) vs (es.map fun e => frac (cnt ms i e) (tot ms)) → Paired (fun u x => FracAt H6 u (frac x (tot ms))) vs (es.map (cnt ms i)) := by
          intro es
          induction es with
          | nil =>
            intro vs h
            cases h
            exact .nil
          | cons e es ih =>
            intro vs h
            cases h with
            | cons h t => exact .cons h (ih _ t)
        exact this _ _ hpu6
      have ei : (0 : Int) + ((i : Nat) : Int) = ((i : Nat) : Int) := Int.zero_add _
      refine ⟨.ref L, rfl, .int (0 + ((i : Nat) : Int)), rfl, L, _, _, _, rfl, rfl, SqL.of hL6, at_of ei gL, .ref t, rfl, t, _, 0, _, rfl, rfl, SqT.of ht6, atI_nat (j := 0) rfl, ?_⟩
      refine ⟨ls[i], us, (List.range many).map (cnt ms i), tot ms, ?_, hus6, hpx, tp, by omega, ?_, sum_cnt hi G.mv, fun H7 s7 => ⟨true, rfl, ?_⟩⟩
      · rw [List.length_map, List.length_range]
        rfl
      · intro x hx
        obtain ⟨e, _, rfl⟩ := List.mem_map.mp hx
        exact cnt_nn G.mv i e
      -- for other
      have s47 := s6.trans s7
      have ht7 := s47 _ _ ht4
      refine ⟨.ref t, rfl, t, _, 0, _, rfl, rfl, SqT.of ht7, atI_nat (j := 0) rfl, _, rfl, by omega, by omega, ?_⟩
      refine for_range (lo := 0) (n := ((many : Nat) : Int).toNat) (fun j σ H' => ∃ y5 y6, σ = [some (.ref a), some (.ref t), some (.ref L), some (.int ((wsOf ms fun _ => true).sum)), some (.int (0 + ((i : Nat) : Int))), y5, y6, none] ∧ Same H4 H')
        ⟨y5, y6, rfl, s47⟩ ?_ ?_
      · rintro j σ H8 hj ⟨z5, z6, rfl, s8⟩
        rw [en] at hj
        have ht8 := s8 _ _ ht4
        have hm8 := s8 _ _ hm4
        refine ⟨.ref t, rfl, t, _, 1, _, rfl, rfl, SqT.of ht8, atI_nat (j := 1) rfl, m, rfl, ⟨_, SqL.of hm8⟩, fun D2 nD2 => ?_⟩
        refine lc_list (K := K) (a := m) (xs := ws) (fun k H' => Same H8 H' ∧ H' D2 = some (.lst ((wsOf (ms.take k) (leads i j)).map V.int))) ⟨same_new nD2, by rw [List.take_zero]; exact upd_same⟩ (fun k H' _ h => SqL.of (h.1 _ _ hm8)) ?_ ?_
        · rintro k v H9 hv ⟨s9, hD9⟩
          obtain ⟨mv, em, ⟨ta, tb, rfl, hta, htb⟩⟩ := hM4.get' hv
          have hta9 := s9 _ _ (s8 _ _ hta)
          have htb9 := s9 _ _ (s8 _ _ htb)
          obtain ⟨_, _, hlen, _⟩ := G.mv mv (List.mem_of_getElem? em)
          have hi3 : i < mv.2.length := by omega
          have gb : (mv.2.map V.int)[i]? = some (.int (mv.2.getD i 0)) := by
            rw [List.getElem?_map, List.getElem?_eq_getElem hi3, List.getD_eq_getElem?_getD, List.getElem?_eq_getElem hi3]
            rfl
          have kl : k < ms.length := by
            obtain ⟨q1, _⟩ := List.getElem?_eq_some_iff.mp em
            exact q1
          refine ⟨rfl, .ref ta, rfl, ta, _, 1, _, rfl, rfl, SqT.of hta9, atI_nat (j := 1) rfl, .int (0 + ((i : Nat) : Int)), rfl, tb, _, _, _, rfl, rfl, SqT.of htb9, at_of ei gb, .int (0 + ((j : Nat) : Int)), rfl, rfl, _, rfl, ?_⟩
          have et : decide (V.int (mv.2.getD i 0) = V.int (0 + ((j : Nat) : Int))) = leads i j mv := by
            unfold leads
            rw [Int.zero_add]
          have keep : ∀ b u, H8 b = some u → ∀ xs, (upd H9 D2 (.lst xs)) b = some u := fun b u e xs => by
            rw [upd_ne (ne_of_none e nD2)]
            exact s9 _ _ e
          refine ite2 (fun c => ?_) (fun c => ?_)
          · refine ⟨.ref ta, rfl, ta, _, 0, _, rfl, rfl, SqT.of hta9, atI_nat (j := 0) rfl, _, hD9, ?_, fun b u e => keep b u e _, ?_⟩
            · rw [List.length_map]
              exact small8 (Nat.le_trans (wsOf_len ms _ k) (by omega))
            · rw [et] at c
              rw [upd_same, wsOf_snoc em, if_pos c, List.map_append]
              rfl
          · rw [et] at c
            refine ⟨s9, ?_⟩
            rw [wsOf_snoc em, if_neg c, List.append_nil]
            exact hD9
        · rintro H9 ⟨s9, hD9⟩
          rw [lenW, List.take_length] at hD9
          refine ⟨D2, _, rfl, SqL.of hD9, ?_⟩
          have s49 := s8.trans s9
          have hL9 := s49 _ _ hL
          have hus9 := s49 _ _ hus
          have hju : j < us.length := by
            rw [hpu.length, List.length_map, List.length_range]
            exact hj
          obtain ⟨pr, epr, hpr⟩ := paired_at hpu (List.getElem?_eq_getElem hju)
          rw [List.getElem?_map, List.getElem?_range hj] at epr
          have epr2 : frac (cnt ms i j) (tot ms) = pr := Option.some.inj epr
          obtain ⟨tt, ett, htt⟩ := hpr
          have ej : (0 : Int) + ((j : Nat) : Int) = ((j : Nat) : Int) := Int.zero_add _
          have gj : us[j]? = some (.ref tt) := by rw [List.getElem?_eq_getElem hju, ett]
          refine ⟨.ref L, rfl, .int (0 + ((i : Nat) : Int)), rfl, L, _, _, _, rfl, rfl, SqL.of hL9, at_of ei gL, .int (0 + ((j : Nat) : Int)), rfl, ls[i], _, _, _, rfl, rfl, SqL.of hus9, at_of ej gj, ?_⟩
          refine ⟨.int (wsOf ms (leads i j)).sum, rfl, .int (wsOf ms fun _ => true).sum, rfl, _, _, rfl, ?_, ?_, fun t2 nt2 => ?_⟩
          · rw [eW]
            exact tp
          · rw [eW]
            exact Nat.lt_of_lt_of_le (show (tot ms).natAbs < 2 ^ 20 by omega) (Nat.pow_le_pow_right (by decide) (by decide))
          · have s10 := same_new (o := .tup [.int (frac (wsOf ms (leads i j)).sum (wsOf ms fun _ => true).sum).1, .int (frac (wsOf ms (leads i j)).sum (wsOf ms fun _ => true).sum).2]) nt2
            refine ⟨_, _, dp_pair (s10 _ _ (s49 _ _ htt)), dp_pair upd_same, rfl, rfl, _, rfl, ?_⟩
            rw [eqv_pair, wsOf_cnt hi j G.mv, eW, epr2, decide_eq_true rfl]
            exact ⟨_, _, rfl, s49.trans (same_new nt2)⟩
      · rintro σ H8 ⟨z5, z6, rfl, s8⟩
        exact ⟨some (.int (0 + ((i : Nat) : Int))), z5, z6, rfl, s8⟩
    · rintro σ H6 ⟨y4, y5, y6, rfl, s6⟩
      exact q H6
end
/-! ### the end: the table of the generator's def -/
def TabOf (nm : Str) (mg : Str → Option Value) (h : Heap) : Prop := ∃ (a' : Addr) (o' : Obj) (fd' : FuncData) (c' P' : Addr) (oc : Obj) (vc : Array Value), mg nm = some (.ref a') ∧ h.get? a' = some o' ∧ o'.data = .func fd' ∧ fd'.code = .ref c' ∧
  h.get? c' = some oc ∧ oc.data = .fields vc ∧ vc[11]? = some (.ref P') ∧ h.get? P' = some { cls := .none, data := .fields #[] }
theorem walk_tab {l : PySem.W.OpenLaw} {n k : Nat} {q : Program} {loose : List Str} {XP : (Str → Option Value) → Heap → Prop} {YP : World → Heap → Prop} {d : DefRec} {K : Params → PySem.W.Frag} {CX : World → CXT} {x : Str} (nm : Str)
    (hn : l.most = some n) (hn2 : n ≤ sizeLine) (hdf : d.params.defaults = []) (hr : Room k callerA) (hrec : ((recsOf q).any fun e => e.name == nm) = true) (hY : ∀ (w : World) (h : Heap), YP w h → (K w.params).In h)
    (F : ∀ (w : World) (mg : Str → Option Value) (fa : Addr) (h : Heap), (K w.params).In h → h.Ns mainGlobals mg → mg d.name = some (.ref fa) → TabOf nm mg h → LamX.LawAtS l w (K w.params) (CX w) k n x mg fa h)
    (hCX : ∀ (w : World) (H : Hp) (s : Shared) (e : Value) (s' : Shared), CX w [] H s (fun _ _ _ => False) e s' → False) :
    PySem.W.WalkO q loose XP YP l.row.toRowW d [] (fun f vs => PySem.call f vs) := by
  refine Att.attach_callB hn hdf fun w s₀ s₁ mg mb fa o pm cd doc a vs ns G Y ho hd hcd hmg hobj hints hlen hbits hg => ?_
  obtain ⟨dL, m1, m2⟩ := List.any_eq_true.mp hrec
  obtain ⟨a', o', fd', c', P', g1, g2, g3, g4, _, ⟨oc, vc, e1, e2, e3, e4⟩, e5⟩ := G.T.tab dL m1
  rw [beq_iff_eq.mp m2] at g1
  have TO : TabOf nm mg s₁.heap := ⟨a', o', fd', c', P', oc, vc, g1, g2, g3, g4, e1, e3, e4, e5⟩
  obtain ⟨fd, cs, sp, hT, nT, Cd, hb, hsp, hF⟩ := F w mg fa _ (hY w _ Y) G.T.g hmg TO
  exact LamX.law_callTs (hY w _ Y) G.T.g G.T.b G.T.builtins G.T.nolimit hg hT nT Cd G.T.bmain hobj hints (Nat.le_trans hlen hn2) hr hF hb (fun H hH hS => hsp H a ns hlen hbits hH hS) fun H e s' => hCX w H s₁ e s'
/-! ### what the top has written -/
set_option maxHeartbeats 0 in
theorem all_mk {l : PySem.W.OpenLaw} {w : World} {K : PySem.W.Frag} {h : Heap} {mg : Str → Option Value} {fa : Addr} (X : K.In h) (G : h.Ns mainGlobals mg) (hfa : mg "law" = some (.ref fa)) (TO : TabOf "_is_move" mg h)
    {f0 : Addr} {od0 an0 : Option Addr} {sl0 : Array (Option Value)} {oc0 kV0 dc0 pm0 ct0 : Value}
    {f1 : Addr} {od1 an1 : Option Addr} {sl1 : Array (Option Value)} {oc1 kV1 dc1 pm1 cd1 ct1 : Value}
    {f2 : Addr} {od2 an2 : Option Addr} {sl2 : Array (Option Value)} {oc2 kV2 dc2 pm2 cd2 ct2 : Value}
    {f3 : Addr} {od3 an3 : Option Addr} {sl3 : Array (Option Value)} {oc3 kV3 dc3 pm3 cd3 ct3 : Value}
    {f4 : Addr} {od4 an4 : Option Addr} {sl4 : Array (Option Value)} {oc4 kV4 dc4 pm4 cd4 ct4 : Value}
    {f5 : Addr} {od5 an5 : Option Addr} {sl5 : Array (Option Value)} {oc5 kV5 dc5 pm5 cd5 ct5 : Value}
    {f6 : Addr} {od6 an6 : Option Addr} {sl6 : Array (Option Value)} {oc6 kV6 dc6 pm6 cd6 ct6 : Value}
    {f7 : Addr} {od7 an7 : Option Addr} {sl7 : Array (Option Value)} {oc7 kV7 dc7 pm7 cd7 ct7 : Value}
    {f8 : Addr} {od8 an8 : Option Addr} {sl8 : Array (Option Value)} {oc8 kV8 dc8 pm8 cd8 ct8 : Value}
    {f9 : Addr} {od9 an9 : Option Addr} {sl9 : Array (Option Value)} {oc9 kV9 dc9 pm9 cd9 ct9 : Value}
    {f10 : Addr} {od10 an10 : Option Addr} {sl10 : Array (Option Value)} {oc10 kV10 dc10 pm10 cd10 ct10 : Value}
    {f11 : Addr} {od11 an11 : Option Addr} {sl11 : Array (Option Value)} {oc11 kV11 dc11 pm11 cd11 ct11 : Value}
    {f12 : Addr} {od12 an12 : Option Addr} {sl12 : Array (Option Value)} {oc12 kV12 dc12 pm12 cd12 ct12 : Value}
    {f13 : Addr} {od13 an13 : Option Addr} {sl13 : Array (Option Value)} {oc13 kV13 dc13 pm13 cd13 ct13 : Value}
    {f14 : Addr} {od14 an14 : Option Addr} {sl14 : Array (Option Value)} {oc14 kV14 dc14 pm14 cd14 ct14 : Value}
    {fm0 : Addr} {odm0 anm0 : Option Addr} {slm0 : Array (Option Value)} {ocm0 kVm0 dcm0 pmm0 cdm0 ctm0 : Value}
    {fm1 : Addr} {odm1 anm1 : Option Addr} {slm1 : Array (Option Value)} {ocm1 kVm1 dcm1 pmm1 cdm1 ctm1 : Value}
    {fm2 : Addr} {odm2 anm2 : Option Addr} {slm2 : Array (Option Value)} {ocm2 kVm2 dcm2 pmm2 cdm2 ctm2 : Value}
    {tMOST_PLACES : Tok}
    {tMOST_MOVES : Tok}
    {tMOST_WEIGHT : Tok}
    {C cM tM : Addr} {eM : Value} {ddM : Option Addr} {vsM : Array Value} {slM : Array (Option Value)}
    (aC : PySem.W.nsIn K mainGlobals "Chain" = some (some (.ref C)))
    (a0 : PySem.W.nsIn K mainGlobals "_is_move" = some (some (.ref f0))) (l0 : K.lookup f0 = some ⟨oc0, od0, .func (PySem.W.fnOf "_is_move" "_is_move" (defArgs sIsMove) (defBody sIsMove) (defScope sIsMove) .none kV0 dc0 pm0 an0 (.ref cM) ct0), sl0⟩) (c0 : PySem.W.codeIn K (.ref cM) "_is_move" = true) (k0 : PySem.W.keepIn K (.ref f0) = true)
    (a1 : PySem.W.nsIn K mainGlobals "_law_cell" = some (some (.ref f1))) (l1 : K.lookup f1 = some ⟨oc1, od1, .func (PySem.W.fnOf "_law_cell" "_law_cell" (defArgs sCell) (defBody sCell) (defScope sCell) .none kV1 dc1 pm1 an1 cd1 ct1), sl1⟩) (c1 : PySem.W.codeIn K cd1 "_law_cell" = true) (k1 : PySem.W.keepIn K (.ref f1) = true)
    (a2 : PySem.W.nsIn K mainGlobals "_law_dice" = some (some (.ref f2))) (l2 : K.lookup f2 = some ⟨oc2, od2, .func (PySem.W.fnOf "_law_dice" "_law_dice" (defArgs sDice) (defBody sDice) (defScope sDice) .none kV2 dc2 pm2 an2 cd2 ct2), sl2⟩) (c2 : PySem.W.codeIn K cd2 "_law_dice" = true) (k2 : PySem.W.keepIn K (.ref f2) = true)
    (a3 : PySem.W.nsIn K mainGlobals "_law_off" = some (some (.ref f3))) (l3 : K.lookup f3 = some ⟨oc3, od3, .func (PySem.W.fnOf "_law_off" "_law_off" (defArgs sOff) (defBody sOff) (defScope sOff) .none kV3 dc3 pm3 an3 cd3 ct3), sl3⟩) (c3 : PySem.W.codeIn K cd3 "_law_off" = true) (k3 : PySem.W.keepIn K (.ref f3) = true)
    (a4 : PySem.W.nsIn K mainGlobals "_law_chain" = some (some (.ref f4))) (l4 : K.lookup f4 = some ⟨oc4, od4, .func (PySem.W.fnOf "_law_chain" "_law_chain" (defArgs sChain) (defBody sChain) (defScope sChain) .none kV4 dc4 pm4 an4 cd4 ct4), sl4⟩) (c4 : PySem.W.codeIn K cd4 "_law_chain" = true) (k4 : PySem.W.keepIn K (.ref f4) = true)
    (a5 : PySem.W.nsIn K mainGlobals "_law_made" = some (some (.ref f5))) (l5 : K.lookup f5 = some ⟨oc5, od5, .func (PySem.W.fnOf "_law_made" "_law_made" (defArgs sMade) (defBody sMade) (defScope sMade) .none kV5 dc5 pm5 an5 cd5 ct5), sl5⟩) (c5 : PySem.W.codeIn K cd5 "_law_made" = true) (k5 : PySem.W.keepIn K (.ref f5) = true)
    (a6 : PySem.W.nsIn K mainGlobals "fraction" = some (some (.ref f6))) (l6 : K.lookup f6 = some ⟨oc6, od6, .func (PySem.W.fnOf "fraction" "fraction" (defArgs sFraction) (defBody sFraction) (defScope sFraction) .none kV6 dc6 pm6 an6 cd6 ct6), sl6⟩) (c6 : PySem.W.codeIn K cd6 "fraction" = true) (k6 : PySem.W.keepIn K (.ref f6) = true)
    (a7 : PySem.W.nsIn K mainGlobals "chances" = some (some (.ref f7))) (l7 : K.lookup f7 = some ⟨oc7, od7, .func (PySem.W.fnOf "chances" "chances" (defArgs sChances) (defBody sChances) (defScope sChances) .none kV7 dc7 pm7 an7 cd7 ct7), sl7⟩) (c7 : PySem.W.codeIn K cd7 "chances" = true) (k7 : PySem.W.keepIn K (.ref f7) = true)
    (a8 : PySem.W.nsIn K mainGlobals "_weights" = some (some (.ref f8))) (l8 : K.lookup f8 = some ⟨oc8, od8, .func (PySem.W.fnOf "_weights" "_weights" (defArgs sWeights) (defBody sWeights) (defScope sWeights) .none kV8 dc8 pm8 an8 cd8 ct8), sl8⟩) (c8 : PySem.W.codeIn K cd8 "_weights" = true) (k8 : PySem.W.keepIn K (.ref f8) = true)
    (a9 : PySem.W.nsIn K mainGlobals "_law_low" = some (some (.ref f9))) (l9 : K.lookup f9 = some ⟨oc9, od9, .func (PySem.W.fnOf "_law_low" "_law_low" (defArgs sLawLow) (defBody sLawLow) (defScope sLawLow) .none kV9 dc9 pm9 an9 cd9 ct9), sl9⟩) (c9 : PySem.W.codeIn K cd9 "_law_low" = true) (k9 : PySem.W.keepIn K (.ref f9) = true)
    (a10 : PySem.W.nsIn K mainGlobals "_law_add" = some (some (.ref f10))) (l10 : K.lookup f10 = some ⟨oc10, od10, .func (PySem.W.fnOf "_law_add" "_law_add" (defArgs sLawAdd) (defBody sLawAdd) (defScope sLawAdd) .none kV10 dc10 pm10 an10 cd10 ct10), sl10⟩) (c10 : PySem.W.codeIn K cd10 "_law_add" = true) (k10 : PySem.W.keepIn K (.ref f10) = true)
    (a11 : PySem.W.nsIn K mainGlobals "_law_sum" = some (some (.ref f11))) (l11 : K.lookup f11 = some ⟨oc11, od11, .func (PySem.W.fnOf "_law_sum" "_law_sum" (defArgs sLawSum) (defBody sLawSum) (defScope sLawSum) .none kV11 dc11 pm11 an11 cd11 ct11), sl11⟩) (c11 : PySem.W.codeIn K cd11 "_law_sum" = true) (k11 : PySem.W.keepIn K (.ref f11) = true)
    (a12 : PySem.W.nsIn K mainGlobals "_law_is_share" = some (some (.ref f12))) (l12 : K.lookup f12 = some ⟨oc12, od12, .func (PySem.W.fnOf "_law_is_share" "_law_is_share" (defArgs sLawIsShare) (defBody sLawIsShare) (defScope sLawIsShare) .none kV12 dc12 pm12 an12 cd12 ct12), sl12⟩) (c12 : PySem.W.codeIn K cd12 "_law_is_share" = true) (k12 : PySem.W.keepIn K (.ref f12) = true)
    (a13 : PySem.W.nsIn K mainGlobals "_law_are_shares" = some (some (.ref f13))) (l13 : K.lookup f13 = some ⟨oc13, od13, .func (PySem.W.fnOf "_law_are_shares" "_law_are_shares" (defArgs sLawAreShares) (defBody sLawAreShares) (defScope sLawAreShares) .none kV13 dc13 pm13 an13 cd13 ct13), sl13⟩) (c13 : PySem.W.codeIn K cd13 "_law_are_shares" = true) (k13 : PySem.W.keepIn K (.ref f13) = true)
    (a14 : PySem.W.nsIn K mainGlobals "law" = some (some (.ref f14))) (l14 : K.lookup f14 = some ⟨oc14, od14, .func (PySem.W.fnOf "law" "law" (defArgs sLaw) (defBody sLaw) (defScope sLaw) .none kV14 dc14 pm14 an14 cd14 ct14), sl14⟩) (c14 : PySem.W.codeIn K cd14 "law" = true) (k14 : PySem.W.keepIn K (.ref f14) = true)
    (am0 : PySem.W.findIn K (.ref C) "__init__" = some (some (.ref fm0))) (im0 : PySem.W.isFn K (.ref fm0) = true) (lm0 : K.lookup fm0 = some ⟨ocm0, odm0, .func (PySem.W.fnOf "__init__" "Chain.__init__" (defArgs (inClass cChain 0)) (defBody (inClass cChain 0)) (defScope (inClass cChain 0)) .none kVm0 dcm0 pmm0 anm0 cdm0 ctm0), slm0⟩) (cm0 : PySem.W.codeIn K cdm0 "Chain.__init__" = true) (km0 : PySem.W.keepIn K (.ref fm0) = true)
    (am1 : PySem.W.findIn K (.ref C) "places" = some (some (.ref fm1))) (im1 : PySem.W.isFn K (.ref fm1) = true) (lm1 : K.lookup fm1 = some ⟨ocm1, odm1, .func (PySem.W.fnOf "places" "Chain.places" (defArgs (inClass cChain 1)) (defBody (inClass cChain 1)) (defScope (inClass cChain 1)) .none kVm1 dcm1 pmm1 anm1 cdm1 ctm1), slm1⟩) (cm1 : PySem.W.codeIn K cdm1 "Chain.places" = true) (km1 : PySem.W.keepIn K (.ref fm1) = true)
    (am2 : PySem.W.findIn K (.ref C) "told" = some (some (.ref fm2))) (im2 : PySem.W.isFn K (.ref fm2) = true) (lm2 : K.lookup fm2 = some ⟨ocm2, odm2, .func (PySem.W.fnOf "told" "Chain.told" (defArgs (inClass cChain 2)) (defBody (inClass cChain 2)) (defScope (inClass cChain 2)) .none kVm2 dcm2 pmm2 anm2 cdm2 ctm2), slm2⟩) (cm2 : PySem.W.codeIn K cdm2 "Chain.told" = true) (km2 : PySem.W.keepIn K (.ref fm2) = true)
    (pg : PySem.W.plainGet K C Str.empty = true) (hd : PySem.W.hasDictIn K C = true) (po : PySem.W.plainOver K C = true) (sa : PySem.W.findIn K (.ref C) "__setattr__" = some (some (.builtin "object.__setattr__"))) (mk : PySem.W.makesIn K C = true) (kc : PySem.W.keepIn K (.ref C) = true) (nM : PySem.W.findIn K (.ref C) "_many" = some none) (nV : PySem.W.findIn K (.ref C) "_moves" = some none)
    (gMOST_PLACES : PySem.W.nsIn K mainGlobals "MOST_PLACES" = some (some (.int 6 tMOST_PLACES)))
    (gMOST_MOVES : PySem.W.nsIn K mainGlobals "MOST_MOVES" = some (some (.int 8 tMOST_MOVES)))
    (gMOST_WEIGHT : PySem.W.nsIn K mainGlobals "MOST_WEIGHT" = some (some (.int 99 tMOST_WEIGHT)))
    (zlen : PySem.W.nsIn K mainGlobals "len" = some none)
    (zabs : PySem.W.nsIn K mainGlobals "abs" = some none)
    (zmax : PySem.W.nsIn K mainGlobals "max" = some none)
    (zmin : PySem.W.nsIn K mainGlobals "min" = some none)
    (zint : PySem.W.nsIn K mainGlobals "int" = some none)
    (zrange : PySem.W.nsIn K mainGlobals "range" = some none)
    (zsorted : PySem.W.nsIn K mainGlobals "sorted" = some none)
    (ztuple : PySem.W.nsIn K mainGlobals "tuple" = some none)
    (zisinstance : PySem.W.nsIn K mainGlobals "isinstance" = some none)
    (zall : PySem.W.nsIn K mainGlobals "all" = some none)
    (zenumerate : PySem.W.nsIn K mainGlobals "enumerate" = some none)
    (zlist : PySem.W.nsIn K mainGlobals "list" = some none)
    (zsum : PySem.W.nsIn K mainGlobals "sum" = some none)
    (zbool : PySem.W.nsIn K mainGlobals "bool" = some none)
    (ggcd : PySem.W.nsIn K mainGlobals "gcd" = some (some (.builtin "math.gcd")))
    (lM : K.lookup cM = some ⟨eM, ddM, .fields vsM, slM⟩) (vM : vsM[11]? = some (.ref tM)) (hM : PySem.W.codeHdIn K cM tM = true) (nT : K.lookup tM = none) :
    LamX.LawAtS l w K CX0 6 63 "_law_script" mg fa h := by
  have e := hfa.symm.trans (PySem.W.mg_of X G a14)
  cases e
  have FM : FunT K "_is_move" "_is_move" sIsMove f0 _ cM := ⟨⟨_, _, _, _, _, _, _, _, rfl, l0, c0⟩, k0⟩
  have FM0 := fun_mk (st := sIsMove) l0 c0 k0
  have b0 := FM0.binds (ps := ["many", "move"]) fun _ _ _ _ _ _ us hl => match us, hl with | [_, _], _ => rfl
  have g0 := PySem.W.mg_of X G a0
  have F1 := fun_mk (st := sCell) l1 c1 k1
  have b1 := F1.binds (ps := ["_law_script", "_law_k"]) fun _ _ _ _ _ _ us hl => match us, hl with | [_, _], _ => rfl
  have g1 := PySem.W.mg_of X G a1
  have F2 := fun_mk (st := sDice) l2 c2 k2
  have b2 := F2.binds (ps := ["_law_script", "_law_k"]) fun _ _ _ _ _ _ us hl => match us, hl with | [_, _], _ => rfl
  have g2 := PySem.W.mg_of X G a2
  have F3 := fun_mk (st := sOff) l3 c3 k3
  have b3 := F3.binds (ps := ["_law_d", "_law_most"]) fun _ _ _ _ _ _ us hl => match us, hl with | [_, _], _ => rfl
  have g3 := PySem.W.mg_of X G a3
  have F4 := fun_mk (st := sChain) l4 c4 k4
  have b4 := F4.binds (ps := ["_law_d", "_law_most"]) fun _ _ _ _ _ _ us hl => match us, hl with | [_, _], _ => rfl
  have g4 := PySem.W.mg_of X G a4
  have F5 := fun_mk (st := sMade) l5 c5 k5
  have b5 := F5.binds (ps := ["_law_told"]) fun _ _ _ _ _ _ us hl => match us, hl with | [_], _ => rfl
  have g5 := PySem.W.mg_of X G a5
  have F6 := fun_mk (st := sFraction) l6 c6 k6
  have b6 := F6.binds (ps := ["top", "bottom"]) fun _ _ _ _ _ _ us hl => match us, hl with | [_, _], _ => rfl
  have g6 := PySem.W.mg_of X G a6
  have F7 := fun_mk (st := sChances) l7 c7 k7
  have b7 := F7.binds (ps := ["chain"]) fun _ _ _ _ _ _ us hl => match us, hl with | [_], _ => rfl
  have g7 := PySem.W.mg_of X G a7
  have F8 := fun_mk (st := sWeights) l8 c8 k8
  have b8 := F8.binds (ps := ["chain"]) fun _ _ _ _ _ _ us hl => match us, hl with | [_], _ => rfl
  have g8 := PySem.W.mg_of X G a8
  have F9 := fun_mk (st := sLawLow) l9 c9 k9
  have b9 := F9.binds (ps := ["_law_top", "_law_bottom"]) fun _ _ _ _ _ _ us hl => match us, hl with | [_, _], _ => rfl
  have g9 := PySem.W.mg_of X G a9
  have F10 := fun_mk (st := sLawAdd) l10 c10 k10
  have b10 := F10.binds (ps := ["_law_one", "_law_other"]) fun _ _ _ _ _ _ us hl => match us, hl with | [_, _], _ => rfl
  have g10 := PySem.W.mg_of X G a10
  have F11 := fun_mk (st := sLawSum) l11 c11 k11
  have b11 := F11.binds (ps := ["_law_some"]) fun _ _ _ _ _ _ us hl => match us, hl with | [_], _ => rfl
  have g11 := PySem.W.mg_of X G a11
  have F12 := fun_mk (st := sLawIsShare) l12 c12 k12
  have b12 := F12.binds (ps := ["_law_found"]) fun _ _ _ _ _ _ us hl => match us, hl with | [_], _ => rfl
  have g12 := PySem.W.mg_of X G a12
  have F13 := fun_mk (st := sLawAreShares) l13 c13 k13
  have b13 := F13.binds (ps := ["_law_found", "_law_many"]) fun _ _ _ _ _ _ us hl => match us, hl with | [_, _], _ => rfl
  have g13 := PySem.W.mg_of X G a13
  have F14 := fun_mk (st := sLaw) l14 c14 k14
  have g14 := PySem.W.mg_of X G a14
  have Fm0 := fun_mk (st := inClass cChain 0) lm0 cm0 km0
  have bm0 := Fm0.binds (ps := ["self", "many", "moves"]) fun _ _ _ _ _ _ us hl => match us, hl with | [_, _, _], _ => rfl
  have Fm1 := fun_mk (st := inClass cChain 1) lm1 cm1 km1
  have bm1 := Fm1.binds (ps := ["self"]) fun _ _ _ _ _ _ us hl => match us, hl with | [_], _ => rfl
  have Fm2 := fun_mk (st := inClass cChain 2) lm2 cm2 km2
  have bm2 := Fm2.binds (ps := ["self"]) fun _ _ _ _ _ _ us hl => match us, hl with | [_], _ => rfl
  have gC := PySem.W.mg_of X G aC
  have GMOST_PLACES := PySem.W.mg_of X G gMOST_PLACES
  have GMOST_MOVES := PySem.W.mg_of X G gMOST_MOVES
  have GMOST_WEIGHT := PySem.W.mg_of X G gMOST_WEIGHT
  have Zlen := PySem.W.mg_none_of X G zlen
  have Zabs := PySem.W.mg_none_of X G zabs
  have Zmax := PySem.W.mg_none_of X G zmax
  have Zmin := PySem.W.mg_none_of X G zmin
  have Zint := PySem.W.mg_none_of X G zint
  have Zrange := PySem.W.mg_none_of X G zrange
  have Zsorted := PySem.W.mg_none_of X G zsorted
  have Ztuple := PySem.W.mg_none_of X G ztuple
  have Zisinstance := PySem.W.mg_none_of X G zisinstance
  have Zall := PySem.W.mg_none_of X G zall
  have Zenumerate := PySem.W.mg_none_of X G zenumerate
  have Zlist := PySem.W.mg_none_of X G zlist
  have Zsum := PySem.W.mg_none_of X G zsum
  have Zbool := PySem.W.mg_none_of X G zbool
  have tabE : h.get? tM = some { cls := .none, data := .fields #[] } := by
    obtain ⟨a', o', fd', c', P', oc, vc, g1, g2, g3, g4, e1, e3, e4, e5⟩ := TO
    rw [g0] at g1
    cases g1
    have q1 := X _ _ l0
    rw [q1] at g2
    cases g2
    cases g3
    cases g4
    have q2 := X _ _ lM
    rw [q2] at e1
    cases e1
    cases e3
    rw [vM] at e4
    cases e4
    exact e5
  have LT : LawTxt K mg f1 f2 f3 _ _ _ := ⟨F1, b1, g1, F2, b2, g2, F3, b3, g3, Zlen, Zabs, Zmax, Zmin, Zint, Zrange, Zsorted, Ztuple⟩
  have CL : Cls K C := ⟨pg, hd, po, sa⟩
  have CH : ChTxt K mg f0 cM tM _ C fm0 _ := ⟨FM, b0, g0, Fm0, bm0, ⟨mk, am0, im0, kc⟩, CL, nM, nV, gC, ⟨_, GMOST_PLACES⟩, ⟨_, GMOST_MOVES⟩, ⟨_, GMOST_WEIGHT⟩, Zlen, Zisinstance, Ztuple, Zrange, Zall, Zenumerate, Zlist⟩
  refine ⟨PySem.W.fnOf "law" "law" (defArgs sLaw) (defBody sLaw) (defScope sLaw) .none kV14 dc14 pm14 an14 cd14 ct14, [(cM, tM)], spLaw K tM, fun p hp => ?_, fun p hp => ?_, fun p hp => ?_, fun s v => .of_eq rfl, fun H a ns hl hbits hT hS => ?_, fun base hK hG hTB => ?_⟩
  · have e : p = (cM, tM) := by simpa using hp
    rw [e]
    exact tabE
  · have e : p = (cM, tM) := by simpa using hp
    rw [e]
    exact nT
  · have e : p = (cM, tM) := by simpa using hp
    rw [e]
    exact PySem.W.codeHd_of_K X hM
  · exact ⟨a, ns, rfl, hS, hl, ⟨#[], hT (cM, tM) (by simp), by simp [TriplesOk]⟩, fun _ => rfl⟩
  · have TBx := hTB (cM, tM) (by simp)
    have TB : GxR.TabB base mg cM tM := ⟨TBx.code, TBx.bm, TBx.gP⟩
    have CM : ChM K C fm1 fm2 _ _ := ⟨Fm1, bm1, ⟨am1, im1, km1⟩, Fm2, bm2, ⟨am2, im2, km2⟩, CL, nM, nV⟩
    have GM : FnOk l.prog w K mg base CX0 4 f5 _ ["_law_told"] (spMade C tM) := ok_made F5 CH TB
    have Ggcd := PySem.W.mg_of X G ggcd
    have GC : FnOk l.prog w K mg base CX0 3 f7 _ ["chain"] (spChances C) := ok_chances F7 F8 b8 g8 F6 b6 g6 Ggcd CM Zrange Zenumerate Zlist Zsum
    have GA : FnOk l.prog w K mg base CX0 4 f13 _ ["_law_found", "_law_many"] spAre := ok_are F13 F12 b12 g12 F11 b11 g11 F10 b10 g10 F9 b9 g9 Zabs Zisinstance Ztuple Zlist Zbool Zint Zlen
    exact ok_law F14 LT ⟨F4, b4, g4, F5, b5, g5, F7, b7, g7, F13, b13, g13, F9, b9, g9⟩ GM GC GA Zisinstance Zlist Zsum
end Lg
open PySem PySem.W PyProof.Rows
set_option maxRecDepth 100000 in
set_option maxHeartbeats 0 in
theorem PySem.Challenge.cw_longago_k02_chances_holds : PySem.Challenge.rw_longago_k02_chances.Holds := by
  w_on; o_law; k_head; (case hw => w_witness2)
  k_fill
  refine Lg.walk_tab (l := PySem.Challenge.rw_longago_k02_chances) (n := 63) (k := 6) (x := "_law_script") (CX := fun _ => L2.CX0) "_is_move" rfl (by decide) rfl ⟨rfl, by decide, by decide⟩ (by decide +kernel) (fun w h Y => PySem.W.kIn_of Y) ?F (fun _ _ _ _ _ z => z)
  case F =>
    intro w mg fa h KX G hmg TO
    refine' Lg.all_mk KX G hmg TO ?aC ?a0 ?l0 ?c0 ?k0 ?a1 ?l1 ?c1 ?k1 ?a2 ?l2 ?c2 ?k2 ?a3 ?l3 ?c3 ?k3 ?a4 ?l4 ?c4 ?k4 ?a5 ?l5 ?c5 ?k5 ?a6 ?l6 ?c6 ?k6 ?a7 ?l7 ?c7 ?k7 ?a8 ?l8 ?c8 ?k8 ?a9 ?l9 ?c9 ?k9 ?a10 ?l10 ?c10 ?k10 ?a11 ?l11 ?c11 ?k11 ?a12 ?l12 ?c12 ?k12 ?a13 ?l13 ?c13 ?k13 ?a14 ?l14 ?c14 ?k14 ?am0 ?im0 ?lm0 ?cm0 ?km0 ?am1 ?im1 ?lm1 ?cm1 ?km1 ?am2 ?im2 ?lm2 ?cm2 ?km2 ?pg ?hd ?po ?sa ?mk ?kc ?nM ?nV ?gMOST_PLACES ?gMOST_MOVES ?gMOST_WEIGHT ?zlen ?zabs ?zmax ?zmin ?zint ?zrange ?zsorted ?ztuple ?zisinstance ?zall ?zenumerate ?zlist ?zsum ?zbool ?ggcd ?lM ?vM ?hM ?nT
    (case aC => k_is)
    (case a0 => k_is)
    (case l0 => k_is)
    (case c0 => k_is)
    (case k0 => k_is)
    (case a1 => k_is)
    (case l1 => k_is)
    (case c1 => k_is)
    (case k1 => k_is)
    (case a2 => k_is)
    (case l2 => k_is)
    (case c2 => k_is)
    (case k2 => k_is)
    (case a3 => k_is)
    (case l3 => k_is)
    (case c3 => k_is)
    (case k3 => k_is)
    (case a4 => k_is)
    (case l4 => k_is)
    (case c4 => k_is)
    (case k4 => k_is)
    (case a5 => k_is)
    (case l5 => k_is)
    (case c5 => k_is)
    (case k5 => k_is)
    (case a6 => k_is)
    (case l6 => k_is)
    (case c6 => k_is)
    (case k6 => k_is)
    (case a7 => k_is)
    (case l7 => k_is)
    (case c7 => k_is)
    (case k7 => k_is)
    (case a8 => k_is)
    (case l8 => k_is)
    (case c8 => k_is)
    (case k8 => k_is)
    (case a9 => k_is)
    (case l9 => k_is)
    (case c9 => k_is)
    (case k9 => k_is)
    (case a10 => k_is)
    (case l10 => k_is)
    (case c10 => k_is)
    (case k10 => k_is)
    (case a11 => k_is)
    (case l11 => k_is)
    (case c11 => k_is)
    (case k11 => k_is)
    (case a12 => k_is)
    (case l12 => k_is)
    (case c12 => k_is)
    (case k12 => k_is)
    (case a13 => k_is)
    (case l13 => k_is)
    (case c13 => k_is)
    (case k13 => k_is)
    (case a14 => k_is)
    (case l14 => k_is)
    (case c14 => k_is)
    (case k14 => k_is)
    (case am0 => k_is)
    (case im0 => k_is)
    (case lm0 => k_is)
    (case cm0 => k_is)
    (case km0 => k_is)
    (case am1 => k_is)
    (case im1 => k_is)
    (case lm1 => k_is)
    (case cm1 => k_is)
    (case km1 => k_is)
    (case am2 => k_is)
    (case im2 => k_is)
    (case lm2 => k_is)
    (case cm2 => k_is)
    (case km2 => k_is)
    (case pg => k_is)
    (case hd => k_is)
    (case po => k_is)
    (case sa => k_is)
    (case mk => k_is)
    (case kc => k_is)
    (case nM => k_is)
    (case nV => k_is)
    (case gMOST_PLACES => k_is)
    (case gMOST_MOVES => k_is)
    (case gMOST_WEIGHT => k_is)
    (case zlen => k_is)
    (case zabs => k_is)
    (case zmax => k_is)
    (case zmin => k_is)
    (case zint => k_is)
    (case zrange => k_is)
    (case zsorted => k_is)
    (case ztuple => k_is)
    (case zisinstance => k_is)
    (case zall => k_is)
    (case zenumerate => k_is)
    (case zlist => k_is)
    (case zsum => k_is)
    (case zbool => k_is)
    (case ggcd => k_is)
    (case lM => k_is)
    (case vM => first | rfl | k_is)
    (case hM => first | k_is | rfl | decide +kernel)
    (case nT => first | k_is | rfl | decide +kernel)

