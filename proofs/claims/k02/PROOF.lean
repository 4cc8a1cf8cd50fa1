import PyProof.Rows.All
import Wide.All
import OpenK.AllK
import Wide.FinOn
import PySem.Challenge.RW_eitherhand_k02_hands_and_integers_judged
import HandS.ForMost
import HandS.Wide
import HandS.IsInst
import HandS.RaiseMore
import HandS.Text
import PyProof.FactsAll.dict_1
import PyProof.FactsAll.subtypes_3
import PyProof.FactsAll.subtypes_4
import HandS.ExcOwn
import HandS.WordsExc
import HandS.TryOnly
set_option Elab.async false
set_option linter.all false
set_option maxRecDepth 100000
namespace Eh
open PySem PySem.Spec PyProof.Rows L2
/-! ### the text -/
def topS (i : Nat) : Stmt := PySem.Challenge.pw_eitherhand_k02_hands_and_integers_judged.main.body.getD i (.Pass ⟨0, 0, 0, 0⟩)
abbrev s_is_integer : Stmt := topS 5
theorem sc_is_integer : FnScope ["value"] ["value"] (defScope s_is_integer) := ⟨rfl, rfl, rfl, by decide +kernel, rfl, by decide +kernel, by decide +kernel⟩
abbrev s_is_hand : Stmt := topS 6
theorem sc_is_hand : FnScope ["value"] ["value"] (defScope s_is_hand) := ⟨rfl, rfl, rfl, by decide +kernel, rfl, by decide +kernel, by decide +kernel⟩
abbrev s_other_hand : Stmt := topS 7
theorem sc_other_hand : FnScope ["hand"] ["hand"] (defScope s_other_hand) := ⟨rfl, rfl, rfl, by decide +kernel, rfl, by decide +kernel, by decide +kernel⟩
abbrev s__law_dice : Stmt := topS 9
theorem sc__law_dice : FnScope ["script", "spot", "cell", "great", "blend"] ["script", "spot"] (defScope s__law_dice) := ⟨rfl, rfl, rfl, by decide +kernel, rfl, by decide +kernel, by decide +kernel⟩
abbrev s__law_roll : Stmt := topS 10
theorem sc__law_roll : FnScope ["dice", "many", "found", "one", "two"] ["dice", "many"] (defScope s__law_roll) := ⟨rfl, rfl, rfl, by decide +kernel, rfl, by decide +kernel, by decide +kernel⟩
abbrev s__law_pick : Stmt := topS 11
theorem sc__law_pick : FnScope ["dice", "items"] ["dice", "items"] (defScope s__law_pick) := ⟨rfl, rfl, rfl, by decide +kernel, rfl, by decide +kernel, by decide +kernel⟩
abbrev s__law_other : Stmt := topS 12
theorem sc__law_other : FnScope ["value"] ["value"] (defScope s__law_other) := ⟨rfl, rfl, rfl, by decide +kernel, rfl, by decide +kernel, by decide +kernel⟩
abbrev s__law_row : Stmt := topS 13
theorem sc__law_row : FnScope ["dice", "size", "small", "some", "odd"] ["dice"] (defScope s__law_row) := ⟨rfl, rfl, rfl, by decide +kernel, rfl, by decide +kernel, by decide +kernel⟩
abbrev s_law : Stmt := topS 14
theorem sc_law : FnScope ["script", "spot", "dice", "turn", "value", "is_number", "other"] ["script"] (defScope s_law) := ⟨rfl, rfl, rfl, by decide +kernel, rfl, by decide +kernel, by decide +kernel⟩
/-- the names of built-ins that the text reads and has not taken -/
structure Txt (mg : Str → Option Value) : Prop where
  range_ : mg "range" = none
  isinstance_ : mg "isinstance" = none
  bool_ : mg "bool" = none
  abs_ : mg "abs" = none
  len_ : mg "len" = none
  int_ : mg "int" = none
  max_ : mg "max" = none
  min_ : mg "min" = none
  repr_ : mg "repr" = none
end Eh

set_option Elab.async false
set_option linter.all false
set_option maxRecDepth 100000
namespace Eh
open PySem PySem.Spec PyProof.Rows L2
/-! ### what is called -/
structure Cal (P : Program) (w : World) (K : PySem.W.Frag) (mg : Str → Option Value) (base : Heap) (k : Nat) (x : Str) (f : Addr) (fd : FuncData) (ps : List Str) (sp : Sp) : Prop where
  G : FnOk P w K mg base CX0 k f fd ps sp
  m : mg x = some (.ref f)
  k : PySem.W.keepIn K (.ref f) = true
  b : Binds K fd ps []
/-! ### rules that the layer lacks -/
section
variable {X : Cx}
theorem op_powB : OpR X (binaryOp .Pow) (rI (fun i j => 0 ≤ j ∧ (Builtin.Int.intBits i : Int) * j ≤ 2 ^ 27) fun i j => .int (i ^ j.toNat)) :=
  opI fun _ _ _ _ _ _ _ hc q => pow_int hc.1 hc.2 q
theorem call_repr_bl : CallR X (.builtin "repr") (fun xs H Q => ∃ b, xs = [.bl b] ∧ Q (.str (if b then "True" else "False")) H) := by
  intro pins s σ H xs us Q I r h
  obtain ⟨b, rfl, q⟩ := h
  cases r with
  | cons r1 r2 =>
    cases r2
    cases r1
    exact PySem.P.repr_of_bool ⟨.str _, H, I.tok _, ⟨_, rfl⟩, q⟩
end
/-! ### the dice -/
/-- the list of the dice's three numbers stands at d -/
def D3 (H : Hp) (d : Addr) : Prop := ∃ g b c : Int, H d = some (.lst [.int g, .int b, .int c])
/-- from H to H' only the dice at d were turned, and new objects laid -/
structure Gr (d : Addr) (H H' : Hp) : Prop where
  dice : D3 H' d
  keep : ∀ a o, a ≠ d → H a = some o → H' a = some o
theorem Gr.refl {d : Addr} {H : Hp} (h : D3 H d) : Gr d H H := ⟨h, fun _ _ _ e => e⟩
theorem Gr.trans {d : Addr} {H H1 H2 : Hp} (a : Gr d H H1) (b : Gr d H1 H2) : Gr d H H2 := ⟨b.dice, fun p o n e => b.keep p o n (a.keep p o n e)⟩
theorem Gr.laid {d p : Addr} {H : Hp} {o : HO} (h : D3 H d) (n : H p = none) : Gr d H (upd H p o) := by
  obtain ⟨g, b, c, e⟩ := h
  exact ⟨⟨g, b, c, by rw [upd_ne (ne_of_none e n)]; exact e⟩, fun a u _ z => by rw [upd_ne (ne_of_none z n)]; exact z⟩
theorem D3.ne {d p : Addr} {H : Hp} (h : D3 H d) (n : H p = none) : p ≠ d := by
  obtain ⟨g, b, c, e⟩ := h
  exact (ne_of_none e n).symm
theorem Gr.seq {K : PySem.W.Frag} {d a : Addr} {H H' : Hp} {xs : List V} (r : Gr d H H') (n : a ≠ d) (h : SqL K H a xs) : SqL K H' a xs := by
  rcases h with (h | ⟨o, h⟩) | h
  · exact .inl (.inl (r.keep _ _ n h))
  · exact .inl (.inr ⟨o, r.keep _ _ n h⟩)
  · exact .inr h
theorem Gr.put {d l : Addr} {H H' : Hp} {o : HO} (r : Gr d H H') (n : H l = none) (m : l ≠ d) : Gr d H (upd H' l o) := by
  obtain ⟨g, b, c, e⟩ := r.dice
  exact ⟨⟨g, b, c, by rw [upd_ne m.symm]; exact e⟩, fun a u q z => by rw [upd_ne (ne_of_none z n)]; exact r.keep a u q z⟩
theorem Gr.free {d l : Addr} {H H' : Hp} (r : Gr d H H') (h : D3 H d) (n : H' l = none) : H l = none := by
  cases q : H l with
  | none => rfl
  | some o =>
    by_cases e : l = d
    · obtain ⟨g, b, c, z⟩ := r.dice
      rw [e, z] at n
      cases n
    · rw [r.keep l o e q] at n
      cases n
section
variable {P : Program} {w : World} {K : PySem.W.Frag} {mg : Str → Option Value} {base : Heap}
def spRoll : Sp := fun vs H Q _ => ∃ (d : Addr) (many : Int), vs = [.ref d, .int many] ∧ D3 H d ∧ 0 < many ∧ many < 1073741824 ∧
  ∀ (r : Int) H', 0 ≤ r → r < many → D3 H' d → (∀ a, a ≠ d → H' a = H a) → Q (.int r) H'
theorem fmod_in {i m : Int} (h : 0 < m) : 0 ≤ i.fmod m ∧ i.fmod m < m := by
  rw [Int.fmod_eq_emod_of_nonneg i (by omega)]
  exact ⟨Int.emod_nonneg i (by omega), Int.emod_lt_of_pos i h⟩
theorem in64 {x : Int} (h : 0 ≤ x ∧ x < 2305843009213693951) : -(2 ^ 64) < x ∧ x < 2 ^ 64 := by omega
theorem in64' {x : Int} (h : 0 ≤ x ∧ x < 2305843009213693807) : -(2 ^ 64) < x ∧ x < 2 ^ 64 := by omega
theorem m1N : (2305843009213693951 : Int) ≠ 0 := by decide
theorem m2N : (2305843009213693807 : Int) ≠ 0 := by decide
theorem m3N : (2305843009213693537 : Int) ≠ 0 := by decide
theorem d8N : (8192 : Int) ≠ 0 ∧ (8192 : Int).natAbs < 1073741824 := by decide
theorem ok_roll {f : Addr} {fd : FuncData} (F : Fun K "_law_roll" "_law_roll" s__law_roll f fd) (T : Txt mg) : FnOk P w K mg base CX0 1 f fd ["dice", "many"] spRoll := by
  refine F.ok sc__law_roll (fun vs H Q E h => ?_) (fun cdv A outer s H vs Q E hr h => ?_)
  · obtain ⟨d, m, rfl, _⟩ := h
    rfl
  · obtain ⟨d, m, rfl, ⟨g, b, c, eH⟩, m0, m1, q⟩ := h
    refine ⟨_, (pss_cons (ps_if (pt_cmpR op_gt (pe_ix ix_list (pv 0) pe_int (fun _ _ => rfl)) pe_int (nomark _))
  (pss_cons (ps_set (i := 2) sc__law_roll.nd rfl (.inl rfl) (pe_op op_modN (pe_callTy call_int1 (by rfl) T.int_ (by decide +kernel) (pa_cons (pe_ix ix_list (pv 0) pe_int (fun _ _ => rfl)) pa_nil)) (pv 1)))
  (pss_cons (ps_asg (pe_op op_fdivN (pe_ix ix_list (pv 0) pe_int (fun _ _ => rfl)) (pv 1)) (pg_sub (pv 0) pe_int set_list))
  (pss_one (ps_ret (pv 2)))))
  pss_nil)
  (pss_cons (ps_asg (pe_op op_add (pe_ix ix_list (pv 0) pe_int (fun _ _ => rfl)) pe_int) (pg_sub (pv 0) pe_int set_list))
  (pss_cons (ps_set (i := 3) sc__law_roll.nd rfl (.inl rfl) (pe_op op_modN (pe_callTy call_int1 (by rfl) T.int_ (by decide +kernel) (pa_cons (pe_op op_add (pe_ix ix_list (pv 0) pe_int (fun _ _ => rfl)) (pe_op op_mul pe_int (pe_ix ix_list (pv 0) pe_int (fun _ _ => rfl)))) pa_nil)) pe_int))
  (pss_cons (ps_set (i := 4) sc__law_roll.nd rfl (.inl rfl) (pe_op op_add (pe_op op_mul (pe_op op_modN (pe_callTy call_int1 (by rfl) T.int_ (by decide +kernel) (pa_cons (pe_op op_mul (pv 3) (pv 3)) pa_nil)) pe_int) (pv 3)) (pe_op op_mul pe_int (pe_ix ix_list (pv 0) pe_int (fun _ _ => rfl)))))
  (pss_cons (ps_set (i := 4) sc__law_roll.nd rfl (.inl rfl) (pe_op op_modN (pe_callTy call_int1 (by rfl) T.int_ (by decide +kernel) (pa_cons (pv 4) pa_nil)) pe_int))
  (pss_one (ps_ret (pe_op op_modN (pe_callTy call_int1 (by rfl) T.int_ (by decide +kernel) (pa_cons (pe_op op_fdivN (pv 4) pe_int) pa_nil)) (pv 1))))))))), ?_⟩
    refine ⟨_, rfl, d, _, 0, _, rfl, rfl, SqL.of eH, atI_nat (j := 0) rfl, g, 0, rfl, rfl, _, rfl, ite2 (fun _ => ?_) (fun _ => ?_)⟩
    · refine ⟨_, rfl, d, _, 0, _, rfl, rfl, SqL.of eH, atI_nat (j := 0) rfl, .inl ⟨g, rfl, ?_⟩⟩
      refine ⟨_, rfl, g, m, rfl, rfl, by omega, ?_⟩
      refine ⟨_, rfl, d, _, 0, _, rfl, rfl, SqL.of eH, atI_nat (j := 0) rfl, _, rfl, g, m, rfl, rfl, ⟨by omega, by omega⟩, ?_⟩
      refine ⟨_, rfl, d, _, 0, 0, rfl, rfl, eH, rfl, ?_⟩
      refine ⟨_, rfl, q _ _ (fmod_in m0).1 (fmod_in m0).2 ⟨_, b, c, upd_same⟩ fun a n => upd_ne n⟩
    · refine ⟨_, rfl, d, _, 2, _, rfl, rfl, SqL.of eH, atI_nat (j := 2) rfl, c, 1, rfl, rfl, ?_⟩
      refine ⟨_, rfl, d, _, 2, 2, rfl, rfl, eH, rfl, ?_⟩
      have e1 : (upd H d (.lst [.int g, .int b, .int (c + 1)])) d = some (.lst [.int g, .int b, .int (c + 1)]) := upd_same
      refine ⟨_, rfl, d, _, 1, _, rfl, rfl, SqL.of e1, atI_nat (j := 1) rfl, _, rfl, d, _, 2, _, rfl, rfl, SqL.of e1, atI_nat (j := 2) rfl, _, _, rfl, rfl, .inl ⟨by decide, by decide⟩, _, _, rfl, rfl, .inl ⟨_, rfl, ?_⟩⟩
      refine ⟨_, _, rfl, rfl, m1N, ?_⟩
      refine ⟨_, rfl, _, rfl, _, _, rfl, rfl, .inl (in64 (fmod_in (by decide))), .inl ⟨_, rfl, ?_⟩⟩
      refine ⟨_, _, rfl, rfl, m2N, ?_⟩
      refine ⟨_, rfl, _, _, rfl, rfl, .inl (in64' (fmod_in (by decide))), ?_⟩
      refine ⟨_, rfl, d, _, 2, _, rfl, rfl, SqL.of e1, atI_nat (j := 2) rfl, _, _, rfl, rfl, .inl ⟨by decide, by decide⟩, _, _, rfl, rfl, ?_⟩
      refine ⟨_, rfl, .inl ⟨_, rfl, _, _, rfl, rfl, m3N, ?_⟩⟩
      refine ⟨_, rfl, _, _, rfl, rfl, d8N, .inl ⟨_, rfl, _, rfl, _, m, rfl, rfl, by omega, ?_⟩⟩
      exact q _ _ (fmod_in m0).1 (fmod_in m0).2 ⟨g, b, _, upd_same⟩ fun a n => upd_ne n
end
end Eh

set_option Elab.async false
set_option linter.all false
set_option maxRecDepth 100000
namespace Eh
open PySem PySem.Spec PyProof.Rows L2
/-! ### the rules with the written part named (within a comprehension the context's own name of it is out of reach) -/
section
variable {X : Cx} {K : PySem.W.Frag}
theorem ixL (h : X.K = K) : IxR X (rIxL K) := by subst h; exact ix_list
theorem ixT (h : X.K = K) : IxR X (rIxT K) := by subst h; exact ix_tup
theorem slL (h : X.K = K) : SlR X (rSlL K) := by subst h; exact sl_list
theorem inQ (h : X.K = K) : OpR X (compareOp .In) (rIn K false) := by subst h; exact op_in_seq
theorem niQ (h : X.K = K) : OpR X (compareOp .NotIn) (rIn K true) := by subst h; exact op_notIn_seq
theorem eqD (h : X.K = K) (hu : X.A.units + 64 < cLine) : OpR X (compareOp .Eq) (rEqD K) := by subst h; exact op_eqD hu
theorem neD (h : X.K = K) (hu : X.A.units + 64 < cLine) : OpR X (compareOp .NotEq) (rNeD K) := by subst h; exact op_neD hu
def rLen (K : PySem.W.Frag) : List V → Hp → VK → Prop := fun xs H Q => (∃ p ys, xs = [.ref p] ∧ (SqL K H p ys ∨ SqT K H p ys) ∧ Q (.int ys.length) H) ∨ (∃ z : Str, xs = [.str z] ∧ z.length ≤ sizeLine ∧ Q (.int z.length) H)
theorem lenQ (h : X.K = K) : CallR X (.builtin "len") (rLen K) := by subst h; exact call_len_seq.or call_len_str
def rLstOf (K : PySem.W.Frag) : List V → Hp → VK → Prop := fun xs H Q => ∃ p ys, xs = [.ref p] ∧ (SqL K H p ys ∨ SqT K H p ys) ∧ ∀ l, H l = none → Q (.ref l) (upd H l (.lst ys))
theorem lstOf (h : X.K = K) : CallR X (.type "list") (rLstOf K) := by subst h; exact call_list_of
theorem isiQ (h : X.K = K) : CallR X (.builtin "isinstance") (rIsi K) := by subst h; exact call_isi
theorem allQ (h : X.K = K) (hc : X.calm = true) : CallR X (.builtin "all") (rAll K) := by subst h; exact cr_all hc
theorem bmK {e : Expr} {T : String} {r : V → List V → Hp → VK → Prop} {to : TE} {t : TA} (h : X.K = K) (p : PE X e (tBM X.K T r to t)) : PE X e (tBM K T r to t) := by subst h; exact p
theorem bm0K {e : Expr} {T : String} {r : V → List V → Hp → VK → Prop} {to : TE} (h : X.K = K) (p : PE X e (tBM0 X.K T r to)) : PE X e (tBM0 K T r to) := by subst h; exact p
theorem piL {tg l : Expr} {tl : TE} (h : X.K = K) (hl : PE X l tl) : PI X tg l (iList K tl) := by subst h; exact pi_list hl
end
end Eh

set_option Elab.async false
set_option linter.all false
set_option maxRecDepth 100000
namespace Eh
open PySem PySem.Spec PyProof.Rows L2
/-! ### comprehensions over one name, the list that grows told -/
theorem small {n : Nat} (h : n < 1000000) : n < sizeLine := Nat.lt_of_lt_of_le h (by decide)
theorem wipe1 {σ : L2.St} {i : Nat} {x : Option V} : wipe ((wipe σ [i]).set i x) [i] = wipe σ [i] := by
  show ((σ.set i none).set i x).set i none = σ.set i none
  rw [List.set_set, List.set_set]
/-- ahead of turn j: what is made stands at D, and R -/
def LcP (R : Nat → List V → Hp → Prop) (D : Addr) (j : Nat) (H : Hp) : Prop := ∃ acc, acc.length ≤ j ∧ H D = some (.lst acc) ∧ R j acc H
/-- behind the element of turn j -/
def LcK (R : Nat → List V → Hp → Prop) (D : Addr) (j : Nat) : VK := fun y H4 => ∃ acc, H4 D = some (.lst acc) ∧ acc.length < sizeLine ∧ LcP R D (j + 1) (upd H4 D (.lst (acc ++ [y])))
theorem LcK.mk {R : Nat → List V → Hp → Prop} {D : Addr} {j : Nat} {acc : List V} {y : V} {H : Hp} (hl : acc.length ≤ j) (hj : j < 1000000) (e : H D = some (.lst acc)) (r : R (j + 1) (acc ++ [y]) (upd H D (.lst (acc ++ [y])))) : LcK R D j y H :=
  ⟨acc, e, small (by omega), acc ++ [y], by rw [List.length_append]; show acc.length + 1 ≤ j + 1; omega, upd_same, r⟩
/-- what a comprehension's reading asks behind its new list -/
def LcGoal (J : It) (g : TG) (tt : TT) (te : TE) (vs : List Nat) (σ : L2.St) (H1 : Hp) (D : Addr) (Qd : Hp → Prop) : Prop :=
  ∃ W : Nat → Nat → Hp → Prop, (∃ m, W 0 m (upd H1 D (.lst []))) ∧ ∀ i m H, W i m H → (J.stop i H ∧ Qd H) ∨ (J.go i H ∧ ∃ Nx : Hp → Prop, (∀ H', Nx H' → ∃ m', m' < m ∧ W (i + 1) m' H') ∧
    ∀ x H', J.yld i H x H' → g x (wipe σ vs) H' fun σ2 H2 => wipe σ2 vs = wipe σ vs ∧ tt σ2 H2 fun b H3 => if b = true then te σ2 H3 fun y H4 => ∃ acc, H4 D = some (.lst acc) ∧ acc.length < sizeLine ∧ Nx (upd H4 D (.lst (acc ++ [y]))) else Nx H3)
theorem yesT {τ : L2.St} {H : Hp} {A B : Hp → Prop} (h : A H) : tYes τ H (fun b H3 => if b = true then A H3 else B H3) := by
  show (if true = true then A H else B H)
  rw [if_pos rfl]
  exact h
section
variable {te : TE} {tt : TT} {σ : L2.St} {H1 : Hp} {D : Addr} {Qd : Hp → Prop} {i : Nat}
theorem lc_any {J : It} {n : Nat} (R : Nat → List V → Hp → Prop) (h0 : R 0 [] (upd H1 D (.lst [])))
    (hgo : ∀ j acc H, j < n → acc.length ≤ j → H D = some (.lst acc) → R j acc H → J.go j H ∧ ∀ x H', J.yld j H x H' → H' = H ∧
      tt ((wipe σ [i]).set i (some x)) H fun b H3 => if b = true then te ((wipe σ [i]).set i (some x)) H3 (LcK R D j) else LcP R D (j + 1) H3)
    (hstop : ∀ acc H, acc.length ≤ n → H D = some (.lst acc) → R n acc H → J.stop n H ∧ Qd H) : LcGoal J (gName i) tt te [i] σ H1 D Qd := by
  refine ⟨fun j m H => m = n - j ∧ j ≤ n ∧ LcP R D j H, ⟨n, by omega, Nat.zero_le _, [], Nat.le_refl _, upd_same, h0⟩, ?_⟩
  rintro j m H ⟨rfl, hj, acc, hl, e, r⟩
  by_cases hlt : j < n
  · obtain ⟨g1, g2⟩ := hgo j acc H hlt hl e r
    refine .inr ⟨g1, LcP R D (j + 1), fun H' q => ⟨n - (j + 1), by omega, rfl, hlt, q⟩, fun x H' y => ?_⟩
    obtain ⟨eH, k⟩ := g2 x H' y
    subst eH
    exact ⟨wipe1, k⟩
  · have ej : j = n := by omega
    subst ej
    exact .inl (hstop acc H hl e r)
/-- over a range, no test -/
theorem lcR {lo : Int} {n : Nat} (R : Nat → List V → Hp → Prop) (h0 : R 0 [] (upd H1 D (.lst [])))
    (hs : ∀ j acc H, j < n → acc.length ≤ j → H D = some (.lst acc) → R j acc H → te ((wipe σ [i]).set i (some (.int (lo + j)))) H (LcK R D j))
    (hd : ∀ acc H, acc.length ≤ n → H D = some (.lst acc) → R n acc H → Qd H) : LcGoal (Itr lo n) (gName i) tYes te [i] σ H1 D Qd :=
  lc_any R h0 (fun j acc H hj hl e r => ⟨hj, fun x H' y => ⟨y.1, by
    rw [show x = .int (lo + j) from y.2]
    exact hs j acc H hj hl e r⟩⟩) fun acc H hl e r => ⟨Nat.le_refl _, hd acc H hl e r⟩
/-- over a text, no test; with one -/
theorem lcS {z : Str} (R : Nat → List V → Hp → Prop) (h0 : R 0 [] (upd H1 D (.lst [])))
    (hs : ∀ j c acc H, z.cps[j]? = some c → acc.length ≤ j → H D = some (.lst acc) → R j acc H →
      tt ((wipe σ [i]).set i (some (.str ⟨#[c]⟩))) H fun b H3 => if b = true then te ((wipe σ [i]).set i (some (.str ⟨#[c]⟩))) H3 (LcK R D j) else LcP R D (j + 1) H3)
    (hd : ∀ acc H, acc.length ≤ z.cps.size → H D = some (.lst acc) → R z.cps.size acc H → Qd H) : LcGoal (Its z) (gName i) tt te [i] σ H1 D Qd :=
  lc_any R h0 (fun j acc H hj hl e r => ⟨hj, fun x H' y => by
    obtain ⟨y1, c, hc, rfl⟩ := y
    exact ⟨y1, hs j c acc H hc hl e r⟩⟩) fun acc H hl e r => ⟨Nat.le_refl _, hd acc H hl e r⟩
/-- over a list that stays -/
theorem lcL {K : PySem.W.Frag} {a : Addr} {xs : List V} (R : Nat → List V → Hp → Prop) (h0 : R 0 [] (upd H1 D (.lst []))) (hl : ∀ j acc H, R j acc H → SqL K H a xs)
    (hs : ∀ j x acc H, xs[j]? = some x → acc.length ≤ j → H D = some (.lst acc) → R j acc H →
      tt ((wipe σ [i]).set i (some x)) H fun b H3 => if b = true then te ((wipe σ [i]).set i (some x)) H3 (LcK R D j) else LcP R D (j + 1) H3)
    (hd : ∀ acc H, acc.length ≤ xs.length → H D = some (.lst acc) → R xs.length acc H → Qd H) : LcGoal (Itl K a) (gName i) tt te [i] σ H1 D Qd :=
  lc_any R h0 (fun j acc H hj hl' e r => ⟨⟨xs, xs[j], hl _ _ _ r, List.getElem?_eq_getElem hj⟩, fun x H' y => ⟨y.1, hs j x acc H (y.2 xs (hl _ _ _ r)) hl' e r⟩⟩)
    fun acc H hl' e r => ⟨⟨xs, hl _ _ _ r, Nat.le_refl _⟩, hd acc H hl' e r⟩
/-- over a tuple that stays -/
theorem lcT {K : PySem.W.Frag} {a : Addr} {xs : List V} (R : Nat → List V → Hp → Prop) (h0 : R 0 [] (upd H1 D (.lst []))) (hl : ∀ j acc H, R j acc H → SqT K H a xs)
    (hs : ∀ j x acc H, xs[j]? = some x → acc.length ≤ j → H D = some (.lst acc) → R j acc H →
      tt ((wipe σ [i]).set i (some x)) H fun b H3 => if b = true then te ((wipe σ [i]).set i (some x)) H3 (LcK R D j) else LcP R D (j + 1) H3)
    (hd : ∀ acc H, acc.length ≤ xs.length → H D = some (.lst acc) → R xs.length acc H → Qd H) : LcGoal (Itt K a) (gName i) tt te [i] σ H1 D Qd :=
  lc_any R h0 (fun j acc H hj hl' e r => ⟨⟨xs, xs[j], hl _ _ _ r, List.getElem?_eq_getElem hj⟩, fun x H' y => ⟨y.1, hs j x acc H (y.2 xs (hl _ _ _ r)) hl' e r⟩⟩)
    fun acc H hl' e r => ⟨⟨xs, hl _ _ _ r, Nat.le_refl _⟩, hd acc H hl' e r⟩
end
end Eh

set_option Elab.async false
set_option linter.all false
set_option maxRecDepth 100000
namespace Eh
open PySem PySem.Spec PyProof.Rows L2
section
variable {P : Program} {w : World} {K : PySem.W.Frag} {mg : Str → Option Value} {base : Heap}
theorem seq_off {d a : Addr} {H H' : Hp} {xs : List V} (n : a ≠ d) (k : ∀ b, b ≠ d → H' b = H b) (h : SqL K H a xs) : SqL K H' a xs := by
  rcases h with (h | ⟨o, h⟩) | h
  · exact .inl (.inl (by rw [k a n]; exact h))
  · exact .inl (.inr ⟨o, by rw [k a n]; exact h⟩)
  · exact .inr h
/-! pick -/
def spPick (K : PySem.W.Frag) : Sp := fun vs H Q _ => ∃ (d a : Addr) (xs : List V), vs = [.ref d, .ref a] ∧ D3 H d ∧ SqL K H a xs ∧ a ≠ d ∧ 0 < xs.length ∧ xs.length < 1000000 ∧
  ∀ x H', x ∈ xs → D3 H' d → (∀ b, b ≠ d → H' b = H b) → Q x H'
theorem at_in {xs : List V} {r : Int} (h0 : 0 ≤ r) (h1 : r < xs.length) : ∃ x, atI xs r = some x ∧ x ∈ xs := by
  have h : r.toNat < xs.length := by omega
  refine ⟨xs[r.toNat], ?_, List.getElem_mem h⟩
  have e := atI_nat (xs := xs) (j := r.toNat) (List.getElem?_eq_getElem h)
  rwa [Int.toNat_of_nonneg h0] at e
theorem ok_pick {f fR : Addr} {fd fdR : FuncData} (F : Fun K "_law_pick" "_law_pick" s__law_pick f fd) (T : Txt mg) (C__law_roll : Cal P w K mg base 1 "_law_roll" fR fdR ["dice", "many"] spRoll) :
    FnOk P w K mg base CX0 2 f fd ["dice", "items"] (spPick K) := by
  refine F.ok sc__law_pick (fun vs H Q E h => ?_) (fun cdv A outer s H vs Q E hr h => ?_)
  · obtain ⟨d, a, xs, rfl, _⟩ := h
    rfl
  · obtain ⟨d, a, xs, rfl, D, hS, hn, h0, h1, q⟩ := h
    refine ⟨_, (pss_one (ps_ret (pe_ix (ixL (K := K) rfl) (pv 1) (pe_call C__law_roll.G hr (by rfl) C__law_roll.m C__law_roll.k C__law_roll.b .nil pass0 (pa_cons (pv 0) (pa_cons (pe_callB (lenQ (K := K) rfl) (by rfl) T.len_ (by decide +kernel) (pa_cons (pv 1) pa_nil)) pa_nil))) (fun _ _ => rfl)))), ?_⟩
    refine ⟨_, rfl, _, rfl, _, rfl, (.inl ⟨a, xs, rfl, .inl hS, d, _, rfl, D, by omega, by omega, fun r H' r0 r1 D' k => ?_⟩)⟩
    obtain ⟨x, e, hx⟩ := at_in r0 r1
    exact ⟨a, xs, r, x, rfl, rfl, seq_off hn k hS, e, q x H' hx D' k⟩
end
end Eh

set_option Elab.async false
set_option linter.all false
set_option maxRecDepth 100000
namespace Eh
open PySem PySem.Spec PyProof.Rows L2
section
variable {P : Program} {w : World} {K : PySem.W.Frag} {mg : Str → Option Value} {base : Heap}
/-! dice -/
def spDice (K : PySem.W.Frag) : Sp := fun vs H Q _ => ∃ (a : Addr) (ns : List Int) (k : Nat), vs = [.ref a, .int k] ∧ SqL K H a (ns.map V.int) ∧
  ∀ d H', Same H H' → H d = none → D3 H' d → Q (.ref d) H'
theorem p60 : (0 : Int) ≤ 60 ∧ (60 : Int) ≤ 1000000 ∧ (10 : Int).natAbs < 2 ^ 64 := by decide
theorem p18 : (0 : Int) ≤ 18 ∧ (18 : Int) ≤ 1000000 ∧ (10 : Int).natAbs < 2 ^ 64 := by decide
theorem p600 : (0 : Int) ≤ 10 ∧ (Builtin.Int.intBits ((10 : Int) ^ (60 : Int).toNat) : Int) * 10 ≤ 2 ^ 27 := by decide +kernel
theorem n600 : ((10 : Int) ^ (60 : Int).toNat) ^ (10 : Int).toNat ≠ 0 := by decide +kernel
theorem mulR {i j : Int} (h : -(2 ^ 64) < j ∧ j < 2 ^ 64) : CMul i j := .inr h
theorem mulL {i j : Int} (h : -(2 ^ 64) < i ∧ i < 2 ^ 64) : CMul i j := .inl h
theorem same_new {H : Hp} {p : Addr} {o : HO} (h : H p = none) : Same H (upd H p o) := fun b x e => by
  rw [upd_ne (ne_of_none e h)]
  exact e
theorem lenOk (n : Nat) {xs : List V} (e : xs.length = n := by rfl) (h : n < 1000000 := by decide) : xs.length ≤ sizeLine := by
  rw [e]
  exact Nat.le_of_lt (small h)
theorem ok_dice {f : Addr} {fd : FuncData} (F : Fun K "_law_dice" "_law_dice" s__law_dice f fd) (T : Txt mg) : FnOk P w K mg base CX0 1 f fd ["script", "spot"] (spDice K) := by
  refine F.ok sc__law_dice (fun vs H Q E h => ?_) (fun cdv A outer s H vs Q E hr h => ?_)
  · obtain ⟨a, ns, k, rfl, _⟩ := h
    rfl
  · obtain ⟨a, ns, k, rfl, hS, q⟩ := h
    refine ⟨_, (pss_cons (ps_set (i := 2) sc__law_dice.nd rfl (.inl rfl) (pe_op op_add (pe_op op_mul pe_int (pv 1)) pe_int))
  (pss_cons (ps_if (pt_cmpR op_lt (pv 1) (pe_callB (lenQ (K := K) rfl) (by rfl) T.len_ (by decide +kernel) (pa_cons (pv 0) pa_nil)) (nomark _))
  (pss_one (ps_set (i := 2) sc__law_dice.nd rfl (.inl rfl) (pe_ix (ixL (K := K) rfl) (pv 0) (pv 1) (fun _ _ => rfl))))
  pss_nil)
  (pss_cons (ps_set (i := 3) sc__law_dice.nd rfl (.inl rfl) (pe_op op_modN (pe_callTy call_int1 (by rfl) T.int_ (by decide +kernel) (pa_cons (pe_callB call_abs (by rfl) T.abs_ (by decide +kernel) (pa_cons (pv 2) pa_nil)) pa_nil)) (pe_op op_powB (pe_op op_pow pe_int pe_int) pe_int)))
  (pss_cons (ps_set (i := 4) sc__law_dice.nd rfl (.inl rfl) (pe_op op_add (pe_op op_add (pe_op op_add (pe_op op_mul (pe_op op_modN (pe_callTy call_int1 (by rfl) T.int_ (by decide +kernel) (pa_cons (pv 3) pa_nil)) pe_int) pe_int) (pe_op op_mul pe_int (pv 1))) (pe_op op_mul pe_int (pe_callTy call_int1 (by rfl) T.int_ (by decide +kernel) (pa_cons (pe_cmpR op_lt (pv 2) pe_int (nomark _)) pa_nil)))) pe_int))
  (pss_one (ps_ret (pe_lst (pa_cons (pe_callB (call_max2 (by rfl)) (by rfl) T.max_ (by decide +kernel) (pa_cons pe_int (pa_cons (pe_op op_sub (pv 3) (pe_op op_pow pe_int pe_int)) pa_nil))) (pa_cons (pe_op op_modN (pe_callTy call_int1 (by rfl) T.int_ (by decide +kernel) (pa_cons (pv 4) pa_nil)) pe_int) (pa_cons pe_int pa_nil)))))))))), ?_⟩
    refine ⟨_, rfl, _, _, rfl, rfl, mulL (by decide), _, _, rfl, rfl, ?_⟩
    refine ⟨_, rfl, _, rfl, .inl ⟨a, _, rfl, .inl hS, _, _, rfl, rfl, _, rfl, ite2 (fun hk => ?A) (fun _ => ?B)⟩⟩
    case' A =>
      have hk : (k : Int) < ((ns.map V.int).length : Int) := of_decide_eq_true hk
      have hk' : k < ns.length := by rw [List.length_map] at hk; omega
      refine ⟨_, rfl, _, rfl, a, _, k, .int ns[k], rfl, rfl, hS, atI_nat (by rw [List.getElem?_map, List.getElem?_eq_getElem hk']; rfl), ?_⟩
    all_goals
      refine ⟨_, rfl, _, rfl, .inl ⟨_, rfl, _, _, rfl, rfl, p60, _, _, rfl, rfl, p600, _, _, rfl, rfl, n600, ?_⟩⟩
      refine ⟨_, rfl, .inl ⟨_, rfl, _, _, rfl, rfl, m3N, _, _, rfl, rfl, mulR (by decide), _, rfl, _, _, rfl, rfl, mulL (by decide), _, _, rfl, rfl, _, rfl, _, _, rfl, rfl, .inr ⟨_, rfl, _, _, rfl, rfl, mulL (by decide), _, _, rfl, rfl, _, _, rfl, rfl, ?_⟩⟩⟩
      refine ⟨_, rfl, _, _, rfl, rfl, p18, _, _, rfl, rfl, _, _, rfl, _, rfl, .inl ⟨_, rfl, _, _, rfl, rfl, m3N, lenOk 3, fun l nl => ?_⟩⟩
      exact q l _ (same_new nl) nl ⟨_, _, _, upd_same⟩
end
end Eh

set_option Elab.async false
set_option linter.all false
set_option maxRecDepth 100000
/-! a text == a dict; a value of any kind in a tuple of texts -/
namespace Eh
open PySem PySem.SeqAt
theorem dictNoStr (l : Addr) (dd : Option Addr) (es : Array DictEntry) (n : Nat) (sl : Array (Option Value)) (b : Str) (u : Tok) :
    Meets (Builtin.«dict.__eq__» ⟨[.ref l, .str b u], []⟩) (fun _ R s => s.heap.get? l = some { cls := .type "dict", dict := dd, data := .dict es n, slots := sl } ∧ R (.ok (.ret .notImplemented)) s) :=
  .of_wp fun prog w A R s h => by
    obtain ⟨hp, g, d, tk, os⟩ := s
    obtain ⟨hl, h⟩ := h
    have f1 := PySem.F.sub_str_dict
    wp_walk using wpAny_loadPart' hl
    exact ⟨_, rfl, h⟩
theorem strNoDict (l : Addr) (dd : Option Addr) (es : Array DictEntry) (n : Nat) (sl : Array (Option Value)) (b : Str) (u : Tok) :
    Meets (Builtin.«str.__eq__» ⟨[.str b u, .ref l], []⟩) (fun _ R s => s.heap.get? l = some { cls := .type "dict", dict := dd, data := .dict es n, slots := sl } ∧ R (.ok (.ret .notImplemented)) s) :=
  .of_wp fun prog w A R s h => by
    obtain ⟨hp, g, d, tk, os⟩ := s
    obtain ⟨hl, h⟩ := h
    wp_walk using wpAny_loadPart' hl, wpAny_load hl
    exact ⟨_, rfl, h⟩
section
variable {A : Around} {s : Shared}
theorem rcStrDict {l : Addr} {dd : Option Addr} {es : Array DictEntry} {n : Nat} {sl : Array (Option Value)} (b : Str) (u : Tok) (ho : s.heap.get? l = some { cls := .type "dict", dict := dd, data := .dict es n, slots := sl }) (hu : A.units < cLine) :
    RcAt A s (.str b u) (.ref l) false := fun prog w E Q h =>
  rc_eq_decline_or (k := false) (typeIs_str s b u) ⟨_, ho, rfl⟩ (by decide) PySem.F.sub_dict_str PySem.F.slot_str_eq PySem.F.slot_dict_eq_refl
    (fun _ hq => call_meets PySem.F.slot_str_eq (typeIs_str s b u) PySem.F.entry_str_eq (PySem.F.args_str_eq_2 _ _) (strNoDict l dd es n sl b u) ⟨ho, hq⟩)
    (fun _ hq => call_meets PySem.F.slot_dict_eq_refl ⟨_, ho, rfl⟩ PySem.F.entry_dict_eq (PySem.F.args_dict_eq_2 _ _) (dictNoStr l dd es n sl b u) ⟨ho, hq⟩)
    (fun _ hq => wpAny_of_eq (rfl : isSame (.str b u) (.ref l) = pure false) hq) (.inr hu) h
theorem eqStrDict {l : Addr} {dd : Option Addr} {es : Array DictEntry} {n : Nat} {sl : Array (Option Value)} (b : Str) (u : Tok) (ho : s.heap.get? l = some { cls := .type "dict", dict := dd, data := .dict es n, slots := sl }) (hu : A.units < cLine) :
    EqAt A s (.str b u) (.ref l) false := fun prog w E Q h => by
  unfold eqBool
  exact wpAny_holding (wpAny_ite_split (fun z => absurd (eq_of_beq z) nofun) fun _ => wpAny_bind (rcStrDict b u ho hu prog w E _ (wpAny_truthy_bool h)))
end
end Eh
namespace Eh
open PySem PySem.Spec PyProof.Rows L2
/-- what may stand on the left of `in` here: flat, or a list, a tuple, a dict -/
def Sorted5 (H : Hp) (x : V) : Prop := flatV x = true ∨ ∃ a, x = .ref a ∧ ((∃ xs, H a = some (.tup xs)) ∨ (∃ xs, H a = some (.lst xs)) ∨ ∃ kvs, H a = some (.dK kvs))
def rInS (K : PySem.W.Frag) : R2 := fun x y H Q => ∃ (p : Addr) (ws : List Str), y = .ref p ∧ SqT K H p (ws.map V.str) ∧ Sorted5 H x ∧ Q (.bl (inV x (ws.map V.str))) H
theorem flat_strs (ws : List Str) : (ws.map V.str).all flatV = true := by
  rw [List.all_eq_true]
  intro x hx
  obtain ⟨z, _, rfl⟩ := List.mem_map.mp hx
  rfl
theorem strs_only : ∀ {ws : List Str} {us : List Value}, Vals (ws.map V.str) us → ∀ u ∈ us, ∃ z t, u = .str z t
  | [], _, .nil, _, h => by cases h
  | z :: ws, _, .cons r t, u, h => by
    rcases List.mem_cons.mp h with rfl | h
    · obtain ⟨t, e⟩ := r
      exact ⟨z, t, e⟩
    · exact strs_only t u h
theorem inV_ref {a : Addr} (ws : List Str) : inV (.ref a) (ws.map V.str) = false := by
  unfold inV
  rw [List.any_map, List.any_eq_false]
  intro z _
  exact fun h => by cases h
theorem inS {X : Cx} {K : PySem.W.Frag} (hK : X.K = K) (hu : X.A.units + 1 < cLine) : OpR X (compareOp .In) (rInS K) := by
  subst hK
  intro pins s σ H x y v u Q I rx ry h
  obtain ⟨p, ws, rfl, hq, so, q⟩ := h
  rcases so with fl | ⟨a, rfl, so⟩
  · exact op_in_seq pins s σ H x (.ref p) v u Q I rx ry ⟨p, _, rfl, .inr hq, fl, flat_strs ws, q⟩
  · cases rx
    cases ry
    rw [inV_ref] at q
    obtain ⟨its, r, pl, hz⟩ := I.tuple hq
    have e0 : its.toArray.any (fun _ => false) = false := by simp
    refine SeqAt.in_tupleAt (fun _ => false) pl (fun w hw => ?_) ⟨.bl _, H, I, rfl, by rw [e0]; exact q⟩
    obtain ⟨z, t, rfl⟩ := strs_only r w (by simpa using hw)
    have hu1 : X.A.in1.units < cLine := hu
    rcases so with ⟨xs, h⟩ | ⟨xs, h⟩ | ⟨kvs, h⟩
    · obtain ⟨i2, r2, p2, _⟩ := I.tuple (SqT.of h)
      exact SeqAt.EqAt.str_tuple z t p2 hu1
    · obtain ⟨i2, r2, p2, _⟩ := I.list (SqL.of h)
      exact SeqAt.EqAt.str_list z t p2.isList hu1
    · obtain ⟨_, _, _, _, o, es, ep, h1, h2, h3, _⟩ := (show ObjOk X.prog X.w H s.heap a (.dK kvs) from I.hok a _ h)
      obtain ⟨oc, od, dt, sl⟩ := o
      have e1 : oc = .type "dict" := h2.1
      simp only at h3
      subst e1 h3
      exact eqStrDict z t h1 hu1
end Eh

set_option Elab.async false
set_option linter.all false
set_option maxRecDepth 100000
/-! promises of defs that are only asked where nothing is being shown (no list's repr runs around them) -/
namespace Eh
open PySem PySem.Spec PyProof.Rows L2
structure FnG (P : Program) (w : World) (K : PySem.W.Frag) (mg : Str → Option Value) (base : Heap) (k : Nat) (f : Addr) (fd : FuncData) (ps : List Str) (sp : Sp) : Prop where
  len : ∀ vs H Q E, sp vs H Q E → vs.length = ps.length
  run : ∀ (A : Around) (outer : List Env) (s : Shared) (H : Hp) (args : Args) (us : List Value) (vs : List V) (Q : VK) (E : XK), A.guards = some [] → Room k A → Env0 P w K mg base A outer s H →
    BindsTo s fd args (ps.zip us) → Vals vs us → sp vs H Q E → codeAny (model P w) A (.call (.ref f) args) (CR CX0 outer P w H s Q E) s
section
variable {P : Program} {w : World} {K : PySem.W.Frag} {mg : Str → Option Value} {base : Heap}
theorem funG {x qual : Str} {st : Stmt} {f : Addr} {fd : FuncData} {N ps : List Str} {k : Nat} {sp : Sp} (F : Fun K x qual st f fd) (S : FnScope N ps (defScope st)) (len : ∀ vs H Q E, sp vs H Q E → vs.length = ps.length)
    (body : ∀ (cdv : Value) (A : Around) (outer : List Env) (s : Shared) (H : Hp) (vs : List V) (Q : VK) (E : XK), (A.deeper (envOfC qual (defScope st) s.heap.objs.size f cdv)).guards = some [] →
      Room k (A.deeper (envOfC qual (defScope st) s.heap.objs.size f cdv)) → sp vs H Q E →
      ∃ t, PSs (cxOf CX0 P w K mg base N qual (defScope st) f cdv A outer s H E).nox (defBody st) t ∧ t { nx := fun _ H' => Q .non H', rt := Q } (start N vs) H) : FnG P w K mg base (k + 1) f fd ps sp where
  len := len
  run A outer s H args us vs Q E hg hr e0 hb r hsp := by
    obtain ⟨oc, od, kV, doc, pm, an, cdv, ct, osl, rfl, lk, hcd⟩ := F.ex
    have old := fun b o e => (e0.bs b o e).1
    have KX := e0.mod.kin.keeps old
    have ok := fun (y : Str × Value) (hy : y ∈ ps.zip us) => S.par y.1 (List.of_mem_zip (a := y.1) (b := y.2) hy).1
    refine codeAny_call_function hr.depth (KX _ _ lk) rfl S.co S.gen rfl (PySem.W.codeRec_of KX hcd) (hb _ _ _ _ ?_)
    refine wpAny_newFunctionEnv_cells S.kind (fun y hy => (ok y hy).imp id fun q => ⟨q, PySem.W.cellsFrom_some _ _ _ (.inl q)⟩) fun env he s1 x => ?_
    cases he
    obtain ⟨t, ht, hq⟩ := body cdv A outer s H vs Q E hg (hr.deeper _) hsp
    refine ⟨(e0.mod.nolimit.keeps old).keeps x.toInCall.keep, codeAny_func ?_⟩
    have I := inv_start (CX := CX0) (E := E) S hr.hd e0 (len _ _ _ _ hsp) r x
    refine wpAny_mono (ht.nox.run [] s1 (start N vs) H _ I hq) (fun fl s' hs => ?_) fun _ _ h => h
    have fin {σ' : L2.St} {H' : Hp} {v : V} {u : Value} (J : Inv (cxOf CX0 P w K mg base N qual (defScope st) f cdv A outer s H E) [] σ' H' s') (rv : RelV v u) (q : Q v H') : CE outer P w H s Q u s' := ⟨v, H', J.os, J.bare, J.base, J.hok, rv, q⟩
    match fl, hs with
    | .ret u, ⟨v, _, _, J, rv, q⟩ => exact fin J rv q
    | .next, ⟨_, _, J, q⟩ => exact fin (v := V.non) J rfl q
    | .brk, ⟨_, _, _, q⟩ => exact q.elim
    | .cont, ⟨_, _, _, q⟩ => exact q.elim
end
section
variable {X : Cx} {k : Nat} {f : Addr} {fd : FuncData} {ps : List Str} {sp : Sp} {x : Str} {p pos : Pos} {e : Expr} {es : List Expr} {t : TA}
theorem pe_callG (F : FnG X.prog X.w X.K X.mg X.base k f fd ps sp) (hgd : X.A.guards = some []) (hr : Room k X.A) (hg : Gl X x) (hm : X.mg x = some (.ref f)) (hk : PySem.W.keepIn X.K (.ref f) = true) (hb : Binds X.K fd ps []) (ha : PA X (e :: es) t)
    (hdb : (x == ("__debug__" : Str)) = false := by decide) (he : starEach (e :: es) X.env = (false, eval e X.env) :: starEach es X.env := by rfl)
    (hpl : (backTo pos (starEach es X.env)).any (·.1) = false := by rfl) : PE X (.Call (.Name x p) (e :: es) [] pos) (fun σ H Q => t σ H fun vs H1 => sp vs H1 Q E0) where
  run pins s σ H Q I h := by
    refine wpAny_Call_Name_kw (ld_glob I hg hm (PySem.W.callWith_K (h₀ := X.base) I.ok.mod.kin hk (thn (ha.run pos pins s σ H _ I h) fun us s1 hh => ?_) he hpl) hdb)
    obtain ⟨vs, H1, I1, r, q⟩ := hh
    refine ⟨I1.kIn, wpAny_call (codeAny_mono (F.run X.A X.stack s1 H1 ⟨us, []⟩ us vs Q E0 hgd hr I1.env0 ?_ r q) fun rr s' hq => ?_)⟩
    · have z := hb s1 us I1.kIn
      rw [List.append_nil] at z
      exact z (by rw [← r.length]; exact F.len _ _ _ _ q)
    · match rr, hq with
      | .ok (.ret u), hq => exact I1.after hq
      | .error _, hq => exact (show False from hq).elim
      | .ok .next, hq => exact (show False from hq).elim
      | .ok .brk, hq => exact (show False from hq).elim
      | .ok .cont, hq => exact (show False from hq).elim
end
/-! an own error is what its class names -/
theorem exmSelf {K : PySem.W.Frag} {C : Addr} (b : PySem.W.subIn K (.ref C) (.type "BaseException") = some true) (i : PySem.W.isClsIn K C = true)
    (t : PySem.W.typeIn K (.ref C) = some (.type "type")) (s : PySem.W.subIn K (.ref C) (.ref C) = some true) : PySem.W.exmOne K (.ref C) (.ref C) = some true := by
  unfold PySem.W.exmOne
  rw [b, if_pos (by decide)]
  have j : ((PySem.W.clsIn K C).isSome && PySem.W.typeIn K (.ref C) == some (.type "type")) = true := by
    rw [show (PySem.W.clsIn K C).isSome = true from i, t]
    decide
  exact (if_pos j).trans s
/-! repr of data -/
section
variable {X : Cx} {K : PySem.W.Frag}
def rRepr (K : PySem.W.Frag) : List V → Hp → VK → Prop := fun xs H Q => ∃ (x : V) (d : PyData), xs = [x] ∧ (∃ a, x = .ref a) ∧ Dp K H x d ∧ d.showable = true ∧ d.hasDict = false ∧ d.depth < 60 ∧ d.shown.length ≤ sizeLine ∧ Q (.str d.shown) H
theorem reprD (h : X.K = K) (hgd : X.A.guards = some []) (hu : X.A.units + 64 < cLine) : CallR X (.builtin "repr") (rRepr K) := by
  subst h
  intro pins s σ H xs us Q I r h
  obtain ⟨x, d, rfl, ⟨a, rfl⟩, hd, hs, hnd, hdp, hsz, q⟩ := h
  cases r with
  | cons r1 r2 =>
    cases r2
    cases r1
    obtain ⟨as, rd⟩ := Dp.reads I d (.ref a) (.ref a) hd rfl
    refine repr_of_reads' rd hs (fun z => by rw [hnd] at z; cases z) hgd (by omega) (fun _ _ e => e) (fun h' u tk kp => ?_) (hsz := hsz)
    exact ⟨.str d.shown, H, I.kept (t' := tk) kp, ⟨u, rfl⟩, q⟩
end
/-! the head: the script is known to its object, all else is below -/
/-- nothing stands in H but, perhaps, the script at a -/
structure Bare1 (K : PySem.W.Frag) (a : Addr) (ob : Obj) (xs : List V) (H : Hp) : Prop where
  none : ∀ b, b ≠ a → H b = Option.none
  at_ : H a = Option.none ∨ (H a = some (.frz ob (.lst xs)) ∧ K.lookup a = Option.none)
theorem Bare1.hid {K : PySem.W.Frag} {a b : Addr} {ob o : Obj} {xs : List V} {H : Hp} {h : Heap} (B : Bare1 K a ob xs H) (e : h.get? b = some o) (n : b ≠ a ∨ H a = Option.none) : (hidT h H).get? b = some o := by
  refine hidT_get e ?_
  by_cases z : b = a
  · rcases n with n | n
    · exact absurd z n
    · rw [z]; exact n
  · exact B.none b z
section
variable {P : Program} {w : World} {K : PySem.W.Frag} {mg mb : Str → Option Value} {k : Nat} {fa a : Addr} {fd : FuncData} {x : Str} {sp : Sp} {s₁ : Shared} {vs : List Value} {ns : List Int} {H : Hp}
theorem law_runG (B : Bare1 K a { cls := .type "list", data := .seq vs.toArray } (ns.map V.int) H) (ok : HOk P w H s₁.heap) (hS : SqL K H a (ns.map V.int))
    (KX : K.In s₁.heap) (hns : s₁.heap.Ns mainGlobals mg) (hb : s₁.heap.Ns builtinsNs mb) (hbb : ∀ x : Str, x ≠ "__name__" → mb x = bootBuiltins x) (hlim : s₁.heap.NoLimit) (hg : s₁.gens = #[])
    (ha : s₁.heap.get? a = some { cls := .type "list", data := .seq vs.toArray }) (hr : Room k callerA)
    (F : ∀ base : Heap, K.In base → base.Ns mainGlobals mg → FnG P w K mg base k fa fd [x] sp) (hbind : ∀ (s : Shared) (u : Value), BindsTo s fd ⟨[u], []⟩ [(x, u)])
    (hsp : sp [.ref a] H (fun v _ => v = .bl true) fun _ _ _ => False) :
    codeAny (model P w) callerA (.call (.ref fa) ⟨[.ref a], []⟩) (fun r s' => r = .ok (.ret (.bool true)) ∧ OldK s₁.heap s'.heap ∧ s'.os = s₁.os ∧ AllBare s'.gens) s₁ := by
  have names {b : Addr} {m : Str → Option Value} (hm : s₁.heap.Ns b m) : (hidT s₁.heap H).Ns b m := by
    obtain ⟨o, es, ep, e, d, r⟩ := hm
    refine ⟨o, es, ep, B.hid e (.inl fun z => ?_), d, r⟩
    rw [z, ha] at e
    cases e
    cases d
  have KB : K.In (hidT s₁.heap H) := fun b o e => B.hid (KX b o e) (by
    by_cases z : b = a
    · rcases B.at_ with q | ⟨_, q⟩
      · exact .inr q
      · rw [z, q] at e; cases e
    · exact .inl z)
  obtain ⟨mc, l1, l2⟩ := hlim
  have E : Env0 P w K mg (hidT s₁.heap H) callerA [] s₁ H := {
    frames := rfl
    mod := ⟨KB, names hns, ⟨mb, names hb, hbb⟩, ⟨mc, names l1, l2⟩⟩
    bs := fun b o e => of_hidT e
    bsz := Nat.le_of_eq (hidT_size _ _)
    funs := trivial
    frf := fun b hb => by cases hb
    hok := ok
    bare := .of_eq hg }
  refine codeAny_mono ((F _ KB (names hns)).run callerA [] s₁ H ⟨[.ref a], []⟩ [.ref a] [.ref a] _ _ rfl hr E (hbind s₁ (.ref a)) (.cons rfl .nil) hsp) fun r s' q => ?_
  match r, q with
  | .error _, q => exact (show False from q).elim
  | .ok .next, q => exact (show False from q).elim
  | .ok .brk, q => exact (show False from q).elim
  | .ok .cont, q => exact (show False from q).elim
  | .ok (.ret u), q =>
    obtain ⟨v, H', os, bare, un, ok', rv, ev⟩ := q
    cases (show v = .bl true from ev)
    cases (show u = Value.bool true from rv)
    refine ⟨rfl, OldK.of_keep fun b o e => ?_, os, bare⟩
    have free : H b = Option.none → s'.heap.get? b = some o := fun n => un.keep b o e n (fun z => by cases z) (fun z => by cases z)
    by_cases z : b = a
    · rcases B.at_ with q | ⟨q, _⟩
      · exact free (by rw [z]; exact q)
      · have e2 := (ok' _ _ (un.frzs _ _ _ q)).1
        rw [z, ha] at e
        cases e
        rw [z]
        exact e2
    · exact free (B.none b z)
theorem law_callG (KX : K.In s₁.heap) (hns : s₁.heap.Ns mainGlobals mg) (hb : s₁.heap.Ns builtinsNs mb) (hbb : ∀ x : Str, x ≠ "__name__" → mb x = bootBuiltins x) (hlim : s₁.heap.NoLimit) (hg : s₁.gens = #[])
    (ha : s₁.heap.get? a = some { cls := .type "list", data := .seq vs.toArray }) (hi : IntsAre vs ns) (hl : ns.length ≤ sizeLine) (hr : Room k callerA)
    (F : ∀ base : Heap, K.In base → base.Ns mainGlobals mg → FnG P w K mg base k fa fd [x] sp) (hbind : ∀ (s : Shared) (u : Value), BindsTo s fd ⟨[u], []⟩ [(x, u)])
    (hsp : ∀ H : Hp, SqL K H a (ns.map V.int) → sp [.ref a] H (fun v _ => v = .bl true) fun _ _ _ => False) :
    codeAny (model P w) callerA (.call (.ref fa) ⟨[.ref a], []⟩) (fun r s' => r = .ok (.ret (.bool true)) ∧ OldK s₁.heap s'.heap ∧ s'.os = s₁.os ∧ AllBare s'.gens) s₁ := by
  have rv := vals_ints hi
  have hlv := rv.length
  rw [List.length_map] at hlv
  rcases hk : K.lookup a with _ | o
  · -- the script is tracked, frozen
    have hS : SqL K (fun b => if b = a then some (.frz { cls := .type "list", data := .seq vs.toArray } (.lst (ns.map V.int))) else Option.none) a (ns.map V.int) := .inl (.inr ⟨_, if_pos rfl⟩)
    refine law_runG ⟨fun b z => if_neg z, .inr ⟨if_pos rfl, hk⟩⟩ (fun b u e => ?_) hS KX hns hb hbb hlim hg ha hr F hbind (hsp _ hS)
    by_cases z : b = a
    · subst z
      rw [if_pos rfl] at e
      cases e
      exact ⟨ha, by rw [List.length_map]; exact hl, vs, _, rv, ha⟩
    · rw [if_neg z] at e
      cases e
  · -- it is the module's own
    have e := KX a o hk
    rw [ha] at e
    cases e
    have hS : SqL K (fun _ => Option.none) a (ns.map V.int) := .inr ⟨_, vs.toArray, _, hk, rfl, rfl, rfl, by rw [List.size_toArray, ← hlv]; exact hl, by rw [List.toList_toArray]; exact rv⟩
    exact law_runG ⟨fun _ _ => rfl, .inl rfl⟩ (fun b u e => by cases e) hS KX hns hb hbb hlim hg ha hr F hbind (hsp _ hS)
end
theorem walk_ofG {l : PySem.W.OpenLaw} {n k : Nat} {q : Program} {loose : List Str} {XP : (Str → Option Value) → Heap → Prop} {YP : World → Heap → Prop} {d : DefRec} {K : Params → PySem.W.Frag} {sp : World → Sp} {x : Str}
    (hn : l.most = some n) (hn2 : n ≤ sizeLine) (hdf : d.params.defaults = []) (hr : Room k callerA) (hY : ∀ (w : World) (h : Heap), YP w h → (K w.params).In h)
    (F : ∀ (w : World) (mg : Str → Option Value) (fa : Addr) (h : Heap), (K w.params).In h → h.Ns mainGlobals mg → mg d.name = some (.ref fa) →
      ∃ fd : FuncData, (∀ (s : Shared) (u : Value), BindsTo s fd ⟨[u], []⟩ [(x, u)]) ∧ ∀ base : Heap, (K w.params).In base → base.Ns mainGlobals mg → FnG l.prog w (K w.params) mg base k fa fd [x] (sp w))
    (hsp : ∀ (w : World) (H : Hp) (a : Addr) (ns : List Int), ns.length ≤ n → SqL (K w.params) H a (ns.map V.int) → sp w [.ref a] H (fun v _ => v = .bl true) fun _ _ _ => False) :
    PySem.W.WalkO q loose XP YP l.row.toRowW d [] (fun f vs => PySem.call f vs) :=
  Att.attach_call hn hdf fun w s₀ s₁ mg mb fa o pm cd doc a vs ns G Y ho hd hcd hmg hobj hints hlen hg =>
    match F w mg fa _ (hY w _ Y) G.T.g hmg with
    | ⟨_, hb, hF⟩ => law_callG (hY w _ Y) G.T.g G.T.b G.T.builtins G.T.nolimit hg hobj hints (Nat.le_trans hlen hn2) hr hF hb fun H hS => hsp w H a ns hlen hS
end Eh

set_option Elab.async false
set_option linter.all false
set_option maxRecDepth 100000
namespace Eh
open PySem PySem.Spec PyProof.Rows L2
/-- what it takes to raise and to catch an own error without an __init__ -/
structure ErrC (K : PySem.W.Frag) (mg : Str → Option Value) (x : Str) (C : Addr) : Prop where
  g : mg x = some (.ref C)
  q : PySem.W.excIn K C [.type "ValueError", .type "Exception", .type "BaseException", .type "object"] "ValueError.__new__" = true
  k : PySem.W.keepIn K (.ref C) = true
  b : PySem.W.subIn K (.ref C) (.type "BaseException") = some true
  t : PySem.W.typeIn K (.ref C) = some (.type "type")
  e : PySem.W.exmOne K (.ref C) (.ref C) = some true
def intV : V → Bool
  | .int i => decide ((if i < 0 then -i else i) < 10 ^ (60 : Int).toNat)
  | _ => false
def hands : List Str := ["caller", "keeper"]
def handV (v : V) : Bool := inV v (hands.map V.str)
/-- the other hand -/
def otherV (v : V) : V := if v = .str "caller" then .str "keeper" else .str "caller"
def KindI (K : PySem.W.Frag) (H : Hp) (v : V) : Prop := (∃ i, v = .int i) ∨ (∃ b, v = .bl b) ∨ ((∀ i, v ≠ .int i) ∧ ∃ t, TyX K H v t ∧ PySem.W.kitOne K t (.type "int") = some false)
theorem iteT' {c : Bool} {A B : Prop} (e : c = true) (h : A) : if c = true then A else B := by
  rw [if_pos e]
  exact h
theorem iteF' {c : Bool} {A B : Prop} (e : c = false) (h : B) : if c = true then A else B := by
  rw [e]
  exact iteF h
theorem ite2' {c : Bool} {A B : Prop} (h1 : c = true → A) (h2 : c = false → B) : if c = true then A else B := by
  cases c with
  | true => exact iteT (h1 rfl)
  | false => exact iteF (h2 rfl)
section
variable {P : Program} {w : World} {K : PySem.W.Frag} {mg : Str → Option Value} {base : Heap}
def spInteger (K : PySem.W.Frag) : Sp := fun vs H Q _ => ∃ v, vs = [v] ∧ KindI K H v ∧ Q (.bl (intV v)) H
theorem kitII {K : PySem.W.Frag} : PySem.W.kitOne K (.type "int") (.type "int") = some true := kit_ty (by decide +kernel)
theorem kitIB {K : PySem.W.Frag} : PySem.W.kitOne K (.type "int") (.type "bool") = some false := kit_ty (by decide +kernel)
theorem kitBI {K : PySem.W.Frag} : PySem.W.kitOne K (.type "bool") (.type "int") = some true := kit_ty (by decide +kernel)
theorem kitBB {K : PySem.W.Frag} : PySem.W.kitOne K (.type "bool") (.type "bool") = some true := kit_ty (by decide +kernel)
theorem ok_is_integer {f : Addr} {fd : FuncData} (F : Fun K "is_integer" "is_integer" s_is_integer f fd) (T : Txt mg) : FnOk P w K mg base CX0 1 f fd ["value"] (spInteger K) := by
  refine F.ok sc_is_integer (fun vs H Q E h => ?_) (fun cdv A outer s H vs Q E hr h => ?_)
  · obtain ⟨v, rfl, _⟩ := h
    rfl
  · obtain ⟨v, rfl, hk, q⟩ := h
    refine ⟨_, (pss_cons (ps_if (PW.pt (pw_or (pt_not (pt_val (pe_callB (isiQ (K := K) rfl) (by rfl) T.isinstance_ (by decide +kernel) (pa_cons (pv 0) (pa_cons (pe_bltn (v := .ty "int") (by rfl) T.int_ (by decide +kernel) rfl) pa_nil))))) (pw_or1 (pt_val (pe_callB (isiQ (K := K) rfl) (by rfl) T.isinstance_ (by decide +kernel) (pa_cons (pv 0) (pa_cons (pe_bltn (v := .ty "bool") (by rfl) T.bool_ (by decide +kernel) rfl) pa_nil)))))))
  (pss_one (ps_ret pe_bl))
  pss_nil)
  (pss_one (ps_ret (pe_cmpR op_lt (pe_callB call_abs (by rfl) T.abs_ (by decide +kernel) (pa_cons (pv 0) pa_nil)) (pe_op op_pow pe_int pe_int) (nomark _))))), ?_⟩
    rcases hk with ⟨i, rfl⟩ | ⟨b, rfl⟩ | ⟨hn, t, ty, ek⟩
    · refine ⟨_, rfl, .int i, .ty "int", .type "int", .type "int", true, rfl, .ty _, .base (.int i), kitII, _, rfl, iteF ?_⟩
      refine ⟨_, rfl, .int i, .ty "bool", .type "int", .type "bool", false, rfl, .ty _, .base (.int i), kitIB, _, rfl, iteF ?_⟩
      exact ⟨_, rfl, i, rfl, _, _, rfl, rfl, p60, _, _, rfl, rfl, q⟩
    · refine ⟨_, rfl, .bl b, .ty "int", .type "bool", .type "int", true, rfl, .ty _, .base (.bl b), kitBI, _, rfl, iteF ?_⟩
      exact ⟨_, rfl, .bl b, .ty "bool", .type "bool", .type "bool", true, rfl, .ty _, .base (.bl b), kitBB, _, rfl, iteT q⟩
    · refine ⟨_, rfl, v, .ty "int", t, .type "int", false, rfl, .ty _, ty, ek, _, rfl, iteT ?_⟩
      have e : intV v = false := by
        cases v with
        | int i => exact absurd rfl (hn i)
        | _ => rfl
      rw [e] at q
      exact q
/-! hands -/
def HandsAt (K : PySem.W.Frag) (mg : Str → Option Value) (p : Addr) : Prop := mg "HANDS" = some (.ref p) ∧ ∀ H, SqT K H p (hands.map V.str)
def spHand : Sp := fun vs H Q _ => ∃ v, vs = [v] ∧ Sorted5 H v ∧ Q (.bl (handV v)) H
theorem ok_is_hand {f p : Addr} {fd : FuncData} (F : Fun K "is_hand" "is_hand" s_is_hand f fd) (T : Txt mg) (hh : HandsAt K mg p) : FnOk P w K mg base CX0 1 f fd ["value"] spHand := by
  obtain ⟨h1, h2⟩ := hh
  refine F.ok sc_is_hand (fun vs H Q E h => ?_) (fun cdv A outer s H vs Q E hr h => ?_)
  · obtain ⟨v, rfl, _⟩ := h
    rfl
  · obtain ⟨v, rfl, hk, q⟩ := h
    refine ⟨_, (pss_one (ps_ret (pe_cmpR (inS (K := K) rfl (hu_of hr)) (pv 0) (pe_glob (v := .ref p) rfl h1 rfl) (by rfl)))), ?_⟩
    exact ⟨_, rfl, p, hands, rfl, h2 H, hk, q⟩
def spOther (C : Addr) : Sp := fun vs H Q E => ∃ v, vs = [v] ∧ Sorted5 H v ∧ (handV v = true → Q (otherV v) H) ∧ (handV v = false → E (.ref C) none H)
theorem hand_is {v : V} (h : handV v = true) : v = .str "caller" ∨ v = .str "keeper" := by
  cases v with
  | str z =>
    have h : ((("caller" : Str) == z) || ((("keeper" : Str) == z) || false)) = true := h
    rw [Bool.or_false, Bool.or_eq_true] at h
    rcases h with h | h
    · exact .inl (by rw [← eq_of_beq h])
    · exact .inr (by rw [← eq_of_beq h])
  | _ => cases h
theorem ok_other_hand {f fH C : Addr} {fd fdH : FuncData} (F : Fun K "other_hand" "other_hand" s_other_hand f fd) (T : Txt mg) (R : ErrC K mg "InvalidOperation" C) (C_is_hand : Cal P w K mg base 1 "is_hand" fH fdH ["value"] spHand) :
    FnOk P w K mg base (L2.CX P w) 2 f fd ["hand"] (spOther C) := by
  refine F.okX sc_other_hand (fun vs H Q E h => ?_) (fun cdv A outer s H vs Q E hr h => ?_)
  · obtain ⟨v, rfl, _⟩ := h
    rfl
  · obtain ⟨v, rfl, hk, q1, q2⟩ := h
    refine ⟨_, (pss_cons (ps_if (pt_not (pt_val (pe_call C_is_hand.G hr (by rfl) C_is_hand.m C_is_hand.k C_is_hand.b .nil pass0 (pa_cons (pv 0) pa_nil))))
      (pss_one (ps_raise rfl (takes_of rfl rfl rfl rfl) (pmk_own PySem.F.excBase_ValueError R.q R.g R.k (raises_own R.b R.t) rfl))) pss_nil)
      (pss_one (ps_ret (pe_ifExp (pt_cmpR op_eq (pv 0) pe_str (nomark _)) pe_str pe_str)))), ?_⟩
    refine ⟨_, rfl, v, rfl, hk, _, rfl, ?_⟩
    cases e : handV v with
    | false => exact iteT (q2 e)
    | true =>
      refine iteF ?_
      have q := q1 e
      rcases hand_is e with rfl | rfl
      · exact ⟨_, rfl, rfl, _, rfl, iteT' (by decide +kernel) q⟩
      · exact ⟨_, rfl, rfl, _, rfl, iteF' (by decide +kernel) q⟩
def spLawOther : Sp := fun vs H Q _ => ∃ v, vs = [v] ∧ Sorted5 H v ∧ Q (if handV v = true then otherV v else .non) H
theorem ok_law_other {f fO C : Addr} {fd fdO : FuncData} (F : Fun K "_law_other" "_law_other" s__law_other f fd) (T : Txt mg) (R : ErrC K mg "InvalidOperation" C)
    (G : FnOk P w K mg base (L2.CX P w) 2 fO fdO ["hand"] (spOther C)) (m : mg "other_hand" = some (.ref fO)) (k : PySem.W.keepIn K (.ref fO) = true) (b : Binds K fdO ["hand"] []) : FnOk P w K mg base CX0 3 f fd ["value"] spLawOther := by
  refine F.ok sc__law_other (fun vs H Q E h => ?_) (fun cdv A outer s H vs Q E hr h => ?_)
  · obtain ⟨v, rfl, _⟩ := h
    rfl
  · obtain ⟨v, rfl, hk, q⟩ := h
    refine ⟨_, (pss_one (ps_try_only rfl rfl ⟨rfl, by decide, .inl R.g⟩ takes0 (fun W pn xe tk _ => pss_one (ps_ret (pe_callS G hr (by rfl) m k b (fun σ => passAt tk σ) (pa_cons (pv 0) pa_nil))))
      (fun a oe cls d pn _ _ => pss_one (ps_ret pe_non)))), ?_⟩
    refine ⟨_, rfl, v, rfl, hk, fun e => ?_, fun e => ?_⟩
    · rw [if_pos e] at q
      exact q
    · rw [if_neg (by rw [e]; exact Bool.false_ne_true)] at q
      exact ⟨true, R.e, fun _ a ha => q, fun z => nomatch z⟩
end
end Eh

set_option Elab.async false
set_option linter.all false
set_option maxRecDepth 100000
namespace Eh
open PySem PySem.Spec PyProof.Rows L2
theorem same_gr {d : Addr} {H H' : Hp} (D : D3 H d) (s : Same H H') : Gr d H H' := by
  obtain ⟨g, b, c, e⟩ := D
  exact ⟨⟨g, b, c, s _ _ e⟩, fun a o _ z => s a o z⟩
theorem off_gr {d : Addr} {H H' : Hp} (D : D3 H' d) (k : ∀ b, b ≠ d → H' b = H b) : Gr d H H' := ⟨D, fun a o n e => by rw [k a n]; exact e⟩
theorem p59 : (0 : Int) ≤ 59 ∧ (59 : Int) ≤ 1000000 ∧ (10 : Int).natAbs < 2 ^ 64 := by decide
def ValOk (d : Addr) (H : Hp) (v : V) : Prop := flatV v = true ∨ ∃ a, v = .ref a ∧ a ≠ d ∧ ((∃ xs, H a = some (.tup xs)) ∨ (∃ xs, H a = some (.lst xs)) ∨ ∃ kvs, H a = some (.dK kvs))
theorem ValOk.gr {d : Addr} {H H' : Hp} {v : V} (h : ValOk d H v) (g : Gr d H H') : ValOk d H' v := by
  rcases h with h | ⟨a, e, n, h⟩
  · exact .inl h
  · refine .inr ⟨a, e, n, ?_⟩
    rcases h with ⟨xs, h⟩ | ⟨xs, h⟩ | ⟨xs, h⟩
    · exact .inl ⟨xs, g.keep _ _ n h⟩
    · exact .inr (.inl ⟨xs, g.keep _ _ n h⟩)
    · exact .inr (.inr ⟨xs, g.keep _ _ n h⟩)
theorem ValOk.sorted {d : Addr} {H : Hp} {v : V} (h : ValOk d H v) : Sorted5 H v := by
  rcases h with h | ⟨a, e, _, h⟩
  · exact .inl h
  · exact .inr ⟨a, e, h⟩
theorem ValOk.kind {K : PySem.W.Frag} {d : Addr} {H : Hp} {v : V} (h : ValOk d H v) : KindI K H v := by
  rcases h with h | ⟨a, rfl, _, h⟩
  · cases v with
    | non => exact .inr (.inr ⟨fun i e => (nomatch e), _, .base .non, kit_ty (by decide +kernel)⟩)
    | bl b => exact .inr (.inl ⟨b, rfl⟩)
    | int i => exact .inl ⟨i, rfl⟩
    | str z => exact .inr (.inr ⟨fun i e => (nomatch e), _, .base (.str z), kit_ty (by decide +kernel)⟩)
    | _ => cases h
  · refine .inr (.inr ⟨fun i e => (nomatch e), ?_⟩)
    rcases h with ⟨xs, h⟩ | ⟨xs, h⟩ | ⟨xs, h⟩
    · exact ⟨_, .base (.tup h), kit_ty (by decide +kernel)⟩
    · exact ⟨_, .base (.lst h), kit_ty (by decide +kernel)⟩
    · exact ⟨_, .base (.dK h), kit_ty (by decide +kernel)⟩
def othV (v : V) : V := if handV v = true then otherV v else .non
/-- a row: a value, whether it is an integer, the other hand or None -/
def RowOk (d : Addr) (H : Hp) (x : V) : Prop := ∃ t v, x = .ref t ∧ t ≠ d ∧ H t = some (.tup [v, .bl (intV v), othV v]) ∧ ValOk d H v
theorem RowOk.gr {d : Addr} {H H' : Hp} {x : V} (h : RowOk d H x) (g : Gr d H H') : RowOk d H' x := by
  obtain ⟨t, v, e, n, h, k⟩ := h
  exact ⟨t, v, e, n, g.keep _ _ n h, k.gr g⟩
theorem row_new {d t : Addr} {H : Hp} {v o : V} {b : Bool} (D : D3 H d) (n : H t = none) (k : ValOk d H v) (eb : intV v = b) (eo : othV v = o) : Gr d H (upd H t (.tup [v, .bl b, o])) ∧ RowOk d (upd H t (.tup [v, .bl b, o])) (.ref t) := by
  subst eb eo
  exact ⟨.laid D n, t, v, rfl, D.ne n, upd_same, k.gr (.laid D n)⟩
def RowsOk (d : Addr) (H : Hp) (xs : List V) : Prop := ∀ x ∈ xs, RowOk d H x
theorem rows_nil {d : Addr} {H : Hp} : RowsOk d H [] := fun _ h => nomatch h
theorem RowsOk.gr {d : Addr} {H H' : Hp} {xs : List V} (h : RowsOk d H xs) (g : Gr d H H') : RowsOk d H' xs := fun x hx => (h x hx).gr g
theorem RowsOk.add {d : Addr} {H H' : Hp} {xs : List V} {x : V} (h : RowsOk d H xs) (g : Gr d H H') (r : RowOk d H' x) : RowsOk d H' (xs ++ [x]) := fun y hy => by
  rcases List.mem_append.mp hy with z | z
  · exact (h y z).gr g
  · rw [List.mem_singleton.mp z]
    exact r
theorem RowsOk.app {d : Addr} {H : Hp} {xs ys : List V} (h : RowsOk d H xs) (k : RowsOk d H ys) : RowsOk d H (xs ++ ys) := fun y hy => (List.mem_append.mp hy).elim (h y) (k y)
/-- a list of rows stands at l -/
structure LstOk (d l : Addr) (xs : List V) (H : Hp) : Prop where
  at_ : H l = some (.lst xs)
  ne : l ≠ d
  rows : RowsOk d H xs
theorem LstOk.gr {d l : Addr} {H H' : Hp} {xs : List V} (h : LstOk d l xs H) (g : Gr d H H') : LstOk d l xs H' := ⟨g.keep _ _ h.ne h.at_, h.ne, h.rows.gr g⟩
theorem lst_new {d l : Addr} {H : Hp} {xs : List V} (D : D3 H d) (n : H l = none) (r : RowsOk d H xs) : Gr d H (upd H l (.lst xs)) ∧ LstOk d l xs (upd H l (.lst xs)) :=
  ⟨.laid D n, upd_same, D.ne n, r.gr (.laid D n)⟩
theorem ValOk.put {d l : Addr} {H : Hp} {v : V} {xs ys : List V} (h : ValOk d H v) (e : H l = some (.lst xs)) : ValOk d (upd H l (.lst ys)) v := by
  rcases h with h | ⟨a, ea, n, h⟩
  · exact .inl h
  · refine .inr ⟨a, ea, n, ?_⟩
    by_cases z : a = l
    · rw [z]
      exact .inr (.inl ⟨_, upd_same⟩)
    · rw [upd_ne z]
      exact h
theorem RowOk.put {d l : Addr} {H : Hp} {x : V} {xs ys : List V} (h : RowOk d H x) (e : H l = some (.lst xs)) : RowOk d (upd H l (.lst ys)) x := by
  obtain ⟨t, v, ex, n, h, k⟩ := h
  exact ⟨t, v, ex, n, by rw [upd_ne (ne_of h e (by intro z; cases z))]; exact h, k.put e⟩
theorem rep_mem {xs : List V} {k : Nat} {x : V} (h : x ∈ (List.replicate k xs).flatten) : x ∈ xs := by
  obtain ⟨l, h1, h2⟩ := List.mem_flatten.mp h
  rw [List.eq_of_mem_replicate h1] at h2
  exact h2
theorem len5 {a b : V} : (List.replicate (5 : Int).toNat [a, b]).flatten.length = 10 := by
  show (List.replicate 5 [a, b]).flatten.length = 10
  rfl
theorem lenS (n : Nat) {m : Nat} (e : m = n := by rfl) (h : n < 1000000 := by decide) : m ≤ sizeLine := by
  rw [e]
  exact Nat.le_of_lt (small h)
theorem rest14 {v : V} {xs ys : List V} (h : xs.all (fun v => !intV v && decide (othV v = .non)) = true) (hv : v ∈ xs) : intV v = false ∧ othV v = .non := by
  obtain ⟨h1, h2⟩ := (Bool.and_eq_true _ _).mp (List.all_eq_true.mp h v hv)
  exact ⟨by simpa using h1, of_decide_eq_true h2⟩
def odds14 (t1 t2 t3 t4 t5 t6 : Addr) : List V := [.non, .str "1", .str "", .ref t1, .ref t2, .ref t3, .ref t4, .str "Keeper", .str "keeper ", .str "call", .str "callers", .ref t5, .ref t6, .str "mine"]
theorem odds_is {t1 t2 t3 t4 t5 t6 : Addr} : ∀ v ∈ odds14 t1 t2 t3 t4 t5 t6, intV v = false ∧ othV v = .non := by
  intro v hv
  have str {z : Str} (h : othV (.str z) = .non) : intV (.str z) = false ∧ othV (.str z) = .non := ⟨rfl, h⟩
  have ref {a : Addr} : intV (.ref a) = false ∧ othV (.ref a) = .non := ⟨rfl, by unfold othV handV; rw [inV_ref]; rfl⟩
  unfold odds14 at hv
  simp only [List.mem_cons, List.not_mem_nil, or_false] at hv
  rcases hv with rfl | rfl | rfl | rfl | rfl | rfl | rfl | rfl | rfl | rfl | rfl | rfl | rfl | rfl
  · exact ⟨rfl, by decide +kernel⟩
  · exact str (by decide +kernel)
  · exact str (by decide +kernel)
  · exact ref
  · exact ref
  · exact ref
  · exact ref
  · exact str (by decide +kernel)
  · exact str (by decide +kernel)
  · exact str (by decide +kernel)
  · exact str (by decide +kernel)
  · exact ref
  · exact ref
  · exact str (by decide +kernel)
theorem odds_ok {d t1 t2 t3 t4 t5 t6 : Addr} {H : Hp} (h1 : ValOk d H (.ref t1)) (h2 : ValOk d H (.ref t2)) (h3 : ValOk d H (.ref t3)) (h4 : ValOk d H (.ref t4)) (h5 : ValOk d H (.ref t5)) (h6 : ValOk d H (.ref t6)) : ∀ v ∈ odds14 t1 t2 t3 t4 t5 t6, ValOk d H v := by
  intro v hv
  unfold odds14 at hv
  simp only [List.mem_cons, List.not_mem_nil, or_false] at hv
  rcases hv with rfl | rfl | rfl | rfl | rfl | rfl | rfl | rfl | rfl | rfl | rfl | rfl | rfl | rfl
  all_goals first | assumption | exact .inl rfl
theorem int_yes {i : Int} (h : -(10 ^ 60) < i ∧ i < 10 ^ 60) : intV (.int i) = true := by
  show decide ((if i < 0 then -i else i) < 10 ^ (60 : Int).toNat) = true
  rw [decide_eq_true_iff, show (10 : Int) ^ (60 : Int).toNat = 10 ^ 60 from rfl]
  split <;> omega
theorem int_no {i : Int} (h : i ≤ -(10 ^ 60) ∨ 10 ^ 60 ≤ i) : intV (.int i) = false := by
  show decide ((if i < 0 then -i else i) < 10 ^ (60 : Int).toNat) = false
  rw [decide_eq_false_iff_not, show (10 : Int) ^ (60 : Int).toNat = 10 ^ 60 from rfl]
  split <;> omega
section
variable {P : Program} {w : World} {K : PySem.W.Frag} {mg : Str → Option Value} {base : Heap}
def spRow : Sp := fun vs H Q _ => ∃ d, vs = [.ref d] ∧ D3 H d ∧ ∀ x H', Gr d H H' → RowOk d H' x → Q x H'
theorem ok_row {f fR fP : Addr} {fd fdR fdP : FuncData} (F : Fun K "_law_row" "_law_row" s__law_row f fd) (T : Txt mg)
    (C__law_roll : Cal P w K mg base 1 "_law_roll" fR fdR ["dice", "many"] spRoll) (C__law_pick : Cal P w K mg base 2 "_law_pick" fP fdP ["dice", "items"] (spPick K)) :
    FnOk P w K mg base CX0 3 f fd ["dice"] spRow := by
  refine F.ok sc__law_row (fun vs H Q E h => ?_) (fun cdv A outer s H vs Q E hr h => ?_)
  · obtain ⟨d, rfl, _⟩ := h
    rfl
  · obtain ⟨d, rfl, D, q⟩ := h
    have hr1 : Room 1 (A.deeper (envOfC "_law_row" (defScope s__law_row) s.heap.objs.size f cdv)) := hr.mono (by decide)
    refine ⟨_, (pss_cons (ps_par (by rfl) sc__law_row.nd (i := 1) (j := 2) rfl rfl (by decide) rfl rfl (pa_cons (pe_call C__law_pick.G hr (by rfl) C__law_pick.m C__law_pick.k C__law_pick.b .nil pass0 (pa_cons (pv 0) (pa_cons (pe_lst (pa_cons (pe_op op_pow pe_int pe_int) (pa_cons (pe_op op_sub (pe_op op_pow pe_int pe_int) pe_int) (pa_cons pe_int (pa_cons (pe_op op_pow pe_int pe_int) pa_nil))))) pa_nil))) (pa_cons (pe_call C__law_roll.G hr1 (by rfl) C__law_roll.m C__law_roll.k C__law_roll.b .nil pass0 (pa_cons (pv 0) (pa_cons pe_int pa_nil))) pa_nil)) (by rfl))
  (pss_cons (ps_set (i := 3) sc__law_row.nd rfl (.inl rfl) (pe_lst (pa_cons (pe_tup (pa_cons (pv 1) (pa_cons pe_bl (pa_cons pe_non pa_nil)))) (pa_cons (pe_tup (pa_cons (pe_op op_sub pe_int (pv 1)) (pa_cons pe_bl (pa_cons pe_non pa_nil)))) (pa_cons (pe_tup (pa_cons (pe_op op_add (pe_op op_pow pe_int pe_int) (pv 2)) (pa_cons pe_bl (pa_cons pe_non pa_nil)))) (pa_cons (pe_tup (pa_cons (pv 2) (pa_cons pe_bl (pa_cons pe_non pa_nil)))) pa_nil))))))
  (pss_cons (ps_set (i := 3) sc__law_row.nd rfl (.inl rfl) (pe_op op_cat (pv 3) (pe_lst (pa_cons (pe_tup (pa_cons (pe_op op_sub (pe_op op_sub pe_int (pe_op op_pow pe_int pe_int)) (pv 2)) (pa_cons pe_bl (pa_cons pe_non pa_nil)))) (pa_cons (pe_tup (pa_cons (pe_cmpR op_eq (pe_op op_modN (pv 2) pe_int) pe_int (nomark _)) (pa_cons pe_bl (pa_cons pe_non pa_nil)))) pa_nil)))))
  (pss_cons (ps_set (i := 3) sc__law_row.nd rfl (.inl rfl) (pe_op op_cat (pv 3) (pe_op op_rep (pe_lst (pa_cons (pe_tup (pa_cons pe_str (pa_cons pe_bl (pa_cons pe_str pa_nil)))) (pa_cons (pe_tup (pa_cons pe_str (pa_cons pe_bl (pa_cons pe_str pa_nil)))) pa_nil))) pe_int)))
  (pss_cons (ps_for PassesOwn.never (by rfl) (piL (K := K) rfl (pe_lst (pa_cons pe_non (pa_cons pe_str (pa_cons pe_str (pa_cons (pe_tup (pa_cons pe_int pa_nil)) (pa_cons (pe_lst pa_nil) (pa_cons pe_dnewK (pa_cons (pe_tup pa_nil) (pa_cons pe_str (pa_cons pe_str (pa_cons pe_str (pa_cons pe_str (pa_cons (pe_tup (pa_cons pe_str pa_nil)) (pa_cons (pe_lst (pa_cons pe_str pa_nil)) (pa_cons pe_str pa_nil)))))))))))))))) (pg_name (i := 4) sc__law_row.nd rfl (.inl rfl))
  (pss_one (ps_expr (bmK (K := K) rfl (pe_bm PySem.F.plainAttrs_list PySem.F.slot_list_append PySem.F.type_list_append mt_append (pv 3) (pa_cons (pe_tup (pa_cons (pv 4) (pa_cons pe_bl (pa_cons pe_non pa_nil)))) pa_nil))))))
  (pss_one (ps_ret (pe_call C__law_pick.G hr (by rfl) C__law_pick.m C__law_pick.k C__law_pick.b .nil pass0 (pa_cons (pv 0) (pa_cons (pv 3) pa_nil)))))))))), ?_⟩
    -- size, small
    refine ⟨_, rfl, _, _, rfl, rfl, p59, _, _, rfl, rfl, p60, _, _, rfl, rfl, _, _, rfl, rfl, p18, lenOk 4, fun l nl => ?_⟩
    refine ⟨d, l, _, rfl, (Gr.laid D nl).dice, SqL.of upd_same, D.ne nl, by (show 0 < 4; decide), by (show 4 < 1000000; decide), fun size H1 hsz D1 k1 => ?_⟩
    have g1 : Gr d H H1 := (Gr.laid D nl).trans (off_gr D1 k1)
    obtain ⟨sz, rfl, hsz2⟩ : ∃ sz : Int, size = .int sz ∧ 0 ≤ sz ∧ sz < 10 ^ 60 := by
      rcases List.mem_cons.mp hsz with rfl | h
      · exact ⟨_, rfl, by decide +kernel⟩
      rcases List.mem_cons.mp h with rfl | h
      · exact ⟨_, rfl, by decide +kernel⟩
      rcases List.mem_cons.mp h with rfl | h
      · exact ⟨_, rfl, by decide +kernel⟩
      rw [List.mem_singleton.mp h]
      exact ⟨_, rfl, by decide +kernel⟩
    refine ⟨_, rfl, d, 100, rfl, D1, by decide, by decide, fun small H2 s0 s1 D2 k2 => ⟨_, _, rfl, ?_⟩⟩
    have g2 : Gr d H H2 := g1.trans (off_gr D2 k2)
    -- some = [..]
    refine ⟨_, rfl, lenOk 3, fun t1 n1 => ?_⟩
    obtain ⟨a1, r1⟩ := row_new (b := true) (o := .non) D2 n1 (v := .int sz) (.inl rfl) (int_yes (by omega)) rfl
    refine ⟨_, rfl, _, _, rfl, rfl, lenOk 3, fun t2 n2 => ?_⟩
    obtain ⟨a2, r2⟩ := row_new (b := true) (o := .non) a1.dice n2 (v := .int (0 - sz)) (.inl rfl) (int_yes (by omega)) rfl
    refine ⟨_, _, rfl, rfl, p60, _, rfl, _, _, rfl, rfl, lenOk 3, fun t3 n3 => ?_⟩
    obtain ⟨a3, r3⟩ := row_new (b := false) (o := .non) a2.dice n3 (v := .int (10 ^ (60 : Int).toNat + small)) (.inl rfl) (int_no (.inr (by rw [show (10 : Int) ^ (60 : Int).toNat = 10 ^ 60 from rfl]; omega))) rfl
    refine ⟨_, rfl, lenOk 3, fun t4 n4 => ?_⟩
    obtain ⟨a4, r4⟩ := row_new (b := true) (o := .non) a3.dice n4 (v := .int small) (.inl rfl) (int_yes (by omega)) rfl
    refine ⟨lenOk 4, fun l1 n5 => ?_⟩
    have b4 := ((((rows_nil (H := H2)).add a1 r1).add a2 r2).add a3 r3).add a4 r4
    obtain ⟨a5, c5⟩ := lst_new a4.dice n5 b4
    show gName 3 (.ref l1) ?s3 ?h3 ?k3
    have g3 : Gr d H ?h3 := g2.trans (a1.trans (a2.trans (a3.trans (a4.trans a5))))
    have c3 : LstOk d l1 _ ?h3 := c5
    have f3 : H l1 = none := (g2.trans (a1.trans (a2.trans (a3.trans a4)))).free D n5
    generalize ?h3 = H3 at g3 c3 ⊢
    clear a1 a2 a3 a4 a5 b4 c5 r1 r2 r3 r4 n1 n2 n3 n4 n5
    -- some = some + [..]
    refine ⟨_, rfl, _, _, rfl, rfl, p60, _, _, rfl, rfl, _, rfl, _, _, rfl, rfl, lenOk 3, fun t1 n1 => ?_⟩
    obtain ⟨a1, r1⟩ := row_new (b := false) (o := .non) g3.dice n1 (v := .int (0 - 10 ^ (60 : Int).toNat - small)) (.inl rfl) (int_no (.inl (by rw [show (10 : Int) ^ (60 : Int).toNat = 10 ^ 60 from rfl]; omega))) rfl
    refine ⟨_, rfl, _, _, rfl, rfl, (show (2 : Int) ≠ 0 by decide), rfl, lenOk 3, fun t2 n2 => ?_⟩
    obtain ⟨a2, r2⟩ := row_new (b := false) (o := .non) a1.dice n2 (v := .bl (decide (V.int (small.fmod 2) = .int 1))) (.inl rfl) rfl rfl
    refine ⟨lenOk 2, fun l2 n3 => ?_⟩
    obtain ⟨a3, c5⟩ := lst_new a2.dice n3 (((rows_nil (H := H3)).add a1 r1).add a2 r2)
    have c4 := c3.gr (a1.trans (a2.trans a3))
    refine ⟨l1, l2, _, _, rfl, rfl, c4.at_, c5.at_, lenS 6, fun l3 n4 => ?_⟩
    obtain ⟨a4, c6⟩ := lst_new (((a1.trans (a2.trans a3)).dice)) n4 (c4.rows.app c5.rows)
    show gName 3 (.ref l3) ?s4 ?h4 ?k4
    have g4 : Gr d H ?h4 := g3.trans (a1.trans (a2.trans (a3.trans a4)))
    have d4 : LstOk d l3 _ ?h4 := c6
    generalize ?h4 = H4 at g4 d4 ⊢
    clear a1 a2 a3 a4 c3 c4 c5 c6 r1 r2 n1 n2 n3 n4
    -- some = some + [..] * 5
    refine ⟨_, rfl, lenOk 3, fun t1 n1 => ?_⟩
    obtain ⟨a1, r1⟩ := row_new (b := false) (o := .str "caller") g4.dice n1 (v := .str "keeper") (.inl rfl) rfl (by decide +kernel)
    refine ⟨lenOk 3, fun t2 n2 => ?_⟩
    obtain ⟨a2, r2⟩ := row_new (b := false) (o := .str "keeper") a1.dice n2 (v := .str "caller") (.inl rfl) rfl (by decide +kernel)
    refine ⟨lenOk 2, fun l5 n3 => ?_⟩
    obtain ⟨a3, c5⟩ := lst_new a2.dice n3 (((rows_nil (H := H4)).add a1 r1).add a2 r2)
    refine ⟨l5, 5, _, rfl, rfl, c5.at_, by decide, by decide, by rw [sizeLine_eq]; show 2 * 5 ≤ _; omega, fun l6 n4 => ?_⟩
    obtain ⟨a4, c6⟩ := lst_new (xs := (List.replicate (5 : Int).toNat [V.ref t1, .ref t2]).flatten) a3.dice n4 (fun x hx => c5.rows x (rep_mem hx))
    have c4 := d4.gr (a1.trans (a2.trans (a3.trans a4)))
    refine ⟨l3, l6, _, _, rfl, rfl, c4.at_, c6.at_, lenS 16, fun l7 n5 => ?_⟩
    obtain ⟨a5, c7⟩ := lst_new a4.dice n5 (c4.rows.app c6.rows)
    show gName 3 (.ref l7) ?s5 ?h5 ?k5
    have g5 : Gr d H ?h5 := g4.trans (a1.trans (a2.trans (a3.trans (a4.trans a5))))
    have d5 : ∃ xs, xs.length = 16 ∧ LstOk d l7 xs ?h5 := ⟨_, rfl, c7⟩
    have f7 : H l7 = none := (g4.trans (a1.trans (a2.trans (a3.trans a4)))).free D n5
    generalize ?h5 = H5 at g5 d5 ⊢
    clear a1 a2 a3 a4 a5 d4 c4 c5 c6 c7 r1 r2 n1 n2 n3 n4 n5
    obtain ⟨xs, hxs, d5⟩ := d5
    -- the odd ones
    refine ⟨lenOk 1, fun t1 n1 => ?_⟩
    have a1 := Gr.laid (o := .tup [.int 1]) g5.dice n1
    refine ⟨Nat.zero_le _, fun t2 n2 => ?_⟩
    have a2 := Gr.laid (o := .lst []) a1.dice n2
    intro t3 n3
    have a3 := Gr.laid (o := .dK []) a2.dice n3
    refine ⟨Nat.zero_le _, fun t4 n4 => ?_⟩
    have a4 := Gr.laid (o := .tup []) a3.dice n4
    refine ⟨lenOk 1, fun t5 n5 => ?_⟩
    have a5 := Gr.laid (o := .tup [.str "keeper"]) a4.dice n5
    refine ⟨lenOk 1, fun t6 n6 => ?_⟩
    have a6 := Gr.laid (o := .lst [.str "caller"]) a5.dice n6
    refine ⟨lenOk 14, fun lp n7 => ?_⟩
    have a7 := Gr.laid (o := .lst (odds14 t1 t2 t3 t4 t5 t6)) a6.dice n7
    have v1 : ValOk d _ (.ref t1) := ValOk.gr (.inr ⟨t1, rfl, g5.dice.ne n1, .inl ⟨_, upd_same⟩⟩) (a2.trans (a3.trans (a4.trans (a5.trans (a6.trans a7)))))
    have v2 : ValOk d _ (.ref t2) := ValOk.gr (.inr ⟨t2, rfl, a1.dice.ne n2, .inr (.inl ⟨_, upd_same⟩)⟩) (a3.trans (a4.trans (a5.trans (a6.trans a7))))
    have v3 : ValOk d _ (.ref t3) := ValOk.gr (.inr ⟨t3, rfl, a2.dice.ne n3, .inr (.inr ⟨_, upd_same⟩)⟩) (a4.trans (a5.trans (a6.trans a7)))
    have v4 : ValOk d _ (.ref t4) := ValOk.gr (.inr ⟨t4, rfl, a3.dice.ne n4, .inl ⟨_, upd_same⟩⟩) (a5.trans (a6.trans a7))
    have v5 : ValOk d _ (.ref t5) := ValOk.gr (.inr ⟨t5, rfl, a4.dice.ne n5, .inl ⟨_, upd_same⟩⟩) (a6.trans a7)
    have v6 : ValOk d _ (.ref t6) := ValOk.gr (.inr ⟨t6, rfl, a5.dice.ne n6, .inr (.inl ⟨_, upd_same⟩)⟩) a7
    have g6 := a1.trans (a2.trans (a3.trans (a4.trans (a5.trans a6))))
    have nlp5 : H5 lp = none := g6.free g5.dice n7
    have l7p : l7 ≠ lp := ne_of_none d5.at_ nlp5
    refine ⟨lp, rfl, ⟨_, SqL.of upd_same⟩, for_list (K := K) (a := lp) (xs := odds14 t1 t2 t3 t4 t5 t6) (fun i σ H8 => (∃ o, σ = [some (.ref d), some (.int sz), some (.int small), some (.ref l7), o]) ∧ Gr d H H8 ∧ H8 lp = some (.lst (odds14 t1 t2 t3 t4 t5 t6)) ∧
      (∀ v ∈ odds14 t1 t2 t3 t4 t5 t6, ValOk d H8 v) ∧ ∃ ys, ys.length = 16 + i ∧ LstOk d l7 ys H8) ?_ (fun i σ H8 _ h => SqL.of h.2.2.1) ?_ ?_⟩
    · exact ⟨⟨none, rfl⟩, g5.trans (g6.trans a7), upd_same, odds_ok v1 v2 v3 v4 v5 v6, xs, hxs, d5.gr (g6.trans a7)⟩
    · rintro i v σ H8 hi ⟨⟨o, rfl⟩, g8, ep, hv, ys, hy, c8⟩
      have hi14 : i < 14 := (List.getElem?_eq_some_iff.mp hi).1
      have hm : v ∈ odds14 t1 t2 t3 t4 t5 t6 := List.mem_of_getElem? hi
      obtain ⟨e1, e2⟩ := odds_is v hm
      refine ⟨_, rfl, .inl ⟨rfl, _, SqL.of c8.at_⟩, _, rfl, lenOk 3, fun t nt => ?_⟩
      obtain ⟨b1, r1⟩ := row_new (b := false) (o := .non) g8.dice nt (hv v hm) e1 e2
      have c9 := c8.gr b1
      refine ⟨l7, ys, .ref t, rfl, rfl, c9.at_, Eh.small (by omega), ⟨_, rfl⟩, ?_, ?_, fun u hu => ((hv u hu).gr b1).put c9.at_, ys ++ [.ref t], by rw [List.length_append, hy]; rfl, upd_same, c9.ne, ?_⟩
      · exact (g8.trans b1).put f7 c9.ne
      · rw [upd_ne l7p.symm]
        exact b1.keep _ _ (fun z => by rw [z] at ep; obtain ⟨_, _, _, e⟩ := g8.dice; rw [e] at ep; exact absurd (congrArg (fun o => match o with | some (HO.lst xs) => xs.length | _ => 0) ep) (by show ¬ (3 = 14); decide)) ep
      · intro x hx
        rcases List.mem_append.mp hx with z | z
        · exact (c9.rows x z).put c9.at_
        · rw [List.mem_singleton.mp z]
          exact r1.put c9.at_
    · rintro σ H8 ⟨⟨o, rfl⟩, g8, ep, hv, ys, hy, c8⟩
      have hy' : ys.length = 30 := hy
      refine ⟨_, rfl, _, rfl, d, l7, ys, rfl, g8.dice, SqL.of c8.at_, c8.ne, by omega, by omega, fun x H9 hx D9 k9 => ?_⟩
      have b9 := off_gr (H := H8) D9 k9
      exact q x H9 (g8.trans b9) ((c8.rows x hx).gr b9)
end
end Eh

set_option Elab.async false
set_option linter.all false
set_option maxRecDepth 100000
namespace Eh
open PySem PySem.Spec PyProof.Rows L2
theorem gr_same {d : Addr} {H0 H H' : Hp} (n : H0 d = none) (s : Same H0 H) (g : Gr d H H') : Same H0 H' := fun b o e => g.keep b o (ne_of_none e n) (s b o e)
theorem hu64 {A : Around} {k : Nat} (hr : Room k A) : A.units + 64 < cLine := by
  have := hr.un
  omega
theorem dp_bls {K : PySem.W.Frag} {H : Hp} : ∀ zs : List Bool, DpAll K H (zs.map V.bl) (zs.map PyData.bool)
  | [] => .nil
  | z :: zs => .cons (.bl z) (dp_bls zs)
theorem dp_strs {K : PySem.W.Frag} {H : Hp} : ∀ zs : List Str, DpAll K H (zs.map V.str) (zs.map PyData.str)
  | [] => .nil
  | z :: zs => .cons (.str z) (dp_strs zs)
theorem neSelf {A B : Prop} {v : V} (h : B) : if (!decide (v = v)) = true then A else B := by
  rw [decide_eq_true rfl]
  exact iteF h
theorem oth_none (v : V) : (!decide (othV v = .non)) = handV v := by
  unfold othV otherV
  cases handV v with
  | false => rfl
  | true =>
    rw [if_pos rfl]
    split <;> rfl
theorem oth_scal (v : V) : scal (othV v) (othV v) = true := by
  unfold othV otherV
  cases handV v with
  | false => rfl
  | true =>
    rw [if_pos rfl]
    split <;> rfl
def two (a b : Bool) : PyData := .list [.bool a, .bool b]
theorem two_fact (a b : Bool) : (two a b).showable = true ∧ (two a b).hasDict = false ∧ (two a b).depth < 60 ∧ (two a b).shown.length ≤ sizeLine := by
  cases a <;> cases b <;> decide +kernel
section
variable {P : Program} {w : World} {K : PySem.W.Frag} {mg : Str → Option Value} {base : Heap}
def spLaw (K : PySem.W.Frag) : Sp := fun vs H Q _ => ∃ (a : Addr) (ns : List Int), vs = [.ref a] ∧ SqL K H a (ns.map V.int) ∧ ns.length ≤ 63 ∧ ∀ H', Q (.bl true) H'
theorem ok_law {f fD fV fI fL fO fH C p : Addr} {fd fdD fdV fdI fdL fdO fdH : FuncData} (F : Fun K "law" "law" s_law f fd) (T : Txt mg) (hh : HandsAt K mg p)
    (C__law_dice : Cal P w K mg base 1 "_law_dice" fD fdD ["script", "spot"] (spDice K)) (C__law_row : Cal P w K mg base 3 "_law_row" fV fdV ["dice"] spRow)
    (C_is_integer : Cal P w K mg base 1 "is_integer" fI fdI ["value"] (spInteger K)) (C_is_hand : Cal P w K mg base 1 "is_hand" fH fdH ["value"] spHand) (C__law_other : Cal P w K mg base 3 "_law_other" fL fdL ["value"] spLawOther)
    (G : FnOk P w K mg base (L2.CX P w) 2 fO fdO ["hand"] (spOther C)) (m : mg "other_hand" = some (.ref fO)) (k : PySem.W.keepIn K (.ref fO) = true) (b : Binds K fdO ["hand"] []) :
    FnG P w K mg base 4 f fd ["script"] (spLaw K) := by
  obtain ⟨hp1, hp2⟩ := hh
  refine funG F sc_law (fun vs H Q E h => ?_) (fun cdv A outer s H vs Q E hgd hr h => ?_)
  · obtain ⟨a, ns, rfl, _⟩ := h
    rfl
  · obtain ⟨a, ns, rfl, hS, hl, q⟩ := h
    have hr1 : Room 1 (A.deeper (envOfC "law" (defScope s_law) s.heap.objs.size f cdv)) := hr.mono (by decide)
    have hr2 : Room 2 (A.deeper (envOfC "law" (defScope s_law) s.heap.objs.size f cdv)) := hr.mono (by decide)
    refine ⟨_, (pss_cons (ps_for PassesOwn.never (by rfl) (pi_range1 (by rfl) T.range_ (pa_cons (pe_callB (call_max2 (by rfl)) (by rfl) T.max_ (by decide +kernel) (pa_cons pe_int (pa_cons (pe_callB (call_min2 (by rfl)) (by rfl) T.min_ (by decide +kernel) (pa_cons pe_int (pa_cons (pe_callB (lenQ (K := K) rfl) (by rfl) T.len_ (by decide +kernel) (pa_cons (pv 0) pa_nil)) pa_nil))) pa_nil))) pa_nil)) (pg_name (i := 1) sc_law.nd rfl (.inl rfl))
  (pss_cons (ps_set (i := 2) sc_law.nd rfl (.inl rfl) (pe_call C__law_dice.G hr1 (by rfl) C__law_dice.m C__law_dice.k C__law_dice.b .nil pass0 (pa_cons (pv 0) (pa_cons (pv 1) pa_nil))))
  (pss_one (ps_for PassesOwn.never (by rfl) (pi_range1 (by rfl) T.range_ (pa_cons pe_int pa_nil)) (pg_name (i := 3) sc_law.nd rfl (.inl rfl))
  (pss_cons (ps_asg (pe_call C__law_row.G hr (by rfl) C__law_row.m C__law_row.k C__law_row.b .nil pass0 (pa_cons (pv 2) pa_nil)) (pg_tup (by rfl) (pgs_cons (pg_name (i := 4) sc_law.nd rfl (.inl rfl)) (pgs_cons (pg_name (i := 5) sc_law.nd rfl (.inl rfl)) (pgs_cons (pg_name (i := 6) sc_law.nd rfl (.inl rfl)) pgs_nil)))))
  (pss_cons (ps_if (pt_cmpR op_ne (pe_callB (reprD (K := K) rfl hgd (hu64 hr)) (by rfl) T.repr_ (by decide +kernel) (pa_cons (pe_lst (pa_cons (pe_call C_is_integer.G hr1 (by rfl) C_is_integer.m C_is_integer.k C_is_integer.b .nil pass0 (pa_cons (pv 4) pa_nil)) (pa_cons (pe_call C_is_hand.G hr1 (by rfl) C_is_hand.m C_is_hand.k C_is_hand.b .nil pass0 (pa_cons (pv 4) pa_nil)) pa_nil))) pa_nil)) (pe_callB (reprD (K := K) rfl hgd (hu64 hr)) (by rfl) T.repr_ (by decide +kernel) (pa_cons (pe_lst (pa_cons (pv 5) (pa_cons (pe_cmpR op_notN (pv 6) pe_non (nomark _)) pa_nil))) pa_nil)) (nomark _))
  (pss_one (ps_ret pe_bl))
  pss_nil)
  (pss_one (ps_if (pt_cmpR op_ne (pe_call C__law_other.G hr (by rfl) C__law_other.m C__law_other.k C__law_other.b .nil pass0 (pa_cons (pv 4) pa_nil)) (pv 6) (nomark _))
  (pss_one (ps_ret pe_bl))
  pss_nil))))))))
  (pss_cons (ps_if (pt_cmpR (neD (K := K) rfl (hu64 hr)) (pe_lst (pa_cons (pe_call C_is_integer.G hr1 (by rfl) C_is_integer.m C_is_integer.k C_is_integer.b .nil pass0 (pa_cons (pe_op op_sub (pe_op op_pow pe_int pe_int) pe_int) pa_nil)) (pa_cons (pe_call C_is_integer.G hr1 (by rfl) C_is_integer.m C_is_integer.k C_is_integer.b .nil pass0 (pa_cons (pe_op op_pow pe_int pe_int) pa_nil)) (pa_cons (pe_call C_is_integer.G hr1 (by rfl) C_is_integer.m C_is_integer.k C_is_integer.b .nil pass0 (pa_cons (pe_op op_sub pe_int (pe_op op_pow pe_int pe_int)) pa_nil)) (pa_cons (pe_call C_is_integer.G hr1 (by rfl) C_is_integer.m C_is_integer.k C_is_integer.b .nil pass0 (pa_cons pe_bl pa_nil)) pa_nil))))) (pe_op op_cat (pe_lst (pa_cons pe_bl pa_nil)) (pe_op op_rep (pe_lst (pa_cons pe_bl pa_nil)) pe_int)) (nomark _))
  (pss_one (ps_ret pe_bl))
  pss_nil)
  (pss_one (ps_ret (pe_and (pe_cmpR (eqD (K := K) rfl (hu64 hr)) (pe_glob (v := .ref p) rfl hp1 rfl) (pe_tup (pa_cons pe_str (pa_cons pe_str pa_nil))) (nomark _)) (pe_one (pe_cmpR op_eq (pe_call G hr2 (by rfl) m k b .nil passL (pa_cons (pe_call G hr2 (by rfl) m k b .nil passL (pa_cons pe_str pa_nil)) pa_nil)) pe_str (nomark _)))))))), ?_⟩
    -- the spots
    refine ⟨_, rfl, .inl ⟨a, _, rfl, .inl hS, _, _, rfl, _, _, rfl, ?_⟩⟩
    obtain ⟨mm, em, hm⟩ : ∃ m : Int, (if (if ((ns.map V.int).length : Int) < 8 then ((ns.map V.int).length : Int) else 8) > 1 then (if ((ns.map V.int).length : Int) < 8 then ((ns.map V.int).length : Int) else 8) else 1) = m ∧ 0 ≤ m ∧ m ≤ 8 := by
      refine ⟨_, rfl, ?_⟩
      split <;> (try split) <;> omega
    rw [em]
    refine ⟨mm, rfl, by omega, by omega, ?_⟩
    refine for_range (lo := 0) (n := mm.toNat) (fun i σ H2 => (∃ x1 x2 x3 x4 x5 x6, σ = [some (.ref a), x1, x2, x3, x4, x5, x6]) ∧ Same H H2) ⟨⟨none, none, none, none, none, none, rfl⟩, Same.refl H⟩ ?_ ?_
    · rintro i σ H2 hi ⟨⟨x1, x2, x3, x4, x5, x6, rfl⟩, s2⟩
      refine ⟨_, rfl, _, rfl, a, ns, i, by rw [Int.zero_add]; rfl, s2.seq hS, fun d H3 s3 n3 D3' => ?_⟩
      have nd : H d = none := s2.free n3
      refine ⟨30, rfl, by decide, by decide, ?_⟩
      refine for_range (lo := 0) (n := 30) (fun j σ H4 => (∃ x1 x3 x4 x5 x6, σ = [some (.ref a), x1, some (.ref d), x3, x4, x5, x6]) ∧ Same H H4 ∧ D3 H4 d) ⟨⟨_, _, _, _, _, rfl⟩, s2.trans s3, D3'⟩ ?_ ?_
      · rintro j σ H4 hj ⟨⟨x1, x3, x4, x5, x6, rfl⟩, s4, D4⟩
        refine ⟨_, rfl, d, rfl, D4, fun x H5 g5 ⟨t, v, ex, nt, et, vk⟩ => ?_⟩
        subst ex
        refine ⟨t, _, rfl, SqT.of et, rfl, _, _, rfl, _, _, rfl, _, _, rfl, rfl, ?_⟩
        refine ⟨_, rfl, v, rfl, vk.kind, _, rfl, v, rfl, vk.sorted, lenOk 2, fun l1 n1 => ?_⟩
        have b1 := Gr.laid (o := .lst [.bl (intV v), .bl (handV v)]) g5.dice n1
        refine ⟨.ref l1, two (intV v) (handV v), rfl, ⟨l1, rfl⟩, .lst (SqL.of upd_same) (dp_bls [intV v, handV v]), (two_fact _ _).1, (two_fact _ _).2.1, (two_fact _ _).2.2.1, (two_fact _ _).2.2.2, ?_⟩
        refine ⟨_, rfl, _, rfl, rfl, lenOk 2, fun l2 n2 => ?_⟩
        have b2 := Gr.laid (o := .lst [.bl (intV v), .bl (!decide (othV v = .non))]) b1.dice n2
        refine ⟨.ref l2, two (intV v) (!decide (othV v = .non)), rfl, ⟨l2, rfl⟩, .lst (SqL.of upd_same) (dp_bls [intV v, !decide (othV v = .non)]), (two_fact _ _).1, (two_fact _ _).2.1, (two_fact _ _).2.2.1, (two_fact _ _).2.2.2, ?_⟩
        refine ⟨rfl, _, rfl, ?_⟩
        rw [oth_none v] at b2 ⊢
        refine neSelf ?_
        have b12 := b1.trans b2
        refine ⟨_, rfl, v, rfl, (vk.gr b12).sorted, _, rfl, oth_scal v, _, rfl, neSelf ?_⟩
        exact ⟨⟨_, _, _, _, _, rfl⟩, gr_same nd s4 (g5.trans b12), b12.dice⟩
      · rintro σ H4 ⟨⟨x1, x3, x4, x5, x6, rfl⟩, s4, D4⟩
        exact ⟨⟨_, _, _, _, _, _, rfl⟩, s4⟩
    · rintro σ H2 ⟨⟨x1, x2, x3, x4, x5, x6, rfl⟩, s2⟩
      refine ⟨_, _, rfl, rfl, p60, _, _, rfl, rfl, _, rfl, .inl ⟨_, rfl⟩, ?_⟩
      refine ⟨_, _, rfl, rfl, p60, _, rfl, .inl ⟨_, rfl⟩, ?_⟩
      refine ⟨_, _, rfl, rfl, p60, _, _, rfl, rfl, _, rfl, .inl ⟨_, rfl⟩, ?_⟩
      refine ⟨_, rfl, .inr (.inl ⟨_, rfl⟩), lenOk 4, fun l1 n1 => ?_⟩
      refine ⟨lenOk 1, fun l2 n2 => ⟨lenOk 1, fun l3 n3 => ⟨l3, 3, _, rfl, rfl, upd_same, by decide, by decide, by rw [sizeLine_eq]; show 1 * 3 ≤ _; omega, fun l4 n4 => ?_⟩⟩⟩
      have s3 := same_new (o := .lst [.bl false]) n3
      have s4 := same_new (o := .lst (List.replicate (3 : Int).toNat [V.bl false]).flatten) n4
      have s2' := same_new (o := .lst [.bl true]) n2
      refine ⟨l2, l4, _, _, rfl, rfl, s4 _ _ (s3 _ _ upd_same), upd_same, lenS 4, fun l5 n5 => ?_⟩
      have s5 := same_new (o := .lst ([V.bl true] ++ (List.replicate (3 : Int).toNat [V.bl false]).flatten)) n5
      refine ⟨.list ([intV (.int (10 ^ (60 : Int).toNat - 1)), intV (.int (10 ^ (60 : Int).toNat)), intV (.int (0 - 10 ^ (60 : Int).toNat)), intV (.bl true)].map PyData.bool), .list ([true, false, false, false].map PyData.bool),
        .lst (SqL.of (s5 _ _ (s4 _ _ (s3 _ _ (s2' _ _ upd_same))))) (dp_bls [intV (.int (10 ^ (60 : Int).toNat - 1)), intV (.int (10 ^ (60 : Int).toNat)), intV (.int (0 - 10 ^ (60 : Int).toNat)), intV (.bl true)]),
        .lst (SqL.of upd_same) (dp_bls [true, false, false, false]), by decide +kernel, by decide +kernel, _, rfl, iteF' (by decide +kernel) ?_⟩
      refine ⟨lenOk 2, fun t nt => ⟨.tuple (hands.map PyData.str), .tuple (hands.map PyData.str), .tup (hp2 _) (dp_strs hands), .tup (SqT.of upd_same) (dp_strs hands), by decide +kernel, by decide +kernel, _, rfl, iteT' (by decide +kernel) ?_⟩⟩
      refine ⟨.str "caller", rfl, .inl rfl, fun _ => ⟨.str "keeper", rfl, .inl rfl, fun _ => ⟨rfl, ?_⟩, fun e => absurd e (by decide +kernel)⟩, fun e => absurd e (by decide +kernel)⟩
      exact q _
end
end Eh

set_option Elab.async false
set_option linter.all false
set_option maxRecDepth 100000
namespace Eh
open PySem PySem.Spec PyProof.Rows L2
theorem all_mk {l : PySem.W.OpenLaw} {w : World} {K : PySem.W.Frag} {h : Heap} {mg : Str → Option Value} {fa f1 f2 f3 f4 f5 f6 f7 f8 f9 : Addr} (X : K.In h) (G : h.Ns mainGlobals mg) (hfa : mg "law" = some (.ref fa))
    {od1 an1 od2 an2 od3 an3 od4 an4 od5 an5 od6 an6 od7 an7 od8 an8 od9 an9 : Option Addr} {sl1 sl2 sl3 sl4 sl5 sl6 sl7 sl8 sl9 : Array (Option Value)} {oc1 kV1 dc1 pm1 cd1 ct1 oc2 kV2 dc2 pm2 cd2 ct2 oc3 kV3 dc3 pm3 cd3 ct3 oc4 kV4 dc4 pm4 cd4 ct4 oc5 kV5 dc5 pm5 cd5 ct5 oc6 kV6 dc6 pm6 cd6 ct6 oc7 kV7 dc7 pm7 cd7 ct7 oc8 kV8 dc8 pm8 cd8 ct8 oc9 kV9 dc9 pm9 cd9 ct9 : Value}
    (a1 : PySem.W.nsIn K mainGlobals "_law_roll" = some (some (.ref f1))) (l1 : K.lookup f1 = some ⟨oc1, od1, .func (PySem.W.fnOf "_law_roll" "_law_roll" (defArgs s__law_roll) (defBody s__law_roll) (defScope s__law_roll) .none kV1 dc1 pm1 an1 cd1 ct1), sl1⟩) (c1 : PySem.W.codeIn K cd1 "_law_roll" = true) (k1 : PySem.W.keepIn K (.ref f1) = true)
    (a2 : PySem.W.nsIn K mainGlobals "_law_pick" = some (some (.ref f2))) (l2 : K.lookup f2 = some ⟨oc2, od2, .func (PySem.W.fnOf "_law_pick" "_law_pick" (defArgs s__law_pick) (defBody s__law_pick) (defScope s__law_pick) .none kV2 dc2 pm2 an2 cd2 ct2), sl2⟩) (c2 : PySem.W.codeIn K cd2 "_law_pick" = true) (k2 : PySem.W.keepIn K (.ref f2) = true)
    (a3 : PySem.W.nsIn K mainGlobals "_law_dice" = some (some (.ref f3))) (l3 : K.lookup f3 = some ⟨oc3, od3, .func (PySem.W.fnOf "_law_dice" "_law_dice" (defArgs s__law_dice) (defBody s__law_dice) (defScope s__law_dice) .none kV3 dc3 pm3 an3 cd3 ct3), sl3⟩) (c3 : PySem.W.codeIn K cd3 "_law_dice" = true) (k3 : PySem.W.keepIn K (.ref f3) = true)
    (a4 : PySem.W.nsIn K mainGlobals "is_integer" = some (some (.ref f4))) (l4 : K.lookup f4 = some ⟨oc4, od4, .func (PySem.W.fnOf "is_integer" "is_integer" (defArgs s_is_integer) (defBody s_is_integer) (defScope s_is_integer) .none kV4 dc4 pm4 an4 cd4 ct4), sl4⟩) (c4 : PySem.W.codeIn K cd4 "is_integer" = true) (k4 : PySem.W.keepIn K (.ref f4) = true)
    (a5 : PySem.W.nsIn K mainGlobals "is_hand" = some (some (.ref f5))) (l5 : K.lookup f5 = some ⟨oc5, od5, .func (PySem.W.fnOf "is_hand" "is_hand" (defArgs s_is_hand) (defBody s_is_hand) (defScope s_is_hand) .none kV5 dc5 pm5 an5 cd5 ct5), sl5⟩) (c5 : PySem.W.codeIn K cd5 "is_hand" = true) (k5 : PySem.W.keepIn K (.ref f5) = true)
    (a6 : PySem.W.nsIn K mainGlobals "other_hand" = some (some (.ref f6))) (l6 : K.lookup f6 = some ⟨oc6, od6, .func (PySem.W.fnOf "other_hand" "other_hand" (defArgs s_other_hand) (defBody s_other_hand) (defScope s_other_hand) .none kV6 dc6 pm6 an6 cd6 ct6), sl6⟩) (c6 : PySem.W.codeIn K cd6 "other_hand" = true) (k6 : PySem.W.keepIn K (.ref f6) = true)
    (a7 : PySem.W.nsIn K mainGlobals "_law_other" = some (some (.ref f7))) (l7 : K.lookup f7 = some ⟨oc7, od7, .func (PySem.W.fnOf "_law_other" "_law_other" (defArgs s__law_other) (defBody s__law_other) (defScope s__law_other) .none kV7 dc7 pm7 an7 cd7 ct7), sl7⟩) (c7 : PySem.W.codeIn K cd7 "_law_other" = true) (k7 : PySem.W.keepIn K (.ref f7) = true)
    (a8 : PySem.W.nsIn K mainGlobals "_law_row" = some (some (.ref f8))) (l8 : K.lookup f8 = some ⟨oc8, od8, .func (PySem.W.fnOf "_law_row" "_law_row" (defArgs s__law_row) (defBody s__law_row) (defScope s__law_row) .none kV8 dc8 pm8 an8 cd8 ct8), sl8⟩) (c8 : PySem.W.codeIn K cd8 "_law_row" = true) (k8 : PySem.W.keepIn K (.ref f8) = true)
    (a9 : PySem.W.nsIn K mainGlobals "law" = some (some (.ref f9))) (l9 : K.lookup f9 = some ⟨oc9, od9, .func (PySem.W.fnOf "law" "law" (defArgs s_law) (defBody s_law) (defScope s_law) .none kV9 dc9 pm9 an9 cd9 ct9), sl9⟩) (c9 : PySem.W.codeIn K cd9 "law" = true) (k9 : PySem.W.keepIn K (.ref f9) = true)
    (z1 : PySem.W.nsIn K mainGlobals "range" = some none)
    (z2 : PySem.W.nsIn K mainGlobals "isinstance" = some none)
    (z3 : PySem.W.nsIn K mainGlobals "bool" = some none)
    (z4 : PySem.W.nsIn K mainGlobals "abs" = some none)
    (z5 : PySem.W.nsIn K mainGlobals "len" = some none)
    (z6 : PySem.W.nsIn K mainGlobals "int" = some none)
    (z7 : PySem.W.nsIn K mainGlobals "max" = some none)
    (z8 : PySem.W.nsIn K mainGlobals "min" = some none)
    (z9 : PySem.W.nsIn K mainGlobals "repr" = some none)
    {C pH : Addr} {odH : Option Addr} {nH : Nat} {slH : Array (Option Value)} {tA tB : Tok} (x1 : PySem.W.nsIn K mainGlobals "InvalidOperation" = some (some (.ref C)))
    (x2 : PySem.W.excIn K C [.type "ValueError", .type "Exception", .type "BaseException", .type "object"] "ValueError.__new__" = true)
    (x3 : PySem.W.keepIn K (.ref C) = true) (x4 : PySem.W.subIn K (.ref C) (.type "BaseException") = some true) (x5 : PySem.W.typeIn K (.ref C) = some (.type "type")) (x6 : PySem.W.isClsIn K C = true) (x7 : PySem.W.subIn K (.ref C) (.ref C) = some true)
    (y1 : PySem.W.nsIn K mainGlobals "HANDS" = some (some (.ref pH))) (y2 : K.lookup pH = some ⟨.type "tuple", odH, .seq #[.str "caller" tA, .str "keeper" tB] nH, slH⟩)
    : ∃ fd : FuncData, (∀ (s : Shared) (v : Value), BindsTo s fd ⟨[v], []⟩ [("script", v)]) ∧ ∀ base : Heap, K.In base → base.Ns mainGlobals mg → FnG l.prog w K mg base 4 fa fd ["script"] (spLaw K) := by
  have e := hfa.symm.trans (PySem.W.mg_of X G a9)
  cases e
  have T : Txt mg := ⟨PySem.W.mg_none_of X G z1, PySem.W.mg_none_of X G z2, PySem.W.mg_none_of X G z3, PySem.W.mg_none_of X G z4, PySem.W.mg_none_of X G z5, PySem.W.mg_none_of X G z6, PySem.W.mg_none_of X G z7, PySem.W.mg_none_of X G z8, PySem.W.mg_none_of X G z9⟩
  have F1 := fun_mk (st := s__law_roll) l1 c1 k1
  have b1 := F1.binds (ps := ["dice", "many"]) fun _ _ _ _ _ _ us hl => match us, hl with | [_, _], _ => rfl
  have m1 := PySem.W.mg_of X G a1
  have F2 := fun_mk (st := s__law_pick) l2 c2 k2
  have b2 := F2.binds (ps := ["dice", "items"]) fun _ _ _ _ _ _ us hl => match us, hl with | [_, _], _ => rfl
  have m2 := PySem.W.mg_of X G a2
  have F3 := fun_mk (st := s__law_dice) l3 c3 k3
  have b3 := F3.binds (ps := ["script", "spot"]) fun _ _ _ _ _ _ us hl => match us, hl with | [_, _], _ => rfl
  have m3 := PySem.W.mg_of X G a3
  have F4 := fun_mk (st := s_is_integer) l4 c4 k4
  have b4 := F4.binds (ps := ["value"]) fun _ _ _ _ _ _ us hl => match us, hl with | [_], _ => rfl
  have m4 := PySem.W.mg_of X G a4
  have F5 := fun_mk (st := s_is_hand) l5 c5 k5
  have b5 := F5.binds (ps := ["value"]) fun _ _ _ _ _ _ us hl => match us, hl with | [_], _ => rfl
  have m5 := PySem.W.mg_of X G a5
  have F6 := fun_mk (st := s_other_hand) l6 c6 k6
  have b6 := F6.binds (ps := ["hand"]) fun _ _ _ _ _ _ us hl => match us, hl with | [_], _ => rfl
  have m6 := PySem.W.mg_of X G a6
  have F7 := fun_mk (st := s__law_other) l7 c7 k7
  have b7 := F7.binds (ps := ["value"]) fun _ _ _ _ _ _ us hl => match us, hl with | [_], _ => rfl
  have m7 := PySem.W.mg_of X G a7
  have F8 := fun_mk (st := s__law_row) l8 c8 k8
  have b8 := F8.binds (ps := ["dice"]) fun _ _ _ _ _ _ us hl => match us, hl with | [_], _ => rfl
  have m8 := PySem.W.mg_of X G a8
  have F9 := fun_mk (st := s_law) l9 c9 k9
  have b9 := F9.binds (ps := ["script"]) fun _ _ _ _ _ _ us hl => match us, hl with | [_], _ => rfl
  have m9 := PySem.W.mg_of X G a9
  refine ⟨PySem.W.fnOf "law" "law" (defArgs s_law) (defBody s_law) (defScope s_law) .none kV9 dc9 pm9 an9 cd9 ct9, fun s v => .of_eq rfl, fun base _ _ => ?_⟩
  have R : ErrC K mg "InvalidOperation" C := ⟨PySem.W.mg_of X G x1, x2, x3, x4, x5, exmSelf x4 x6 x5 x7⟩
  have hh : HandsAt K mg pH := ⟨PySem.W.mg_of X G y1, fun H => .inr ⟨_, _, _, y2, rfl, rfl, (by show 2 ≤ sizeLine; decide), .cons ⟨_, rfl⟩ (.cons ⟨_, rfl⟩ .nil)⟩⟩
  have G1 : Cal l.prog w K mg base 1 "_law_roll" f1 _ ["dice", "many"] spRoll := ⟨ok_roll F1 T, m1, k1, b1⟩
  have G2 : Cal l.prog w K mg base 2 "_law_pick" f2 _ ["dice", "items"] (spPick K) := ⟨ok_pick F2 T G1, m2, k2, b2⟩
  have G3 : Cal l.prog w K mg base 1 "_law_dice" f3 _ ["script", "spot"] (spDice K) := ⟨ok_dice F3 T, m3, k3, b3⟩
  have G4 : Cal l.prog w K mg base 1 "is_integer" f4 _ ["value"] (spInteger K) := ⟨ok_is_integer F4 T, m4, k4, b4⟩
  have G5 : Cal l.prog w K mg base 1 "is_hand" f5 _ ["value"] spHand := ⟨ok_is_hand F5 T hh, m5, k5, b5⟩
  have G6 : FnOk l.prog w K mg base (L2.CX l.prog w) 2 f6 _ ["hand"] (spOther C) := ok_other_hand F6 T R G5
  have G7 : Cal l.prog w K mg base 3 "_law_other" f7 _ ["value"] spLawOther := ⟨ok_law_other F7 T R G6 m6 k6 b6, m7, k7, b7⟩
  have G8 : Cal l.prog w K mg base 3 "_law_row" f8 _ ["dice"] spRow := ⟨ok_row F8 T G1 G2, m8, k8, b8⟩
  exact ok_law F9 T hh G3 G8 G4 G5 G7 G6 m6 k6 b6
end Eh
open PySem PySem.W PyProof.Rows
set_option maxHeartbeats 0 in
theorem PySem.Challenge.cw_eitherhand_k02_hands_and_integers_judged_holds : PySem.Challenge.rw_eitherhand_k02_hands_and_integers_judged.Holds := by
  w_on; o_law; k_head; (case hw => w_witness2)
  k_fill
  refine Eh.walk_ofG (l := PySem.Challenge.rw_eitherhand_k02_hands_and_integers_judged) (n := 63) (k := 4) (x := "script") (sp := fun w => Eh.spLaw _) rfl (by decide) rfl ⟨rfl, by decide, by decide⟩ (fun w h Y => PySem.W.kIn_of Y) ?F (fun _ _ a ns hl hS => ⟨a, ns, rfl, hS, hl, fun _ => rfl⟩)
  case F =>
    intro w mg fa h KX G hmg
    refine' Eh.all_mk KX G hmg ?a1 ?l1 ?c1 ?k1 ?a2 ?l2 ?c2 ?k2 ?a3 ?l3 ?c3 ?k3 ?a4 ?l4 ?c4 ?k4 ?a5 ?l5 ?c5 ?k5 ?a6 ?l6 ?c6 ?k6 ?a7 ?l7 ?c7 ?k7 ?a8 ?l8 ?c8 ?k8 ?a9 ?l9 ?c9 ?k9 ?z1 ?z2 ?z3 ?z4 ?z5 ?z6 ?z7 ?z8 ?z9 ?x1 ?x2 ?x3 ?x4 ?x5 ?x6 ?x7 ?y1 ?y2
    (case a1 => k_is); (case l1 => k_is); (case c1 => k_is); (case k1 => k_is); (case a2 => k_is); (case l2 => k_is); (case c2 => k_is); (case k2 => k_is); (case a3 => k_is); (case l3 => k_is); (case c3 => k_is); (case k3 => k_is); (case a4 => k_is); (case l4 => k_is); (case c4 => k_is); (case k4 => k_is); (case a5 => k_is); (case l5 => k_is); (case c5 => k_is); (case k5 => k_is); (case a6 => k_is); (case l6 => k_is); (case c6 => k_is); (case k6 => k_is); (case a7 => k_is); (case l7 => k_is); (case c7 => k_is); (case k7 => k_is); (case a8 => k_is); (case l8 => k_is); (case c8 => k_is); (case k8 => k_is); (case a9 => k_is); (case l9 => k_is); (case c9 => k_is); (case k9 => k_is); (case z1 => k_is); (case z2 => k_is); (case z3 => k_is); (case z4 => k_is); (case z5 => k_is); (case z6 => k_is); (case z7 => k_is); (case z8 => k_is); (case z9 => k_is); (case x1 => k_is); (case x2 => k_exc); (case x3 => k_is); (case x4 => k_is); (case x5 => k_is); (case x6 => k_is); (case x7 => k_is); (case y1 => k_is); (case y2 => k_is)

