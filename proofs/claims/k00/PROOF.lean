import PyProof.Rows.All
import Wide.All
import OpenK.AllK
import Wide.FinOn
import PySem.Challenge.RW_eitherhand_k00_errors_and_what_they_keep
import HandS.ForMost
import HandS.Wide
import HandS.IsInst
import HandS.RaiseMore
import HandS.Text
import PyProof.FactsAll.dict_1
import PyProof.FactsAll.subtypes_3
import PyProof.FactsAll.subtypes_4
import HandS.ExcOwn
import HandS.WordsExc
import HandS.TryOnly
import KE.KExcSuper
import HandS.Nested
import HandS.ExcInit
import HandS.ExcField
import HandS.TryMany
import HandS.ExcValue
import HandS.ExcIs
import KE.KExcStr
import PyProof.FactsTree
import HandS.DictComp
import KE.KxIndex
import KE.KExcLine
import KE.RegKSuper
set_option Elab.async false
set_option linter.all false
set_option maxRecDepth 100000
namespace Eh
open PySem PySem.Spec PyProof.Rows L2
/-! ### the text -/
def topS (i : Nat) : Stmt := PySem.Challenge.pw_eitherhand_k00_errors_and_what_they_keep.main.body.getD i (.Pass ⟨0, 0, 0, 0⟩)
abbrev s__copied : Stmt := topS 1
theorem sc__copied : FnScope ["value", "item", "key"] ["value"] (defScope s__copied) := ⟨rfl, rfl, rfl, by decide +kernel, rfl, by decide +kernel, by decide +kernel⟩
abbrev s_ParseError___init__ : Stmt := inClass (topS 12) 0
abbrev s_UnknownFact___init__ : Stmt := inClass (topS 13) 0
abbrev s_NotKept___init__ : Stmt := inClass (topS 14) 0
abbrev s_NothingToUndo___init__ : Stmt := inClass (topS 15) 0
abbrev s_TooMany___init__ : Stmt := inClass (topS 16) 0
abbrev s_Refused___init__ : Stmt := inClass (topS 17) 0
abbrev s_InvalidNumber___init__ : Stmt := inClass (topS 18) 0
abbrev s__law_dice : Stmt := topS 20
theorem sc__law_dice : FnScope ["script", "spot", "cell", "great", "blend"] ["script", "spot"] (defScope s__law_dice) := ⟨rfl, rfl, rfl, by decide +kernel, rfl, by decide +kernel, by decide +kernel⟩
abbrev s__law_roll : Stmt := topS 21
theorem sc__law_roll : FnScope ["dice", "many", "found", "one", "two"] ["dice", "many"] (defScope s__law_roll) := ⟨rfl, rfl, rfl, by decide +kernel, rfl, by decide +kernel, by decide +kernel⟩
abbrev s__law_pick : Stmt := topS 22
theorem sc__law_pick : FnScope ["dice", "items"] ["dice", "items"] (defScope s__law_pick) := ⟨rfl, rfl, rfl, by decide +kernel, rfl, by decide +kernel, by decide +kernel⟩
abbrev s__law_kinds : Stmt := topS 23
theorem sc__law_kinds : FnScope ["error", "told", "one"] ["error"] (defScope s__law_kinds) := ⟨rfl, rfl, rfl, by decide +kernel, rfl, by decide +kernel, by decide +kernel⟩
abbrev s__law_others : Stmt := topS 24
theorem sc__law_others : FnScope ["error", "told", "one"] ["error"] (defScope s__law_others) := ⟨rfl, rfl, rfl, by decide +kernel, rfl, by decide +kernel, by decide +kernel⟩
abbrev s__law_right : Stmt := topS 25
theorem sc__law_right : FnScope ["dice", "thing", "words", "base", "at", "due", "others", "kept", "spot", "one"] ["dice"] (defScope s__law_right) := ⟨rfl, rfl, rfl, by decide +kernel, rfl, by decide +kernel, by decide +kernel⟩
abbrev s_law : Stmt := topS 26
theorem sc_law : FnScope ["script", "spot", "dice", "turn"] ["script"] (defScope s_law) := ⟨rfl, rfl, rfl, by decide +kernel, rfl, by decide +kernel, by decide +kernel⟩
/-- the names of built-ins that the text reads and has not taken -/
structure Txt (mg : Str → Option Value) : Prop where
  isinstance_ : mg "isinstance" = none
  list_ : mg "list" = none
  tuple_ : mg "tuple" = none
  dict_ : mg "dict" = none
  range_ : mg "range" = none
  len_ : mg "len" = none
  int_ : mg "int" = none
  max_ : mg "max" = none
  repr_ : mg "repr" = none
  abs_ : mg "abs" = none
  min_ : mg "min" = none
  super_ : mg "super" = none
  str_ : mg "str" = none
end Eh

set_option Elab.async false
set_option linter.all false
set_option maxRecDepth 100000
namespace Eh
open PySem PySem.Spec PyProof.Rows L2
/-! ### what is called -/
structure Cal (P : Program) (w : World) (K : PySem.W.Frag) (mg : Str → Option Value) (base : Heap) (k : Nat) (x : Str) (f : Addr) (fd : FuncData) (ps : List Str) (sp : Sp) : Prop where
  G : FnOk P w K mg base CX0 k f fd ps sp
  m : mg x = some (.ref f)
  k : PySem.W.keepIn K (.ref f) = true
  b : Binds K fd ps []
/-! ### rules that the layer lacks -/
section
variable {X : Cx}
theorem op_powB : OpR X (binaryOp .Pow) (rI (fun i j => 0 ≤ j ∧ (Builtin.Int.intBits i : Int) * j ≤ 2 ^ 27) fun i j => .int (i ^ j.toNat)) :=
  opI fun _ _ _ _ _ _ _ hc q => pow_int hc.1 hc.2 q
theorem call_repr_bl : CallR X (.builtin "repr") (fun xs H Q => ∃ b, xs = [.bl b] ∧ Q (.str (if b then "True" else "False")) H) := by
  intro pins s σ H xs us Q I r h
  obtain ⟨b, rfl, q⟩ := h
  cases r with
  | cons r1 r2 =>
    cases r2
    cases r1
    exact PySem.P.repr_of_bool ⟨.str _, H, I.tok _, ⟨_, rfl⟩, q⟩
end
/-! ### the dice -/
/-- the list of the dice's three numbers stands at d -/
def D3 (H : Hp) (d : Addr) : Prop := ∃ g b c : Int, H d = some (.lst [.int g, .int b, .int c])
/-- from H to H' only the dice at d were turned, and new objects laid -/
structure Gr (d : Addr) (H H' : Hp) : Prop where
  dice : D3 H' d
  keep : ∀ a o, a ≠ d → H a = some o → H' a = some o
theorem Gr.refl {d : Addr} {H : Hp} (h : D3 H d) : Gr d H H := ⟨h, fun _ _ _ e => e⟩
theorem Gr.trans {d : Addr} {H H1 H2 : Hp} (a : Gr d H H1) (b : Gr d H1 H2) : Gr d H H2 := ⟨b.dice, fun p o n e => b.keep p o n (a.keep p o n e)⟩
theorem Gr.laid {d p : Addr} {H : Hp} {o : HO} (h : D3 H d) (n : H p = none) : Gr d H (upd H p o) := by
  obtain ⟨g, b, c, e⟩ := h
  exact ⟨⟨g, b, c, by rw [upd_ne (ne_of_none e n)]; exact e⟩, fun a u _ z => by rw [upd_ne (ne_of_none z n)]; exact z⟩
theorem D3.ne {d p : Addr} {H : Hp} (h : D3 H d) (n : H p = none) : p ≠ d := by
  obtain ⟨g, b, c, e⟩ := h
  exact (ne_of_none e n).symm
theorem Gr.seq {K : PySem.W.Frag} {d a : Addr} {H H' : Hp} {xs : List V} (r : Gr d H H') (n : a ≠ d) (h : SqL K H a xs) : SqL K H' a xs := by
  rcases h with (h | ⟨o, h⟩) | h
  · exact .inl (.inl (r.keep _ _ n h))
  · exact .inl (.inr ⟨o, r.keep _ _ n h⟩)
  · exact .inr h
theorem Gr.put {d l : Addr} {H H' : Hp} {o : HO} (r : Gr d H H') (n : H l = none) (m : l ≠ d) : Gr d H (upd H' l o) := by
  obtain ⟨g, b, c, e⟩ := r.dice
  exact ⟨⟨g, b, c, by rw [upd_ne m.symm]; exact e⟩, fun a u q z => by rw [upd_ne (ne_of_none z n)]; exact r.keep a u q z⟩
theorem Gr.free {d l : Addr} {H H' : Hp} (r : Gr d H H') (h : D3 H d) (n : H' l = none) : H l = none := by
  cases q : H l with
  | none => rfl
  | some o =>
    by_cases e : l = d
    · obtain ⟨g, b, c, z⟩ := r.dice
      rw [e, z] at n
      cases n
    · rw [r.keep l o e q] at n
      cases n
section
variable {P : Program} {w : World} {K : PySem.W.Frag} {mg : Str → Option Value} {base : Heap}
def spRoll : Sp := fun vs H Q _ => ∃ (d : Addr) (many : Int), vs = [.ref d, .int many] ∧ D3 H d ∧ 0 < many ∧ many < 1073741824 ∧
  ∀ (r : Int) H', 0 ≤ r → r < many → D3 H' d → (∀ a, a ≠ d → H' a = H a) → Q (.int r) H'
theorem fmod_in {i m : Int} (h : 0 < m) : 0 ≤ i.fmod m ∧ i.fmod m < m := by
  rw [Int.fmod_eq_emod_of_nonneg i (by omega)]
  exact ⟨Int.emod_nonneg i (by omega), Int.emod_lt_of_pos i h⟩
theorem in64 {x : Int} (h : 0 ≤ x ∧ x < 2305843009213693951) : -(2 ^ 64) < x ∧ x < 2 ^ 64 := by omega
theorem in64' {x : Int} (h : 0 ≤ x ∧ x < 2305843009213693807) : -(2 ^ 64) < x ∧ x < 2 ^ 64 := by omega
theorem m1N : (2305843009213693951 : Int) ≠ 0 := by decide
theorem m2N : (2305843009213693807 : Int) ≠ 0 := by decide
theorem m3N : (2305843009213693537 : Int) ≠ 0 := by decide
theorem d8N : (8192 : Int) ≠ 0 ∧ (8192 : Int).natAbs < 1073741824 := by decide
theorem ok_roll {f : Addr} {fd : FuncData} (F : Fun K "_law_roll" "_law_roll" s__law_roll f fd) (T : Txt mg) : FnOk P w K mg base CX0 1 f fd ["dice", "many"] spRoll := by
  refine F.ok sc__law_roll (fun vs H Q E h => ?_) (fun cdv A outer s H vs Q E hr h => ?_)
  · obtain ⟨d, m, rfl, _⟩ := h
    rfl
  · obtain ⟨d, m, rfl, ⟨g, b, c, eH⟩, m0, m1, q⟩ := h
    refine ⟨_, (pss_cons (ps_if (pt_cmpR op_gt (pe_ix ix_list (pv 0) pe_int (fun _ _ => rfl)) pe_int (nomark _))
  (pss_cons (ps_set (i := 2) sc__law_roll.nd rfl (.inl rfl) (pe_op op_modN (pe_callTy call_int1 (by rfl) T.int_ (by decide +kernel) (pa_cons (pe_ix ix_list (pv 0) pe_int (fun _ _ => rfl)) pa_nil)) (pv 1)))
  (pss_cons (ps_asg (pe_op op_fdivN (pe_ix ix_list (pv 0) pe_int (fun _ _ => rfl)) (pv 1)) (pg_sub (pv 0) pe_int set_list))
  (pss_one (ps_ret (pv 2)))))
  pss_nil)
  (pss_cons (ps_asg (pe_op op_add (pe_ix ix_list (pv 0) pe_int (fun _ _ => rfl)) pe_int) (pg_sub (pv 0) pe_int set_list))
  (pss_cons (ps_set (i := 3) sc__law_roll.nd rfl (.inl rfl) (pe_op op_modN (pe_callTy call_int1 (by rfl) T.int_ (by decide +kernel) (pa_cons (pe_op op_add (pe_ix ix_list (pv 0) pe_int (fun _ _ => rfl)) (pe_op op_mul pe_int (pe_ix ix_list (pv 0) pe_int (fun _ _ => rfl)))) pa_nil)) pe_int))
  (pss_cons (ps_set (i := 4) sc__law_roll.nd rfl (.inl rfl) (pe_op op_add (pe_op op_mul (pe_op op_modN (pe_callTy call_int1 (by rfl) T.int_ (by decide +kernel) (pa_cons (pe_op op_mul (pv 3) (pv 3)) pa_nil)) pe_int) (pv 3)) (pe_op op_mul pe_int (pe_ix ix_list (pv 0) pe_int (fun _ _ => rfl)))))
  (pss_cons (ps_set (i := 4) sc__law_roll.nd rfl (.inl rfl) (pe_op op_modN (pe_callTy call_int1 (by rfl) T.int_ (by decide +kernel) (pa_cons (pv 4) pa_nil)) pe_int))
  (pss_one (ps_ret (pe_op op_modN (pe_callTy call_int1 (by rfl) T.int_ (by decide +kernel) (pa_cons (pe_op op_fdivN (pv 4) pe_int) pa_nil)) (pv 1))))))))), ?_⟩
    refine ⟨_, rfl, d, _, 0, _, rfl, rfl, SqL.of eH, atI_nat (j := 0) rfl, g, 0, rfl, rfl, _, rfl, ite2 (fun _ => ?_) (fun _ => ?_)⟩
    · refine ⟨_, rfl, d, _, 0, _, rfl, rfl, SqL.of eH, atI_nat (j := 0) rfl, .inl ⟨g, rfl, ?_⟩⟩
      refine ⟨_, rfl, g, m, rfl, rfl, by omega, ?_⟩
      refine ⟨_, rfl, d, _, 0, _, rfl, rfl, SqL.of eH, atI_nat (j := 0) rfl, _, rfl, g, m, rfl, rfl, ⟨by omega, by omega⟩, ?_⟩
      refine ⟨_, rfl, d, _, 0, 0, rfl, rfl, eH, rfl, ?_⟩
      refine ⟨_, rfl, q _ _ (fmod_in m0).1 (fmod_in m0).2 ⟨_, b, c, upd_same⟩ fun a n => upd_ne n⟩
    · refine ⟨_, rfl, d, _, 2, _, rfl, rfl, SqL.of eH, atI_nat (j := 2) rfl, c, 1, rfl, rfl, ?_⟩
      refine ⟨_, rfl, d, _, 2, 2, rfl, rfl, eH, rfl, ?_⟩
      have e1 : (upd H d (.lst [.int g, .int b, .int (c + 1)])) d = some (.lst [.int g, .int b, .int (c + 1)]) := upd_same
      refine ⟨_, rfl, d, _, 1, _, rfl, rfl, SqL.of e1, atI_nat (j := 1) rfl, _, rfl, d, _, 2, _, rfl, rfl, SqL.of e1, atI_nat (j := 2) rfl, _, _, rfl, rfl, .inl ⟨by decide, by decide⟩, _, _, rfl, rfl, .inl ⟨_, rfl, ?_⟩⟩
      refine ⟨_, _, rfl, rfl, m1N, ?_⟩
      refine ⟨_, rfl, _, rfl, _, _, rfl, rfl, .inl (in64 (fmod_in (by decide))), .inl ⟨_, rfl, ?_⟩⟩
      refine ⟨_, _, rfl, rfl, m2N, ?_⟩
      refine ⟨_, rfl, _, _, rfl, rfl, .inl (in64' (fmod_in (by decide))), ?_⟩
      refine ⟨_, rfl, d, _, 2, _, rfl, rfl, SqL.of e1, atI_nat (j := 2) rfl, _, _, rfl, rfl, .inl ⟨by decide, by decide⟩, _, _, rfl, rfl, ?_⟩
      refine ⟨_, rfl, .inl ⟨_, rfl, _, _, rfl, rfl, m3N, ?_⟩⟩
      refine ⟨_, rfl, _, _, rfl, rfl, d8N, .inl ⟨_, rfl, _, rfl, _, m, rfl, rfl, by omega, ?_⟩⟩
      exact q _ _ (fmod_in m0).1 (fmod_in m0).2 ⟨g, b, _, upd_same⟩ fun a n => upd_ne n
end
end Eh

set_option Elab.async false
set_option linter.all false
set_option maxRecDepth 100000
namespace Eh
open PySem PySem.Spec PyProof.Rows L2
/-! ### the rules with the written part named (within a comprehension the context's own name of it is out of reach) -/
section
variable {X : Cx} {K : PySem.W.Frag}
theorem ixL (h : X.K = K) : IxR X (rIxL K) := by subst h; exact ix_list
theorem ixT (h : X.K = K) : IxR X (rIxT K) := by subst h; exact ix_tup
theorem slL (h : X.K = K) : SlR X (rSlL K) := by subst h; exact sl_list
theorem inQ (h : X.K = K) : OpR X (compareOp .In) (rIn K false) := by subst h; exact op_in_seq
theorem niQ (h : X.K = K) : OpR X (compareOp .NotIn) (rIn K true) := by subst h; exact op_notIn_seq
theorem eqD (h : X.K = K) (hu : X.A.units + 64 < cLine) : OpR X (compareOp .Eq) (rEqD K) := by subst h; exact op_eqD hu
theorem neD (h : X.K = K) (hu : X.A.units + 64 < cLine) : OpR X (compareOp .NotEq) (rNeD K) := by subst h; exact op_neD hu
def rLen (K : PySem.W.Frag) : List V → Hp → VK → Prop := fun xs H Q => (∃ p ys, xs = [.ref p] ∧ (SqL K H p ys ∨ SqT K H p ys) ∧ Q (.int ys.length) H) ∨ (∃ z : Str, xs = [.str z] ∧ z.length ≤ sizeLine ∧ Q (.int z.length) H)
theorem lenQ (h : X.K = K) : CallR X (.builtin "len") (rLen K) := by subst h; exact call_len_seq.or call_len_str
def rLstOf (K : PySem.W.Frag) : List V → Hp → VK → Prop := fun xs H Q => ∃ p ys, xs = [.ref p] ∧ (SqL K H p ys ∨ SqT K H p ys) ∧ ∀ l, H l = none → Q (.ref l) (upd H l (.lst ys))
theorem lstOf (h : X.K = K) : CallR X (.type "list") (rLstOf K) := by subst h; exact call_list_of
theorem isiQ (h : X.K = K) : CallR X (.builtin "isinstance") (rIsi K) := by subst h; exact call_isi
theorem allQ (h : X.K = K) (hc : X.calm = true) : CallR X (.builtin "all") (rAll K) := by subst h; exact cr_all hc
theorem bmK {e : Expr} {T : String} {r : V → List V → Hp → VK → Prop} {to : TE} {t : TA} (h : X.K = K) (p : PE X e (tBM X.K T r to t)) : PE X e (tBM K T r to t) := by subst h; exact p
theorem bm0K {e : Expr} {T : String} {r : V → List V → Hp → VK → Prop} {to : TE} (h : X.K = K) (p : PE X e (tBM0 X.K T r to)) : PE X e (tBM0 K T r to) := by subst h; exact p
theorem piL {tg l : Expr} {tl : TE} (h : X.K = K) (hl : PE X l tl) : PI X tg l (iList K tl) := by subst h; exact pi_list hl
end
end Eh

set_option Elab.async false
set_option linter.all false
set_option maxRecDepth 100000
namespace Eh
open PySem PySem.Spec PyProof.Rows L2
/-! ### comprehensions over one name, the list that grows told -/
theorem small {n : Nat} (h : n < 1000000) : n < sizeLine := Nat.lt_of_lt_of_le h (by decide)
theorem wipe1 {σ : L2.St} {i : Nat} {x : Option V} : wipe ((wipe σ [i]).set i x) [i] = wipe σ [i] := by
  show ((σ.set i none).set i x).set i none = σ.set i none
  rw [List.set_set, List.set_set]
/-- ahead of turn j: what is made stands at D, and R -/
def LcP (R : Nat → List V → Hp → Prop) (D : Addr) (j : Nat) (H : Hp) : Prop := ∃ acc, acc.length ≤ j ∧ H D = some (.lst acc) ∧ R j acc H
/-- behind the element of turn j -/
def LcK (R : Nat → List V → Hp → Prop) (D : Addr) (j : Nat) : VK := fun y H4 => ∃ acc, H4 D = some (.lst acc) ∧ acc.length < sizeLine ∧ LcP R D (j + 1) (upd H4 D (.lst (acc ++ [y])))
theorem LcK.mk {R : Nat → List V → Hp → Prop} {D : Addr} {j : Nat} {acc : List V} {y : V} {H : Hp} (hl : acc.length ≤ j) (hj : j < 1000000) (e : H D = some (.lst acc)) (r : R (j + 1) (acc ++ [y]) (upd H D (.lst (acc ++ [y])))) : LcK R D j y H :=
  ⟨acc, e, small (by omega), acc ++ [y], by rw [List.length_append]; show acc.length + 1 ≤ j + 1; omega, upd_same, r⟩
/-- what a comprehension's reading asks behind its new list -/
def LcGoal (J : It) (g : TG) (tt : TT) (te : TE) (vs : List Nat) (σ : L2.St) (H1 : Hp) (D : Addr) (Qd : Hp → Prop) : Prop :=
  ∃ W : Nat → Nat → Hp → Prop, (∃ m, W 0 m (upd H1 D (.lst []))) ∧ ∀ i m H, W i m H → (J.stop i H ∧ Qd H) ∨ (J.go i H ∧ ∃ Nx : Hp → Prop, (∀ H', Nx H' → ∃ m', m' < m ∧ W (i + 1) m' H') ∧
    ∀ x H', J.yld i H x H' → g x (wipe σ vs) H' fun σ2 H2 => wipe σ2 vs = wipe σ vs ∧ tt σ2 H2 fun b H3 => if b = true then te σ2 H3 fun y H4 => ∃ acc, H4 D = some (.lst acc) ∧ acc.length < sizeLine ∧ Nx (upd H4 D (.lst (acc ++ [y]))) else Nx H3)
theorem yesT {τ : L2.St} {H : Hp} {A B : Hp → Prop} (h : A H) : tYes τ H (fun b H3 => if b = true then A H3 else B H3) := by
  show (if true = true then A H else B H)
  rw [if_pos rfl]
  exact h
section
variable {te : TE} {tt : TT} {σ : L2.St} {H1 : Hp} {D : Addr} {Qd : Hp → Prop} {i : Nat}
theorem lc_any {J : It} {n : Nat} (R : Nat → List V → Hp → Prop) (h0 : R 0 [] (upd H1 D (.lst [])))
    (hgo : ∀ j acc H, j < n → acc.length ≤ j → H D = some (.lst acc) → R j acc H → J.go j H ∧ ∀ x H', J.yld j H x H' → H' = H ∧
      tt ((wipe σ [i]).set i (some x)) H fun b H3 => if b = true then te ((wipe σ [i]).set i (some x)) H3 (LcK R D j) else LcP R D (j + 1) H3)
    (hstop : ∀ acc H, acc.length ≤ n → H D = some (.lst acc) → R n acc H → J.stop n H ∧ Qd H) : LcGoal J (gName i) tt te [i] σ H1 D Qd := by
  refine ⟨fun j m H => m = n - j ∧ j ≤ n ∧ LcP R D j H, ⟨n, by omega, Nat.zero_le _, [], Nat.le_refl _, upd_same, h0⟩, ?_⟩
  rintro j m H ⟨rfl, hj, acc, hl, e, r⟩
  by_cases hlt : j < n
  · obtain ⟨g1, g2⟩ := hgo j acc H hlt hl e r
    refine .inr ⟨g1, LcP R D (j + 1), fun H' q => ⟨n - (j + 1), by omega, rfl, hlt, q⟩, fun x H' y => ?_⟩
    obtain ⟨eH, k⟩ := g2 x H' y
    subst eH
    exact ⟨wipe1, k⟩
  · have ej : j = n := by omega
    subst ej
    exact .inl (hstop acc H hl e r)
/-- over a range, no test -/
theorem lcR {lo : Int} {n : Nat} (R : Nat → List V → Hp → Prop) (h0 : R 0 [] (upd H1 D (.lst [])))
    (hs : ∀ j acc H, j < n → acc.length ≤ j → H D = some (.lst acc) → R j acc H → te ((wipe σ [i]).set i (some (.int (lo + j)))) H (LcK R D j))
    (hd : ∀ acc H, acc.length ≤ n → H D = some (.lst acc) → R n acc H → Qd H) : LcGoal (Itr lo n) (gName i) tYes te [i] σ H1 D Qd :=
  lc_any R h0 (fun j acc H hj hl e r => ⟨hj, fun x H' y => ⟨y.1, by
    rw [show x = .int (lo + j) from y.2]
    exact hs j acc H hj hl e r⟩⟩) fun acc H hl e r => ⟨Nat.le_refl _, hd acc H hl e r⟩
/-- over a text, no test; with one -/
theorem lcS {z : Str} (R : Nat → List V → Hp → Prop) (h0 : R 0 [] (upd H1 D (.lst [])))
    (hs : ∀ j c acc H, z.cps[j]? = some c → acc.length ≤ j → H D = some (.lst acc) → R j acc H →
      tt ((wipe σ [i]).set i (some (.str ⟨#[c]⟩))) H fun b H3 => if b = true then te ((wipe σ [i]).set i (some (.str ⟨#[c]⟩))) H3 (LcK R D j) else LcP R D (j + 1) H3)
    (hd : ∀ acc H, acc.length ≤ z.cps.size → H D = some (.lst acc) → R z.cps.size acc H → Qd H) : LcGoal (Its z) (gName i) tt te [i] σ H1 D Qd :=
  lc_any R h0 (fun j acc H hj hl e r => ⟨hj, fun x H' y => by
    obtain ⟨y1, c, hc, rfl⟩ := y
    exact ⟨y1, hs j c acc H hc hl e r⟩⟩) fun acc H hl e r => ⟨Nat.le_refl _, hd acc H hl e r⟩
/-- over a list that stays -/
theorem lcL {K : PySem.W.Frag} {a : Addr} {xs : List V} (R : Nat → List V → Hp → Prop) (h0 : R 0 [] (upd H1 D (.lst []))) (hl : ∀ j acc H, R j acc H → SqL K H a xs)
    (hs : ∀ j x acc H, xs[j]? = some x → acc.length ≤ j → H D = some (.lst acc) → R j acc H →
      tt ((wipe σ [i]).set i (some x)) H fun b H3 => if b = true then te ((wipe σ [i]).set i (some x)) H3 (LcK R D j) else LcP R D (j + 1) H3)
    (hd : ∀ acc H, acc.length ≤ xs.length → H D = some (.lst acc) → R xs.length acc H → Qd H) : LcGoal (Itl K a) (gName i) tt te [i] σ H1 D Qd :=
  lc_any R h0 (fun j acc H hj hl' e r => ⟨⟨xs, xs[j], hl _ _ _ r, List.getElem?_eq_getElem hj⟩, fun x H' y => ⟨y.1, hs j x acc H (y.2 xs (hl _ _ _ r)) hl' e r⟩⟩)
    fun acc H hl' e r => ⟨⟨xs, hl _ _ _ r, Nat.le_refl _⟩, hd acc H hl' e r⟩
/-- over a tuple that stays -/
theorem lcT {K : PySem.W.Frag} {a : Addr} {xs : List V} (R : Nat → List V → Hp → Prop) (h0 : R 0 [] (upd H1 D (.lst []))) (hl : ∀ j acc H, R j acc H → SqT K H a xs)
    (hs : ∀ j x acc H, xs[j]? = some x → acc.length ≤ j → H D = some (.lst acc) → R j acc H →
      tt ((wipe σ [i]).set i (some x)) H fun b H3 => if b = true then te ((wipe σ [i]).set i (some x)) H3 (LcK R D j) else LcP R D (j + 1) H3)
    (hd : ∀ acc H, acc.length ≤ xs.length → H D = some (.lst acc) → R xs.length acc H → Qd H) : LcGoal (Itt K a) (gName i) tt te [i] σ H1 D Qd :=
  lc_any R h0 (fun j acc H hj hl' e r => ⟨⟨xs, xs[j], hl _ _ _ r, List.getElem?_eq_getElem hj⟩, fun x H' y => ⟨y.1, hs j x acc H (y.2 xs (hl _ _ _ r)) hl' e r⟩⟩)
    fun acc H hl' e r => ⟨⟨xs, hl _ _ _ r, Nat.le_refl _⟩, hd acc H hl' e r⟩
end
end Eh

set_option Elab.async false
set_option linter.all false
set_option maxRecDepth 100000
namespace Eh
open PySem PySem.Spec PyProof.Rows L2
section
variable {P : Program} {w : World} {K : PySem.W.Frag} {mg : Str → Option Value} {base : Heap}
theorem seq_off {d a : Addr} {H H' : Hp} {xs : List V} (n : a ≠ d) (k : ∀ b, b ≠ d → H' b = H b) (h : SqL K H a xs) : SqL K H' a xs := by
  rcases h with (h | ⟨o, h⟩) | h
  · exact .inl (.inl (by rw [k a n]; exact h))
  · exact .inl (.inr ⟨o, by rw [k a n]; exact h⟩)
  · exact .inr h
/-! pick -/
def spPick (K : PySem.W.Frag) : Sp := fun vs H Q _ => ∃ (d a : Addr) (xs : List V), vs = [.ref d, .ref a] ∧ D3 H d ∧ SqL K H a xs ∧ a ≠ d ∧ 0 < xs.length ∧ xs.length < 1000000 ∧
  ∀ x H', x ∈ xs → D3 H' d → (∀ b, b ≠ d → H' b = H b) → Q x H'
theorem at_in {xs : List V} {r : Int} (h0 : 0 ≤ r) (h1 : r < xs.length) : ∃ x, atI xs r = some x ∧ x ∈ xs := by
  have h : r.toNat < xs.length := by omega
  refine ⟨xs[r.toNat], ?_, List.getElem_mem h⟩
  have e := atI_nat (xs := xs) (j := r.toNat) (List.getElem?_eq_getElem h)
  rwa [Int.toNat_of_nonneg h0] at e
theorem ok_pick {f fR : Addr} {fd fdR : FuncData} (F : Fun K "_law_pick" "_law_pick" s__law_pick f fd) (T : Txt mg) (C__law_roll : Cal P w K mg base 1 "_law_roll" fR fdR ["dice", "many"] spRoll) :
    FnOk P w K mg base CX0 2 f fd ["dice", "items"] (spPick K) := by
  refine F.ok sc__law_pick (fun vs H Q E h => ?_) (fun cdv A outer s H vs Q E hr h => ?_)
  · obtain ⟨d, a, xs, rfl, _⟩ := h
    rfl
  · obtain ⟨d, a, xs, rfl, D, hS, hn, h0, h1, q⟩ := h
    refine ⟨_, (pss_one (ps_ret (pe_ix (ixL (K := K) rfl) (pv 1) (pe_call C__law_roll.G hr (by rfl) C__law_roll.m C__law_roll.k C__law_roll.b .nil pass0 (pa_cons (pv 0) (pa_cons (pe_callB (lenQ (K := K) rfl) (by rfl) T.len_ (by decide +kernel) (pa_cons (pv 1) pa_nil)) pa_nil))) (fun _ _ => rfl)))), ?_⟩
    refine ⟨_, rfl, _, rfl, _, rfl, (.inl ⟨a, xs, rfl, .inl hS, d, _, rfl, D, by omega, by omega, fun r H' r0 r1 D' k => ?_⟩)⟩
    obtain ⟨x, e, hx⟩ := at_in r0 r1
    exact ⟨a, xs, r, x, rfl, rfl, seq_off hn k hS, e, q x H' hx D' k⟩
end
end Eh

set_option Elab.async false
set_option linter.all false
set_option maxRecDepth 100000
namespace Eh
open PySem PySem.Spec PyProof.Rows L2
section
variable {P : Program} {w : World} {K : PySem.W.Frag} {mg : Str → Option Value} {base : Heap}
/-! dice -/
def spDice (K : PySem.W.Frag) : Sp := fun vs H Q _ => ∃ (a : Addr) (ns : List Int) (k : Nat), vs = [.ref a, .int k] ∧ SqL K H a (ns.map V.int) ∧
  ∀ d H', Same H H' → H d = none → D3 H' d → Q (.ref d) H'
theorem p60 : (0 : Int) ≤ 60 ∧ (60 : Int) ≤ 1000000 ∧ (10 : Int).natAbs < 2 ^ 64 := by decide
theorem p18 : (0 : Int) ≤ 18 ∧ (18 : Int) ≤ 1000000 ∧ (10 : Int).natAbs < 2 ^ 64 := by decide
theorem p600 : (0 : Int) ≤ 10 ∧ (Builtin.Int.intBits ((10 : Int) ^ (60 : Int).toNat) : Int) * 10 ≤ 2 ^ 27 := by decide +kernel
theorem n600 : ((10 : Int) ^ (60 : Int).toNat) ^ (10 : Int).toNat ≠ 0 := by decide +kernel
theorem mulR {i j : Int} (h : -(2 ^ 64) < j ∧ j < 2 ^ 64) : CMul i j := .inr h
theorem mulL {i j : Int} (h : -(2 ^ 64) < i ∧ i < 2 ^ 64) : CMul i j := .inl h
theorem same_new {H : Hp} {p : Addr} {o : HO} (h : H p = none) : Same H (upd H p o) := fun b x e => by
  rw [upd_ne (ne_of_none e h)]
  exact e
theorem lenOk (n : Nat) {xs : List V} (e : xs.length = n := by rfl) (h : n < 1000000 := by decide) : xs.length ≤ sizeLine := by
  rw [e]
  exact Nat.le_of_lt (small h)
theorem ok_dice {f : Addr} {fd : FuncData} (F : Fun K "_law_dice" "_law_dice" s__law_dice f fd) (T : Txt mg) : FnOk P w K mg base CX0 1 f fd ["script", "spot"] (spDice K) := by
  refine F.ok sc__law_dice (fun vs H Q E h => ?_) (fun cdv A outer s H vs Q E hr h => ?_)
  · obtain ⟨a, ns, k, rfl, _⟩ := h
    rfl
  · obtain ⟨a, ns, k, rfl, hS, q⟩ := h
    refine ⟨_, (pss_cons (ps_set (i := 2) sc__law_dice.nd rfl (.inl rfl) (pe_op op_add (pe_op op_mul pe_int (pv 1)) pe_int))
  (pss_cons (ps_if (pt_cmpR op_lt (pv 1) (pe_callB (lenQ (K := K) rfl) (by rfl) T.len_ (by decide +kernel) (pa_cons (pv 0) pa_nil)) (nomark _))
  (pss_one (ps_set (i := 2) sc__law_dice.nd rfl (.inl rfl) (pe_ix (ixL (K := K) rfl) (pv 0) (pv 1) (fun _ _ => rfl))))
  pss_nil)
  (pss_cons (ps_set (i := 3) sc__law_dice.nd rfl (.inl rfl) (pe_op op_modN (pe_callTy call_int1 (by rfl) T.int_ (by decide +kernel) (pa_cons (pe_callB call_abs (by rfl) T.abs_ (by decide +kernel) (pa_cons (pv 2) pa_nil)) pa_nil)) (pe_op op_powB (pe_op op_pow pe_int pe_int) pe_int)))
  (pss_cons (ps_set (i := 4) sc__law_dice.nd rfl (.inl rfl) (pe_op op_add (pe_op op_add (pe_op op_add (pe_op op_mul (pe_op op_modN (pe_callTy call_int1 (by rfl) T.int_ (by decide +kernel) (pa_cons (pv 3) pa_nil)) pe_int) pe_int) (pe_op op_mul pe_int (pv 1))) (pe_op op_mul pe_int (pe_callTy call_int1 (by rfl) T.int_ (by decide +kernel) (pa_cons (pe_cmpR op_lt (pv 2) pe_int (nomark _)) pa_nil)))) pe_int))
  (pss_one (ps_ret (pe_lst (pa_cons (pe_callB (call_max2 (by rfl)) (by rfl) T.max_ (by decide +kernel) (pa_cons pe_int (pa_cons (pe_op op_sub (pv 3) (pe_op op_pow pe_int pe_int)) pa_nil))) (pa_cons (pe_op op_modN (pe_callTy call_int1 (by rfl) T.int_ (by decide +kernel) (pa_cons (pv 4) pa_nil)) pe_int) (pa_cons pe_int pa_nil)))))))))), ?_⟩
    refine ⟨_, rfl, _, _, rfl, rfl, mulL (by decide), _, _, rfl, rfl, ?_⟩
    refine ⟨_, rfl, _, rfl, .inl ⟨a, _, rfl, .inl hS, _, _, rfl, rfl, _, rfl, ite2 (fun hk => ?A) (fun _ => ?B)⟩⟩
    case' A =>
      have hk : (k : Int) < ((ns.map V.int).length : Int) := of_decide_eq_true hk
      have hk' : k < ns.length := by rw [List.length_map] at hk; omega
      refine ⟨_, rfl, _, rfl, a, _, k, .int ns[k], rfl, rfl, hS, atI_nat (by rw [List.getElem?_map, List.getElem?_eq_getElem hk']; rfl), ?_⟩
    all_goals
      refine ⟨_, rfl, _, rfl, .inl ⟨_, rfl, _, _, rfl, rfl, p60, _, _, rfl, rfl, p600, _, _, rfl, rfl, n600, ?_⟩⟩
      refine ⟨_, rfl, .inl ⟨_, rfl, _, _, rfl, rfl, m3N, _, _, rfl, rfl, mulR (by decide), _, rfl, _, _, rfl, rfl, mulL (by decide), _, _, rfl, rfl, _, rfl, _, _, rfl, rfl, .inr ⟨_, rfl, _, _, rfl, rfl, mulL (by decide), _, _, rfl, rfl, _, _, rfl, rfl, ?_⟩⟩⟩
      refine ⟨_, rfl, _, _, rfl, rfl, p18, _, _, rfl, rfl, _, _, rfl, _, rfl, .inl ⟨_, rfl, _, _, rfl, rfl, m3N, lenOk 3, fun l nl => ?_⟩⟩
      exact q l _ (same_new nl) nl ⟨_, _, _, upd_same⟩
end
end Eh

set_option Elab.async false
set_option linter.all false
set_option maxRecDepth 100000
/-! a text == a dict; a value of any kind in a tuple of texts -/
namespace Eh
open PySem PySem.SeqAt
theorem dictNoStr (l : Addr) (dd : Option Addr) (es : Array DictEntry) (n : Nat) (sl : Array (Option Value)) (b : Str) (u : Tok) :
    Meets (Builtin.«dict.__eq__» ⟨[.ref l, .str b u], []⟩) (fun _ R s => s.heap.get? l = some { cls := .type "dict", dict := dd, data := .dict es n, slots := sl } ∧ R (.ok (.ret .notImplemented)) s) :=
  .of_wp fun prog w A R s h => by
    obtain ⟨hp, g, d, tk, os⟩ := s
    obtain ⟨hl, h⟩ := h
    have f1 := PySem.F.sub_str_dict
    wp_walk using wpAny_loadPart' hl
    exact ⟨_, rfl, h⟩
theorem strNoDict (l : Addr) (dd : Option Addr) (es : Array DictEntry) (n : Nat) (sl : Array (Option Value)) (b : Str) (u : Tok) :
    Meets (Builtin.«str.__eq__» ⟨[.str b u, .ref l], []⟩) (fun _ R s => s.heap.get? l = some { cls := .type "dict", dict := dd, data := .dict es n, slots := sl } ∧ R (.ok (.ret .notImplemented)) s) :=
  .of_wp fun prog w A R s h => by
    obtain ⟨hp, g, d, tk, os⟩ := s
    obtain ⟨hl, h⟩ := h
    wp_walk using wpAny_loadPart' hl, wpAny_load hl
    exact ⟨_, rfl, h⟩
section
variable {A : Around} {s : Shared}
theorem rcStrDict {l : Addr} {dd : Option Addr} {es : Array DictEntry} {n : Nat} {sl : Array (Option Value)} (b : Str) (u : Tok) (ho : s.heap.get? l = some { cls := .type "dict", dict := dd, data := .dict es n, slots := sl }) (hu : A.units < cLine) :
    RcAt A s (.str b u) (.ref l) false := fun prog w E Q h =>
  rc_eq_decline_or (k := false) (typeIs_str s b u) ⟨_, ho, rfl⟩ (by decide) PySem.F.sub_dict_str PySem.F.slot_str_eq PySem.F.slot_dict_eq_refl
    (fun _ hq => call_meets PySem.F.slot_str_eq (typeIs_str s b u) PySem.F.entry_str_eq (PySem.F.args_str_eq_2 _ _) (strNoDict l dd es n sl b u) ⟨ho, hq⟩)
    (fun _ hq => call_meets PySem.F.slot_dict_eq_refl ⟨_, ho, rfl⟩ PySem.F.entry_dict_eq (PySem.F.args_dict_eq_2 _ _) (dictNoStr l dd es n sl b u) ⟨ho, hq⟩)
    (fun _ hq => wpAny_of_eq (rfl : isSame (.str b u) (.ref l) = pure false) hq) (.inr hu) h
theorem eqStrDict {l : Addr} {dd : Option Addr} {es : Array DictEntry} {n : Nat} {sl : Array (Option Value)} (b : Str) (u : Tok) (ho : s.heap.get? l = some { cls := .type "dict", dict := dd, data := .dict es n, slots := sl }) (hu : A.units < cLine) :
    EqAt A s (.str b u) (.ref l) false := fun prog w E Q h => by
  unfold eqBool
  exact wpAny_holding (wpAny_ite_split (fun z => absurd (eq_of_beq z) nofun) fun _ => wpAny_bind (rcStrDict b u ho hu prog w E _ (wpAny_truthy_bool h)))
end
end Eh
namespace Eh
open PySem PySem.Spec PyProof.Rows L2
/-- what may stand on the left of `in` here: flat, or a list, a tuple, a dict -/
def Sorted5 (H : Hp) (x : V) : Prop := flatV x = true ∨ ∃ a, x = .ref a ∧ ((∃ xs, H a = some (.tup xs)) ∨ (∃ xs, H a = some (.lst xs)) ∨ ∃ kvs, H a = some (.dK kvs))
def rInS (K : PySem.W.Frag) : R2 := fun x y H Q => ∃ (p : Addr) (ws : List Str), y = .ref p ∧ SqT K H p (ws.map V.str) ∧ Sorted5 H x ∧ Q (.bl (inV x (ws.map V.str))) H
theorem flat_strs (ws : List Str) : (ws.map V.str).all flatV = true := by
  rw [List.all_eq_true]
  intro x hx
  obtain ⟨z, _, rfl⟩ := List.mem_map.mp hx
  rfl
theorem strs_only : ∀ {ws : List Str} {us : List Value}, Vals (ws.map V.str) us → ∀ u ∈ us, ∃ z t, u = .str z t
  | [], _, .nil, _, h => by cases h
  | z :: ws, _, .cons r t, u, h => by
    rcases List.mem_cons.mp h with rfl | h
    · obtain ⟨t, e⟩ := r
      exact ⟨z, t, e⟩
    · exact strs_only t u h
theorem inV_ref {a : Addr} (ws : List Str) : inV (.ref a) (ws.map V.str) = false := by
  unfold inV
  rw [List.any_map, List.any_eq_false]
  intro z _
  exact fun h => by cases h
theorem inS {X : Cx} {K : PySem.W.Frag} (hK : X.K = K) (hu : X.A.units + 1 < cLine) : OpR X (compareOp .In) (rInS K) := by
  subst hK
  intro pins s σ H x y v u Q I rx ry h
  obtain ⟨p, ws, rfl, hq, so, q⟩ := h
  rcases so with fl | ⟨a, rfl, so⟩
  · exact op_in_seq pins s σ H x (.ref p) v u Q I rx ry ⟨p, _, rfl, .inr hq, fl, flat_strs ws, q⟩
  · cases rx
    cases ry
    rw [inV_ref] at q
    obtain ⟨its, r, pl, hz⟩ := I.tuple hq
    have e0 : its.toArray.any (fun _ => false) = false := by simp
    refine SeqAt.in_tupleAt (fun _ => false) pl (fun w hw => ?_) ⟨.bl _, H, I, rfl, by rw [e0]; exact q⟩
    obtain ⟨z, t, rfl⟩ := strs_only r w (by simpa using hw)
    have hu1 : X.A.in1.units < cLine := hu
    rcases so with ⟨xs, h⟩ | ⟨xs, h⟩ | ⟨kvs, h⟩
    · obtain ⟨i2, r2, p2, _⟩ := I.tuple (SqT.of h)
      exact SeqAt.EqAt.str_tuple z t p2 hu1
    · obtain ⟨i2, r2, p2, _⟩ := I.list (SqL.of h)
      exact SeqAt.EqAt.str_list z t p2.isList hu1
    · obtain ⟨_, _, _, _, o, es, ep, h1, h2, h3, _⟩ := (show ObjOk X.prog X.w H s.heap a (.dK kvs) from I.hok a _ h)
      obtain ⟨oc, od, dt, sl⟩ := o
      have e1 : oc = .type "dict" := h2.1
      simp only at h3
      subst e1 h3
      exact eqStrDict z t h1 hu1
end Eh

set_option Elab.async false
set_option linter.all false
set_option maxRecDepth 100000
/-! promises of defs that are only asked where nothing is being shown (no list's repr runs around them) -/
namespace Eh
open PySem PySem.Spec PyProof.Rows L2
structure FnG (P : Program) (w : World) (K : PySem.W.Frag) (mg : Str → Option Value) (base : Heap) (k : Nat) (f : Addr) (fd : FuncData) (ps : List Str) (sp : Sp) : Prop where
  len : ∀ vs H Q E, sp vs H Q E → vs.length = ps.length
  run : ∀ (A : Around) (outer : List Env) (s : Shared) (H : Hp) (args : Args) (us : List Value) (vs : List V) (Q : VK) (E : XK), A.guards = some [] → Room k A → Env0 P w K mg base A outer s H →
    BindsTo s fd args (ps.zip us) → Vals vs us → sp vs H Q E → codeAny (model P w) A (.call (.ref f) args) (CR CX0 outer P w H s Q E) s
section
variable {P : Program} {w : World} {K : PySem.W.Frag} {mg : Str → Option Value} {base : Heap}
theorem funG {x qual : Str} {st : Stmt} {f : Addr} {fd : FuncData} {N ps : List Str} {k : Nat} {sp : Sp} (F : Fun K x qual st f fd) (S : FnScope N ps (defScope st)) (len : ∀ vs H Q E, sp vs H Q E → vs.length = ps.length)
    (body : ∀ (cdv : Value) (A : Around) (outer : List Env) (s : Shared) (H : Hp) (vs : List V) (Q : VK) (E : XK), (A.deeper (envOfC qual (defScope st) s.heap.objs.size f cdv)).guards = some [] →
      Room k (A.deeper (envOfC qual (defScope st) s.heap.objs.size f cdv)) → sp vs H Q E →
      ∃ t, PSs (cxOf CX0 P w K mg base N qual (defScope st) f cdv A outer s H E).nox (defBody st) t ∧ t { nx := fun _ H' => Q .non H', rt := Q } (start N vs) H) : FnG P w K mg base (k + 1) f fd ps sp where
  len := len
  run A outer s H args us vs Q E hg hr e0 hb r hsp := by
    obtain ⟨oc, od, kV, doc, pm, an, cdv, ct, osl, rfl, lk, hcd⟩ := F.ex
    have old := fun b o e => (e0.bs b o e).1
    have KX := e0.mod.kin.keeps old
    have ok := fun (y : Str × Value) (hy : y ∈ ps.zip us) => S.par y.1 (List.of_mem_zip (a := y.1) (b := y.2) hy).1
    refine codeAny_call_function hr.depth (KX _ _ lk) rfl S.co S.gen rfl (PySem.W.codeRec_of KX hcd) (hb _ _ _ _ ?_)
    refine wpAny_newFunctionEnv_cells S.kind (fun y hy => (ok y hy).imp id fun q => ⟨q, PySem.W.cellsFrom_some _ _ _ (.inl q)⟩) fun env he s1 x => ?_
    cases he
    obtain ⟨t, ht, hq⟩ := body cdv A outer s H vs Q E hg (hr.deeper _) hsp
    refine ⟨(e0.mod.nolimit.keeps old).keeps x.toInCall.keep, codeAny_func ?_⟩
    have I := inv_start (CX := CX0) (E := E) S hr.hd e0 (len _ _ _ _ hsp) r x
    refine wpAny_mono (ht.nox.run [] s1 (start N vs) H _ I hq) (fun fl s' hs => ?_) fun _ _ h => h
    have fin {σ' : L2.St} {H' : Hp} {v : V} {u : Value} (J : Inv (cxOf CX0 P w K mg base N qual (defScope st) f cdv A outer s H E) [] σ' H' s') (rv : RelV v u) (q : Q v H') : CE outer P w H s Q u s' := ⟨v, H', J.os, J.bare, J.base, J.hok, rv, q⟩
    match fl, hs with
    | .ret u, ⟨v, _, _, J, rv, q⟩ => exact fin J rv q
    | .next, ⟨_, _, J, q⟩ => exact fin (v := V.non) J rfl q
    | .brk, ⟨_, _, _, q⟩ => exact q.elim
    | .cont, ⟨_, _, _, q⟩ => exact q.elim
end
section
variable {X : Cx} {k : Nat} {f : Addr} {fd : FuncData} {ps : List Str} {sp : Sp} {x : Str} {p pos : Pos} {e : Expr} {es : List Expr} {t : TA}
theorem pe_callG (F : FnG X.prog X.w X.K X.mg X.base k f fd ps sp) (hgd : X.A.guards = some []) (hr : Room k X.A) (hg : Gl X x) (hm : X.mg x = some (.ref f)) (hk : PySem.W.keepIn X.K (.ref f) = true) (hb : Binds X.K fd ps []) (ha : PA X (e :: es) t)
    (hdb : (x == ("__debug__" : Str)) = false := by decide) (he : starEach (e :: es) X.env = (false, eval e X.env) :: starEach es X.env := by rfl)
    (hpl : (backTo pos (starEach es X.env)).any (·.1) = false := by rfl) : PE X (.Call (.Name x p) (e :: es) [] pos) (fun σ H Q => t σ H fun vs H1 => sp vs H1 Q E0) where
  run pins s σ H Q I h := by
    refine wpAny_Call_Name_kw (ld_glob I hg hm (PySem.W.callWith_K (h₀ := X.base) I.ok.mod.kin hk (thn (ha.run pos pins s σ H _ I h) fun us s1 hh => ?_) he hpl) hdb)
    obtain ⟨vs, H1, I1, r, q⟩ := hh
    refine ⟨I1.kIn, wpAny_call (codeAny_mono (F.run X.A X.stack s1 H1 ⟨us, []⟩ us vs Q E0 hgd hr I1.env0 ?_ r q) fun rr s' hq => ?_)⟩
    · have z := hb s1 us I1.kIn
      rw [List.append_nil] at z
      exact z (by rw [← r.length]; exact F.len _ _ _ _ q)
    · match rr, hq with
      | .ok (.ret u), hq => exact I1.after hq
      | .error _, hq => exact (show False from hq).elim
      | .ok .next, hq => exact (show False from hq).elim
      | .ok .brk, hq => exact (show False from hq).elim
      | .ok .cont, hq => exact (show False from hq).elim
end
/-! an own error is what its class names -/
theorem exmSelf {K : PySem.W.Frag} {C : Addr} (b : PySem.W.subIn K (.ref C) (.type "BaseException") = some true) (i : PySem.W.isClsIn K C = true)
    (t : PySem.W.typeIn K (.ref C) = some (.type "type")) (s : PySem.W.subIn K (.ref C) (.ref C) = some true) : PySem.W.exmOne K (.ref C) (.ref C) = some true := by
  unfold PySem.W.exmOne
  rw [b, if_pos (by decide)]
  have j : ((PySem.W.clsIn K C).isSome && PySem.W.typeIn K (.ref C) == some (.type "type")) = true := by
    rw [show (PySem.W.clsIn K C).isSome = true from i, t]
    decide
  exact (if_pos j).trans s
/-! repr of data -/
section
variable {X : Cx} {K : PySem.W.Frag}
def rRepr (K : PySem.W.Frag) : List V → Hp → VK → Prop := fun xs H Q => ∃ (x : V) (d : PyData), xs = [x] ∧ (∃ a, x = .ref a) ∧ Dp K H x d ∧ d.showable = true ∧ d.hasDict = false ∧ d.depth < 60 ∧ d.shown.length ≤ sizeLine ∧ Q (.str d.shown) H
theorem reprD (h : X.K = K) (hgd : X.A.guards = some []) (hu : X.A.units + 64 < cLine) : CallR X (.builtin "repr") (rRepr K) := by
  subst h
  intro pins s σ H xs us Q I r h
  obtain ⟨x, d, rfl, ⟨a, rfl⟩, hd, hs, hnd, hdp, hsz, q⟩ := h
  cases r with
  | cons r1 r2 =>
    cases r2
    cases r1
    obtain ⟨as, rd⟩ := Dp.reads I d (.ref a) (.ref a) hd rfl
    refine repr_of_reads' rd hs (fun z => by rw [hnd] at z; cases z) hgd (by omega) (fun _ _ e => e) (fun h' u tk kp => ?_) (hsz := hsz)
    exact ⟨.str d.shown, H, I.kept (t' := tk) kp, ⟨u, rfl⟩, q⟩
end
/-! the head: the script is known to its object, all else is below -/
/-- nothing stands in H but, perhaps, the script at a -/
structure Bare1 (K : PySem.W.Frag) (a : Addr) (ob : Obj) (xs : List V) (H : Hp) : Prop where
  none : ∀ b, b ≠ a → H b = Option.none
  at_ : H a = Option.none ∨ (H a = some (.frz ob (.lst xs)) ∧ K.lookup a = Option.none)
theorem Bare1.hid {K : PySem.W.Frag} {a b : Addr} {ob o : Obj} {xs : List V} {H : Hp} {h : Heap} (B : Bare1 K a ob xs H) (e : h.get? b = some o) (n : b ≠ a ∨ H a = Option.none) : (hidT h H).get? b = some o := by
  refine hidT_get e ?_
  by_cases z : b = a
  · rcases n with n | n
    · exact absurd z n
    · rw [z]; exact n
  · exact B.none b z
section
variable {P : Program} {w : World} {K : PySem.W.Frag} {mg mb : Str → Option Value} {k : Nat} {fa a : Addr} {fd : FuncData} {x : Str} {sp : Sp} {s₁ : Shared} {vs : List Value} {ns : List Int} {H : Hp}
theorem law_runG (B : Bare1 K a { cls := .type "list", data := .seq vs.toArray } (ns.map V.int) H) (ok : HOk P w H s₁.heap) (hS : SqL K H a (ns.map V.int))
    (KX : K.In s₁.heap) (hns : s₁.heap.Ns mainGlobals mg) (hb : s₁.heap.Ns builtinsNs mb) (hbb : ∀ x : Str, x ≠ "__name__" → mb x = bootBuiltins x) (hlim : s₁.heap.NoLimit) (hg : s₁.gens = #[])
    (ha : s₁.heap.get? a = some { cls := .type "list", data := .seq vs.toArray }) (hr : Room k callerA)
    (F : ∀ base : Heap, K.In base → base.Ns mainGlobals mg → FnG P w K mg base k fa fd [x] sp) (hbind : ∀ (s : Shared) (u : Value), BindsTo s fd ⟨[u], []⟩ [(x, u)])
    (hsp : sp [.ref a] H (fun v _ => v = .bl true) fun _ _ _ => False) :
    codeAny (model P w) callerA (.call (.ref fa) ⟨[.ref a], []⟩) (fun r s' => r = .ok (.ret (.bool true)) ∧ OldK s₁.heap s'.heap ∧ s'.os = s₁.os ∧ AllBare s'.gens) s₁ := by
  have names {b : Addr} {m : Str → Option Value} (hm : s₁.heap.Ns b m) : (hidT s₁.heap H).Ns b m := by
    obtain ⟨o, es, ep, e, d, r⟩ := hm
    refine ⟨o, es, ep, B.hid e (.inl fun z => ?_), d, r⟩
    rw [z, ha] at e
    cases e
    cases d
  have KB : K.In (hidT s₁.heap H) := fun b o e => B.hid (KX b o e) (by
    by_cases z : b = a
    · rcases B.at_ with q | ⟨_, q⟩
      · exact .inr q
      · rw [z, q] at e; cases e
    · exact .inl z)
  obtain ⟨mc, l1, l2⟩ := hlim
  have E : Env0 P w K mg (hidT s₁.heap H) callerA [] s₁ H := {
    frames := rfl
    mod := ⟨KB, names hns, ⟨mb, names hb, hbb⟩, ⟨mc, names l1, l2⟩⟩
    bs := fun b o e => of_hidT e
    bsz := Nat.le_of_eq (hidT_size _ _)
    funs := trivial
    frf := fun b hb => by cases hb
    hok := ok
    bare := .of_eq hg }
  refine codeAny_mono ((F _ KB (names hns)).run callerA [] s₁ H ⟨[.ref a], []⟩ [.ref a] [.ref a] _ _ rfl hr E (hbind s₁ (.ref a)) (.cons rfl .nil) hsp) fun r s' q => ?_
  match r, q with
  | .error _, q => exact (show False from q).elim
  | .ok .next, q => exact (show False from q).elim
  | .ok .brk, q => exact (show False from q).elim
  | .ok .cont, q => exact (show False from q).elim
  | .ok (.ret u), q =>
    obtain ⟨v, H', os, bare, un, ok', rv, ev⟩ := q
    cases (show v = .bl true from ev)
    cases (show u = Value.bool true from rv)
    refine ⟨rfl, OldK.of_keep fun b o e => ?_, os, bare⟩
    have free : H b = Option.none → s'.heap.get? b = some o := fun n => un.keep b o e n (fun z => by cases z) (fun z => by cases z)
    by_cases z : b = a
    · rcases B.at_ with q | ⟨q, _⟩
      · exact free (by rw [z]; exact q)
      · have e2 := (ok' _ _ (un.frzs _ _ _ q)).1
        rw [z, ha] at e
        cases e
        rw [z]
        exact e2
    · exact free (B.none b z)
theorem law_callG (KX : K.In s₁.heap) (hns : s₁.heap.Ns mainGlobals mg) (hb : s₁.heap.Ns builtinsNs mb) (hbb : ∀ x : Str, x ≠ "__name__" → mb x = bootBuiltins x) (hlim : s₁.heap.NoLimit) (hg : s₁.gens = #[])
    (ha : s₁.heap.get? a = some { cls := .type "list", data := .seq vs.toArray }) (hi : IntsAre vs ns) (hl : ns.length ≤ sizeLine) (hr : Room k callerA)
    (F : ∀ base : Heap, K.In base → base.Ns mainGlobals mg → FnG P w K mg base k fa fd [x] sp) (hbind : ∀ (s : Shared) (u : Value), BindsTo s fd ⟨[u], []⟩ [(x, u)])
    (hsp : ∀ H : Hp, SqL K H a (ns.map V.int) → sp [.ref a] H (fun v _ => v = .bl true) fun _ _ _ => False) :
    codeAny (model P w) callerA (.call (.ref fa) ⟨[.ref a], []⟩) (fun r s' => r = .ok (.ret (.bool true)) ∧ OldK s₁.heap s'.heap ∧ s'.os = s₁.os ∧ AllBare s'.gens) s₁ := by
  have rv := vals_ints hi
  have hlv := rv.length
  rw [List.length_map] at hlv
  rcases hk : K.lookup a with _ | o
  · -- the script is tracked, frozen
    have hS : SqL K (fun b => if b = a then some (.frz { cls := .type "list", data := .seq vs.toArray } (.lst (ns.map V.int))) else Option.none) a (ns.map V.int) := .inl (.inr ⟨_, if_pos rfl⟩)
    refine law_runG ⟨fun b z => if_neg z, .inr ⟨if_pos rfl, hk⟩⟩ (fun b u e => ?_) hS KX hns hb hbb hlim hg ha hr F hbind (hsp _ hS)
    by_cases z : b = a
    · subst z
      rw [if_pos rfl] at e
      cases e
      exact ⟨ha, by rw [List.length_map]; exact hl, vs, _, rv, ha⟩
    · rw [if_neg z] at e
      cases e
  · -- it is the module's own
    have e := KX a o hk
    rw [ha] at e
    cases e
    have hS : SqL K (fun _ => Option.none) a (ns.map V.int) := .inr ⟨_, vs.toArray, _, hk, rfl, rfl, rfl, by rw [List.size_toArray, ← hlv]; exact hl, by rw [List.toList_toArray]; exact rv⟩
    exact law_runG ⟨fun _ _ => rfl, .inl rfl⟩ (fun b u e => by cases e) hS KX hns hb hbb hlim hg ha hr F hbind (hsp _ hS)
end
theorem walk_ofG {l : PySem.W.OpenLaw} {n k : Nat} {q : Program} {loose : List Str} {XP : (Str → Option Value) → Heap → Prop} {YP : World → Heap → Prop} {d : DefRec} {K : Params → PySem.W.Frag} {sp : World → Sp} {x : Str}
    (hn : l.most = some n) (hn2 : n ≤ sizeLine) (hdf : d.params.defaults = []) (hr : Room k callerA) (hY : ∀ (w : World) (h : Heap), YP w h → (K w.params).In h)
    (F : ∀ (w : World) (mg : Str → Option Value) (fa : Addr) (h : Heap), (K w.params).In h → h.Ns mainGlobals mg → mg d.name = some (.ref fa) →
      ∃ fd : FuncData, (∀ (s : Shared) (u : Value), BindsTo s fd ⟨[u], []⟩ [(x, u)]) ∧ ∀ base : Heap, (K w.params).In base → base.Ns mainGlobals mg → FnG l.prog w (K w.params) mg base k fa fd [x] (sp w))
    (hsp : ∀ (w : World) (H : Hp) (a : Addr) (ns : List Int), ns.length ≤ n → SqL (K w.params) H a (ns.map V.int) → sp w [.ref a] H (fun v _ => v = .bl true) fun _ _ _ => False) :
    PySem.W.WalkO q loose XP YP l.row.toRowW d [] (fun f vs => PySem.call f vs) :=
  Att.attach_call hn hdf fun w s₀ s₁ mg mb fa o pm cd doc a vs ns G Y ho hd hcd hmg hobj hints hlen hg =>
    match F w mg fa _ (hY w _ Y) G.T.g hmg with
    | ⟨_, hb, hF⟩ => law_callG (hY w _ Y) G.T.g G.T.b G.T.builtins G.T.nolimit hg hobj hints (Nat.le_trans hlen hn2) hr hF hb fun H hS => hsp w H a ns hlen hS
end Eh

set_option Elab.async false
set_option linter.all false
set_option maxRecDepth 100000
set_option maxHeartbeats 4000000
/-! own errors whose __init__ says super().__init__(text) and keeps a field -/
namespace Eh
open PySem PySem.Spec PyProof.Rows L2
/-- what makes an instance: the __new__ of a builtin class at or above the one below -/
def BaseN (newId : String) (bmB : List Value) : Prop := ∃ (Bn : String) (i : String) (bn : List Value), ExcBaseFacts Bn newId i bn ∧ bmB.contains (.type Bn) = true ∧ bmB.contains (.type "AttributeError") = false ∧ bmB.contains (.type "NameError") = false
/-- its __init__ -/
structure BaseI (B initId : String) : Prop where
  slot : Slot B "__init__" initId
  entry : entryFor table initId = some Builtin.«BaseException.__init__»
  kind : builtinKind initId = some .slot
  row : Manifest.signature? initId = some ⟨.positional, "*", B, .self, [⟨"args", .varPos, false⟩]⟩
  star : (B != "*") = true
/-- the builtin class below an own error, with what is known of its rules -/
structure BaseF (B newId initId : String) (bmB : List Value) : Prop where
  N : BaseN newId bmB
  I : BaseI B initId
  KX : PySem.W.KxsFacts B initId
  SF : StoreFacts B bmB "object.__setattr__" "object"
theorem base_of {B newId initId : String} {bmB : List Value} (F : ExcBaseFacts B newId initId bmB) (k : PySem.W.KxsFacts B initId) (s : StoreFacts B bmB "object.__setattr__" "object") : BaseF B newId initId bmB :=
  ⟨⟨B, initId, bmB, F, F.hasB, F.noAttr, F.noName⟩, ⟨F.init, F.initEntry, F.initKind, F.initRow, F.noStar⟩, k, s⟩
abbrev veB : List Value := [.type "ValueError", .type "Exception", .type "BaseException", .type "object"]
abbrev reB : List Value := [.type "RuntimeError", .type "Exception", .type "BaseException", .type "object"]
theorem baseVE : BaseF "ValueError" "ValueError.__new__" "ValueError.__init__" veB := base_of PySem.F.excBase_ValueError PySem.W.kxs_ValueError PySem.F.store_ValueError
theorem baseRE : BaseF "RuntimeError" "RuntimeError.__new__" "RuntimeError.__init__" reB := base_of PySem.F.excBase_RuntimeError PySem.W.kxs_RuntimeError PySem.F.store_RuntimeError
/-- what the written part says of such a class -/
structure OexB (K : PySem.W.Frag) (C : Addr) (B newId initId : String) (bmB : List Value) : Prop where
  q : PySem.W.excInitIn K C bmB newId = true
  ov : PySem.W.excOver K C bmB = true
  hd : PySem.W.hasDictIn K C = true
  sa : PySem.W.findIn K (.ref C) "__setattr__" = some (some (.builtin "object.__setattr__"))
  exC : PySem.W.subIn K (.ref C) (.type "BaseException") = some true
  bC : PySem.W.subIn K (.ref C) (.type B) = some true
  tyC : PySem.W.typeIn K (.ref C) = some (.type "type")
  kC : PySem.W.keepIn K (.ref C) = true
  tp : PySem.W.nsIn K cStatics "thirdparty.any" = some none
  sup : PySem.W.ks_superIn K C C "__init__" = some (some (.builtin initId))
  sub : PySem.W.mroIn K C (.ref C) = some true
/-! ### the first field -/
section
open PySem.W
variable {prog : Program} {w : World} {A : Around} {E : Value → Shared → Prop} {h : Heap} {g : Array GenState} {d : PySem.Drawn} {t : Nat} {os : OsState} {B i newId : String} {bmB : List Value} {K : Frag} {C : Addr}
theorem store_first {name : Str} {tk : Tok} {v : Value} {x t0 : Addr} {R : Result → Shared → Prop} (SF : StoreFacts B bmB "object.__setattr__" "object") (X : K.In h) (hx : h.get? x = some (excObj C t0 none .none)) (ov : excOver K C bmB = true) (hdi : hasDictIn K C = true) (ht : takerIn K C name = some none)
    (hq : ∀ h' tk' dx, (∀ b o, b ≠ x → h.get? b = some o → h'.get? b = some o) → h.objs.size ≤ dx → dx ≠ x → h'.get? x = some (excObj C t0 (some dx) .none) → h'.Ns1 dx (fun y => if y = name then some v else none) → R (.ok (.ret .none)) ⟨h', g, d, tk', os⟩) :
    codeAny (model prog w) A (.call (.builtin "object.__setattr__") ⟨[.ref x, .str name tk, v], []⟩) R ⟨h, g, d, t, os⟩ := by
  refine osa_openX (od := none) SF X ⟨hx, rfl, rfl, trivial⟩ ov ht fun b => ?_
  obtain ⟨cd, hc, hcd⟩ := any_some hdi
  have lt : x < h.objs.size := Heap.lt_size hx
  refine wpAny_bind (wpAny_pure (wpAny_bind (instanceDict_exc hx (looks_clsIn X hc) hcd ?_)))
  have at1 : ∀ b o, b ≠ x → h.get? b = some o → ((h.push (dictOf [] 0)).update x fun o => { o with dict := some h.objs.size }).get? b = some o := fun b o hb e => (Heap.get?_update_ne _ _ _ _ hb).trans (Heap.get?_push_of_some _ e)
  have atx : ((h.push (dictOf [] 0)).update x fun o => { o with dict := some h.objs.size }).get? x = some (excObj C t0 (some h.objs.size) .none) := Heap.get?_update_self _ (Heap.get?_push_of_some _ hx) rfl
  have atd : ((h.push (dictOf [] 0)).update x fun o => { o with dict := some h.objs.size }).get? h.objs.size = some (dictOf [] 0) := (Heap.get?_update_ne _ _ _ _ (Nat.ne_of_gt lt)).trans (Heap.get?_push_at rfl rfl)
  generalize ((h.push (dictOf [] 0)).update x fun o => { o with dict := some h.objs.size }) = h1 at at1 atx atd
  refine HandSPX.store_in_new ⟨_, #[], _, atd, rfl, fun e he => absurd he (by simp), fun _ => rfl⟩ fun h' tk' hn hs => ?_
  exact hq h' tk' h.objs.size (fun b o hb e => (hs.2 b (Nat.ne_of_lt (Heap.lt_size e))).trans (at1 b o hb e)) (Nat.le_refl _) (Nat.ne_of_gt lt) ((hs.2 x (Nat.ne_of_lt lt)).trans atx) hn
theorem bound_init {M : Model} {nm q : Str} {N e : Addr} {oe : Obj} {bs bm : List Value} {hdct : Bool} {sn : List Str} {sub : List Value} {ab : Bool} {col : Option Bool} {dd : Option Addr} {k0 k1 k2 k3 k5 : Option Value} {rest : List Value} {Q : Unit → Shared → Prop} (F : BaseI B i)
    (hC : h.get? C = some (excClassObj nm q C N bs bm hdct sn sub ab col dd k0 k1 k2 k3 k5 newId)) (he : h.get? e = some oe) (hcls : oe.cls = .ref C) (fin : Q () ⟨h, g, d, t, os⟩) : wpAny M A (checkBoundCall i ⟨.ref e :: rest, []⟩) Q E ⟨h, g, d, t, os⟩ := by
  have star := F.star
  simp only [checkBoundCall, F.kind, F.row]
  repeat (first
    | (with_reducible refine wpAny_loadPart_at he ?_; rw [hcls])
    | with_reducible refine wpAny_loadPart_at hC ?_
    | wp_step)
  have ok : ∀ (a b : String) (n : Nat), Bind.check ⟨.positional, "*", B, .self, [⟨"args", .varPos, false⟩]⟩ a b n (List.map (fun x => x.fst) ({ pos := Value.ref e :: rest } : Args).kw) = pure () := fun a b n => check_star_args _ _ _ _ _ _
  exact wpAny_onRaise (by rw [ok]; exact wpAny_pure fin)
/-- the wrapper called: the error's args are laid anew -/
theorem wrap_call {u x t0 : Addr} {rest : List Value} {Q : Value → Shared → Prop} (FB : BaseI B i) (X : K.In h) (q : excInitIn K C bmB newId = true) (hu : h.get? u = some (kxs_mw i x)) (hx : h.get? x = some (excObj C t0 none .none)) (hz : rest.length ≤ sizeLine)
    (hq : ∀ h', (∀ b o, b ≠ x → h.get? b = some o → h'.get? b = some o) → h'.get? x = some (excObj C h.objs.size none .none) → Q .none ⟨h', g, d, t, os⟩) :
    wpAny (model prog w) A (call (.ref u) rest) Q E ⟨h, g, d, t, os⟩ := by
  obtain ⟨nm, N', qn, bs, bm, hdct, sn, sub, ab, col, dd, k0, k1, k2, k3, k5, hC, hT⟩ := excInit_of X q
  refine wpAny_call (codeAny_of_tree ?_)
  show wpAny _ A.in1 (callAny (.ref u) ⟨rest, []⟩) _ _ _
  have mw : ((Value.type "method-wrapper" == Value.type "method" || Value.type "method-wrapper" == Value.type "builtin_function_or_method") || Value.type "method-wrapper" == Value.type "method-wrapper") = true := by decide
  simp only [callAny]
  refine wpAny_bind (wpAny_load hu ?_)
  simp only [kxs_mw, mw, if_true]
  refine KFB.if_so (by decide) ?_
  refine wpAny_bind (bound_init FB hC hx rfl (wpAny_bind (wpAny_pure (wpAny_pure ?_)))) <;> try skip
  all_goals first
    | exact ⟨plainId_quiet FB.slot.plain _, codeAny_builtin FB.entry (exc_init_tree (cls := .ref C) (t0 := t0) (dv := none) (c2 := .none) (c3 := .none) (b4 := .bool false) hx hz fun h' k e _ => hq h' k e)⟩
    | skip
end
/-! ### an instance made: the __new__ of a builtin class, then the own __init__ -/
section
variable {M : Model} {prog : Program} {w : World} {A : Around} {E : Value → Shared → Prop} {R : Result → Shared → Prop} {h : Heap} {g : Array GenState} {d : PySem.Drawn} {t : Nat} {os : OsState} {nm q : Str} {C N : Addr} {bs bm bmB rest : List Value} {hdct : Bool} {sn : List Str} {sub : List Value} {ab : Bool} {col : Option Bool} {dd : Option Addr} {k0 k1 k2 k3 k5 : Option Value} {newId : String}
theorem above {X : String} {b : Bool} (hT : ∀ X : String, bm.contains (.type X) = bmB.contains (.type X)) (e : bmB.contains (.type X) = b) : (Value.ref C :: bm).contains (.type X) = b := by
  rw [List.contains_cons, hT, e]
  exact Bool.false_or b
theorem eh_checkNew (F : BaseN newId bmB) (hT : ∀ X : String, bm.contains (.type X) = bmB.contains (.type X)) {Q : Unit → Shared → Prop} (hC : h.get? C = some (excClassObj nm q C N bs bm hdct sn sub ab col dd k0 k1 k2 k3 k5 newId)) (fin : Q () ⟨h, g, d, t, os⟩) :
    wpAny M A (checkBuiltinCall newId ⟨.ref C :: rest, []⟩) Q E ⟨h, g, d, t, os⟩ := by
  obtain ⟨Bn, i, bn, F, hB, -, -⟩ := F
  have has := above (C := C) hT hB
  have star := F.noStar
  simp only [checkBuiltinCall, F.newKind, F.newSplit, F.newRow]
  repeat (first
    | refine wpAny_loadPart_at hC ?_
    | (refine wpAny_isSubtype_exc hC ?_; rw [has])
    | refine wpAny_staticBase_exc hC ?_
    | refine wpAny_madeBy_exc hC ?_
    | simp only [bne_self_eq_false, Bool.false_eq_true, if_false]
    | wp_step)
  exact fin
theorem eh_new (F : BaseN newId bmB) (hT : ∀ X : String, bm.contains (.type X) = bmB.contains (.type X)) (hC : h.get? C = some (excClassObj nm q C N bs bm hdct sn sub ab col dd k0 k1 k2 k3 k5 newId)) (few : rest.length ≤ sizeLine)
    (fin : R (.ok (.ret (.ref (h.objs.size + 1)))) ⟨(h.push (PySem.W.kdv_tup rest)).push (PySem.HandSPX.excO C h.objs.size), g, d, t, os⟩) : codeAny (model prog w) A (.builtin newId ⟨.ref C :: rest, []⟩) R ⟨h, g, d, t, os⟩ := by
  obtain ⟨Bn, i, bn, F, hB, nA, nN⟩ := F
  have ends := F.ends
  have c1 := above (C := C) hT hB
  have c2 := above (C := C) hT nA
  have c3 := above (C := C) hT nN
  have hrest := few
  refine codeAny_builtinAt F.entry ?_
  unfold Builtin.«BaseException.__new__»
  refine PySem.wpAt_bind ?_
  show PySem.wpAt _ _ _ (stack >>= _) _ _ _
  refine PySem.wpAt_bind (PySem.wpAt_stack fun p below => PySem.wpAt_of_wpAny ?_)
  wp_walk
  refine PySem.wpAt_of_wpAny ?_
  rw [F.owner]
  repeat (first
    | with_reducible refine wpAny_madeHere_exc F.canon hC ?_
    | with_reducible refine wpAny_loadPart_at hC ?_
    | (with_reducible refine wpAny_isSubtype_exc hC ?_; first | rw [c1] | rw [c2] | rw [c3])
    | wp_step)
  show R _ _
  rw [Heap.size_push]
  exact fin
theorem eh_typeCall (F : BaseN newId bmB) (hT : ∀ X : String, bm.contains (.type X) = bmB.contains (.type X)) {fI : Addr} {Q : Fin → Shared → Prop} (hC : h.get? C = some (excClassObj nm q C N bs bm hdct sn sub ab col dd k0 k1 k2 k3 k5 newId))
    (hi : PySem.W.Looks (model prog w) h (typeLookup (.ref C) "__init__") (some (.ref fI))) (hb : ∀ self, PySem.W.Looks (model prog w) h (bindSpecial (.ref fI) self) (.ref fI, [self])) (few : rest.length ≤ sizeLine)
    (fin : codeAny (model prog w) A (.call (.ref fI) ⟨.ref (h.objs.size + 1) :: rest, []⟩) (fun r s' => match r with | .ok (.ret v) => v = .none ∧ Q (.done (.ret (.ref (h.objs.size + 1)))) s' | .ok _ => False | .error e => E e s') ⟨(h.push (PySem.W.kdv_tup rest)).push (PySem.HandSPX.excO C h.objs.size), g, d, t, os⟩) :
    wpAny (model prog w) A (Builtin.«type.__call__» ⟨.ref C :: rest, []⟩) Q E ⟨h, g, d, t, os⟩ := by
  have quiet : newId.startsWith "lifetime." = false := by
    obtain ⟨_, _, _, F, _⟩ := F
    exact F.quiet
  repeat (first
    | with_reducible refine wpAny_loadPart_at hC ?_
    | with_reducible refine wpAny_madeBy_exc hC ?_
    | wp_step)
  refine codeAny_call_builtin_code (Code.quiet_builtin _ quiet) (eh_checkNew F hT hC (eh_new F hT hC few ?_))
  show wpAny _ _ _ _ _ _
  have old : ∀ b o, h.get? b = some o → ((h.push (PySem.W.kdv_tup rest)).push (PySem.HandSPX.excO C h.objs.size)).get? b = some o := fun b o e => Heap.get?_push_of_some _ (Heap.get?_push_of_some _ e)
  have now : ((h.push (PySem.W.kdv_tup rest)).push (PySem.HandSPX.excO C h.objs.size)).get? (h.objs.size + 1) = some (PySem.HandSPX.excO C h.objs.size) := by heap_get
  have C1 := old _ _ hC
  have self_ : (Value.ref C :: bm).contains (.ref C) = true := by simp
  have i1 := hi.keeps old
  have b1 := (hb (.ref (h.objs.size + 1))).keeps old
  unfold isInstance
  repeat (first
    | with_reducible refine wpAny_loadPart_at now ?_
    | (with_reducible refine wpAny_isSubtype_exc C1 ?_; rw [self_])
    | wp_step)
  show wpAny _ _ (typeLookup (.ref C) _) _ _ _
  refine i1.at (wpAny_holding (wpAny_bind (b1.at (wpAny_bind (wpAny_call (codeAny_mono fin fun r s' z => ?_))))))
  rcases r with e | (v | _ | _ | _) <;> first | exact z | exact z.elim | skip
  obtain ⟨rfl, z⟩ := z
  first
    | exact wpAny_pure (wpAny_pure z)
    | (wp_walk; exact z)
theorem eh_call (F : BaseN newId bmB) (hT : ∀ X : String, bm.contains (.type X) = bmB.contains (.type X)) {fI : Addr} (hC : h.get? C = some (excClassObj nm q C N bs bm hdct sn sub ab col dd k0 k1 k2 k3 k5 newId))
    (hi : PySem.W.Looks (model prog w) h (typeLookup (.ref C) "__init__") (some (.ref fI))) (hb : ∀ self, PySem.W.Looks (model prog w) h (bindSpecial (.ref fI) self) (.ref fI, [self])) (few : rest.length ≤ sizeLine)
    (fin : codeAny (model prog w) (A.under (.builtin "type.__call__" ⟨.ref C :: rest, []⟩)) (.call (.ref fI) ⟨.ref (h.objs.size + 1) :: rest, []⟩) (PySem.W.InitBack (h.objs.size + 1) R) ⟨(h.push (PySem.W.kdv_tup rest)).push (PySem.HandSPX.excO C h.objs.size), g, d, t, os⟩) :
    codeAny (model prog w) A (.call (.ref C) ⟨rest, []⟩) R ⟨h, g, d, t, os⟩ := by
  have f1 := tc_lookup
  have f2 := tc_bind (.ref C)
  have ty : (⟨h, g, d, t, os⟩ : Shared).TypeIs (.ref C) "type" := ⟨_, hC, rfl⟩
  refine codeAny_of_tree ?_
  show wpAny _ _ (callAny (.ref C) _) _ _ _
  repeat (any_goals (first
    | assumption
    | with_reducible refine wpAny_loadPart_at hC ?_
    | wp_step))
  refine ⟨rfl, codeAny_call_builtin_at (Code.quiet_builtin _ (by decide +kernel)) entry_typeCall (wpAny_check_type_call_sub hC (eh_typeCall F hT hC hi hb few (codeAny_mono fin fun r s' z => ?_)))⟩
  rcases r with e | (v | _ | _ | _) <;> exact z
end
end Eh

set_option Elab.async false
set_option linter.all false
set_option maxRecDepth 100000
set_option maxHeartbeats 4000000
namespace Eh
open PySem PySem.Spec PyProof.Rows L2
open NdefX (NF NScope CellsAt startF envF ncx inv_startN)
/-! ### self.f = e, the first field of an error that is being made -/
section
variable {X : Cx} {pins : List (Addr × Obj)} {σ : L2.St} {H : Hp} {s : Shared} {a C : Addr} {f : Str} {y : V} {u : Value} {Q : Unit → Shared → Prop} {E : Value → Shared → Prop} {A : Around} {B newId initId : String} {bmB : List Value}
theorem keep_field (BF : BaseF B newId initId bmB) (T : OexB X.K C B newId initId bmB) (I : Inv X pins σ H s) (e : H a = some (exo a C none)) (hno : PySem.W.takerIn X.K C f = some none) (ry : RelV y u)
    (c : ∀ dx s', H dx = none → dx ≠ a → Inv X pins σ (upd (upd H dx (exd dx [(f, y)])) a (exo a C (some dx))) s' → Q () s') : wpAny (model X.prog X.w) A (setAttr (.ref a) f u) Q E s := by
  obtain ⟨t1, ho⟩ := exo_at I.hok e
  obtain ⟨hp, g, d, t, os⟩ := s
  refine PySem.W.set_plain I.kIn (ox := PySem.W.excObj C t1 none .none) (od := none) ⟨ho, rfl, rfl, trivial⟩ T.sa ?_
  refine store_first BF.SF I.kIn ho T.ov T.hd hno fun h' tk' dx k dn dne hx hn => ?_
  have hnd : H dx = none := I.hok.fresh dn
  have old : ((h'.update a fun _ => PySem.W.excObj C t1 none .none)).get? a = some (PySem.W.excObj C t1 none .none) := Heap.get?_update_self _ hx rfl
  have oth : ∀ b, b ≠ a → ((h'.update a fun _ => PySem.W.excObj C t1 none .none)).get? b = h'.get? b := fun b hb => Heap.get?_update_ne _ _ _ _ hb
  generalize (h'.update a fun _ => PySem.W.excObj C t1 none .none) = hm at old oth
  have hnm : hm.Ns1 dx (fun z => if z = f then some u else none) := hn.at fun o q => (oth dx dne).trans q
  have I1 : Inv X pins σ (upd H dx (exd dx [(f, y)])) ⟨hm, g, d, tk', os⟩ := I.laid (t' := tk') (fun b o q => by
      by_cases hb : b = a
      · subst hb
        have q2 : hp.get? b = some o := q
        rw [ho] at q2
        rw [old, ← Option.some.inj q2]
      · exact (oth b hb).trans (k b o hb q)) dn (exd_ok hnm (relO_put (fs := []) ry fun _ => True.intro))
  have e1 : (upd H dx (exd dx [(f, y)])) a = some (exo a C none) := (upd_ne (Ne.symm dne)).trans e
  have I2 := I1.write (t' := tk') (h' := h') (x := a) (e := a) (o := exo a C (some dx)) (by rw [e1]; exact True.intro) (.inl rfl) (fun b o hb q => (oth b hb).symm.trans q) ⟨_, hx⟩ (exo_ok hx)
  exact c dx _ hnd dne I2
end
section
variable {X : Cx} {o e : Expr} {es : List Expr} {to te : TE} {ta : TA} {f : Str} {p p' p1 p2 pos : Pos} {C : Addr} {B newId initId : String} {bmB : List Value}
def tKeep (C : Addr) (f : Str) (to te : TE) : TS := fun D σ H => te σ H fun y H1 => to σ H1 fun x H2 => ∃ a : Addr, x = .ref a ∧ H2 a = some (exo a C none) ∧ ∀ dx, H2 dx = none → dx ≠ a → D.nx σ (upd (upd H2 dx (exd dx [(f, y)])) a (exo a C (some dx)))
theorem ps_keep (BF : BaseF B newId initId bmB) (T : OexB X.K C B newId initId bmB) (hno : PySem.W.takerIn X.K C f = some none) (ho : PE X o to) (he : PE X e te) (hs : swapsWith e (some (.Attribute o f p')) pos.line X.env = pure false := by rfl) : PS X (.Assign [.Attribute o f p'] e pos) (tKeep C f to te) := by
  refine ⟨fun pins s σ H D I h => ?_⟩
  refine plainObj_wpAny_Assign_Attribute (thn (he.run pins s σ H _ I h) fun v s1 ⟨y, H1, I1, r1, q1⟩ => thn (ho.run pins s1 σ H1 _ I1 q1) fun u s2 ⟨x, H2, I2, r2, a, ex, ea, q⟩ => ?_) hs
  subst ex
  obtain rfl : u = Value.ref a := r2
  exact keep_field BF T I2 ea hno r1 fun dx s' n ne J => ⟨σ, _, J, q dx n ne⟩
/-- C(e, ..) of an own error: its own __init__ keeps sp -/
theorem pmk_keep {CX : CXT} {x : Str} {fI : Addr} {k : Nat} {fd : FuncData} {ps : List Str} {sp : Sp} (BF : BaseF B newId initId bmB) (T : OexB X.K C B newId initId bmB) (iC : PySem.W.findIn X.K (.ref C) "__init__" = some (some (.ref fI))) (tI : PySem.W.typeIn X.K (.ref fI) = some (.type "function"))
    (F1 : FnOk X.prog X.w X.K X.mg X.base CX k fI fd ps sp) (hr : Room (k + 1) X.A) (hb : Binds X.K fd ps []) (hx : Passes CX X (fun _ _ _ => False)) (hg : Gl X x) (hm : X.mg x = some (.ref C)) (ha : PA X (e :: es) ta)
    (hdb : (x == ("__debug__" : Str)) = false := by decide) (he : starEach (e :: es) X.env = (false, eval e X.env) :: starEach es X.env := by rfl) (hpl : (backTo pos (starEach es X.env)).any (·.1) = false := by rfl) :
    PMk X (.Call (.Name x p) (e :: es) [] pos) (tMkO C sp [] ta) := by
  intro pins s σ H Q I h
  refine wpAny_Call_Name_kw (ld_glob I hg hm ?_ hdb)
  refine PySem.W.callWith_K (h₀ := X.base) I.ok.mod.kin T.kC (thn (ha.run pos pins s σ H _ I h) fun us s1 ⟨vs, H1, I1, r1, hz, q1⟩ => ⟨I1.kIn, ?_⟩) he hpl
  show wpAny _ _ (call (.ref C) us) _ _ _
  obtain ⟨nm, N', qn, bs, bm, hdct, sn, sub, ab, col, dd, k0, k1, k2, k3, k5, hC, hT⟩ := PySem.W.excInit_of I1.kIn T.q
  obtain ⟨hp, g, dr, tk, os⟩ := s1
  have up : hp.objs.size ≤ hp.objs.size + 1 := Nat.le_succ _
  have fresh : H1 (hp.objs.size + 1) = none := I1.hok.fresh up
  have hq := q1 (hp.objs.size + 1) fresh
  have two : ∀ b o, hp.get? b = some o → ((hp.push (PySem.W.kdv_tup us)).push (PySem.HandSPX.excO C hp.objs.size)).get? b = some o := fun b o z => Heap.get?_push_of_some _ (Heap.get?_push_of_some _ z)
  have mine : ((hp.push (PySem.W.kdv_tup us)).push (PySem.HandSPX.excO C hp.objs.size)).get? (hp.objs.size + 1) = some (PySem.HandSPX.excO C hp.objs.size) := by heap_get
  have I2 : Inv X pins σ (upd H1 (hp.objs.size + 1) (exo (hp.objs.size + 1) C none)) ⟨(hp.push (PySem.W.kdv_tup us)).push (PySem.HandSPX.excO C hp.objs.size), g, dr, tk, os⟩ := I1.laid (t' := tk) (a := hp.objs.size + 1) (o := exo (hp.objs.size + 1) C none) two up (exo_ok mine)
  have r2 : Vals (V.ref (hp.objs.size + 1) :: (vs ++ [])) (Value.ref (hp.objs.size + 1) :: (us ++ [])) := .cons rfl (r1.append .nil)
  have len : (Value.ref (hp.objs.size + 1) :: us ++ []).length = ps.length := (r2.length.symm.trans (F1.len _ _ _ _ hq))
  have bt : BindsTo ⟨(hp.push (PySem.W.kdv_tup us)).push (PySem.HandSPX.excO C hp.objs.size), g, dr, tk, os⟩ fd ⟨Value.ref (hp.objs.size + 1) :: us, []⟩ (ps.zip (Value.ref (hp.objs.size + 1) :: (us ++ []))) := by
    have z := hb ⟨(hp.push (PySem.W.kdv_tup us)).push (PySem.HandSPX.excO C hp.objs.size), g, dr, tk, os⟩ (Value.ref (hp.objs.size + 1) :: us) I2.kIn len
    rw [List.cons_append] at z
    exact z
  have few : us.length ≤ sizeLine := by
    rw [← Paired.length r1, sizeLine_eq]
    omega
  refine wpAny_call (eh_call BF.N hT hC (PySem.W.looks_findIn I1.kIn iC) (fun self => PySem.W.bind_fn I1.kIn self tI) few
    (codeAny_mono (F1.run _ X.stack _ _ ⟨Value.ref (hp.objs.size + 1) :: us, []⟩ (Value.ref (hp.objs.size + 1) :: (us ++ [])) _ _ (fun _ _ _ => False) (hr.make C us []) (I2.env0.make C us []) bt r2 hq) fun r s' hq' => ?_))
  match r, hq' with
  | .error er, hq' => exact hx pins σ _ _ er s' I2 hq'
  | .ok .next, hq' => exact False.elim hq'
  | .ok .brk, hq' => exact False.elim hq'
  | .ok .cont, hq' => exact False.elim hq'
  | .ok (.ret u), hq' =>
    obtain ⟨v, H2, os2, bare2, un2, hok2, rv, ev, d, fs, ea, ed, hd1, q2⟩ := hq'
    subst ev
    obtain ⟨h2, g2, d2, t2, os'⟩ := s'
    exact ⟨rv, mk_end (raises_own T.exC T.tyC) I1 up two un2 hok2 os2 bare2 ea ed hd1 q2⟩
end
end Eh

set_option Elab.async false
set_option linter.all false
set_option maxRecDepth 100000
set_option maxHeartbeats 4000000
namespace Eh
open PySem PySem.Spec PyProof.Rows L2
open NdefX (NF NScope CellsAt startF envF ncx inv_startN nscope_by)
/-- what the written part says of an own error's __init__, a def of the class at C -/
structure InitE (P : Program) (K : PySem.W.Frag) (C f : Addr) (F : NF) (fd : FuncData) : Prop where
  ex : ∃ (cc cda : Addr) (oc kV doc pm ct ccl cl : Value) (od an cdd cld : Option Addr) (osl ccs csl : Array (Option Value)) (vs : Array Value) (file : Str) (tf : Tok) (cd : ClassData),
    F.c = cda ∧ F.cl = [(("__class__" : Str), cc)] ∧ fd = PySem.W.fnX F.name F.qual F.params F.body F.scope [(("__class__" : Str), cc)] .none kV doc pm an (.ref cda) ct ∧ K.lookup f = some ⟨oc, od, .func fd, osl⟩ ∧ PySem.W.codeIn K (.ref cda) F.qual = true ∧
    K.lookup cda = some ⟨ccl, cdd, .fields vs, ccs⟩ ∧ vs[2]? = some (.str file tf) ∧ ((P.main.file : Str) == file) = true ∧ K.lookup cc = some ⟨cl, cld, .cell (some (.ref C)), csl⟩ ∧ PySem.W.clsIn K C = some cd ∧
    (P.main.scope.names.lookup ("super" : Str)).isSome = false
/-- super().__init__(text) in such a def -/
theorem super_init {X : Cx} {pins : List (Addr × Obj)} {σ : L2.St} {H : Hp} {s : Shared} {a C f cc cda : Addr} {B newId initId : String} {bmB : List Value} {body : List Stmt} {fd : FuncData} {ar : Arg} {msg file : Str} {tf : Tok} {j : Nat} {p0 p1 p2 p3 p4 : Pos} {oc ccl cl : Value} {od cdd cld : Option Addr} {osl ccs csl : Array (Option Value)} {vs : Array Value} {cdC : ClassData} {m : Str → Option Value} {Q : Value → Shared → Prop} {pl : Env → Sem Bool}
    (BF : BaseF B newId initId bmB) (T : OexB X.K C B newId initId bmB) (hmg : X.mg "super" = none) (I : Inv X pins σ H s) (ea : H a = some (exo a C none)) (hks : X.env.kindOf "super" = some .globalImplicit) (hkc : X.env.kindOf "__class__" = some .free) (hka : X.env.kindOf ar.arg = some .local)
    (hfu : X.env.func = some f) (lk : X.K.lookup f = some ⟨oc, od, .func fd, osl⟩) (hp : (fd.params.posonlyargs ++ fd.params.args).head? = some ar) (hco : X.env.code = .ref cda) (lcda : X.K.lookup cda = some ⟨ccl, cdd, .fields vs, ccs⟩) (hvs : vs[2]? = some (.str file tf)) (hfile : ((X.prog.main.file : Str) == file) = true)
    (htop : (X.prog.main.scope.names.lookup ("super" : Str)).isSome = false) (hcell : X.env.cells.lookup ("__class__" : Str) = some cc) (lcc : X.K.lookup cc = some ⟨cl, cld, .cell (some (.ref C)), csl⟩) (hcls : PySem.W.clsIn X.K C = some cdC) (hns : s.heap.Ns X.env.locals m) (hv : m ar.arg = some (.ref a)) (hlen : msg.length ≤ 1000)
    (hc : ∀ env : Env, eval (.Call (.Attribute (.Call (.Name "super" p0) [] [] p1) "__init__" p2) [.Constant (.str msg) j p3] [] p4) env = (do
      let ov ← attributeBase (.Call (.Name "super" p0) [] [] p1) "__init__" env (eval (.Call (.Name "super" p0) [] [] p1) env)
      standAt p2.atName
      let (f, first) ← holding [ov] (getMethod ov "__init__" (pl env))
      callWith p4 f first (backTo p4 (starEach [.Constant (.str msg) j p3] env)) []))
    (q : ∀ s', Inv X pins σ H s' → Q .none s') : _root_.PySem.wpAt (model X.prog X.w) X.A (.func body X.env) (eval (.Call (.Attribute (.Call (.Name "super" p0) [] [] p1) "__init__" p2) [.Constant (.str msg) j p3] [] p4) X.env) Q X.xe s := by
  obtain ⟨oD, hD1, hD2⟩ : ∃ oD, s.heap.get? C = some oD ∧ oD.data = .cls cdC := by
    unfold PySem.W.clsIn at hcls
    split at hcls
    · rename_i ho
      cases hcls
      exact ⟨_, I.kIn _ _ ho, rfl⟩
    · cases hcls
  obtain ⟨t1, hx⟩ := exo_at I.hok ea
  obtain ⟨mb, hb1, hb2⟩ := I.mod.blt
  have nCa : a ≠ C := fun z => by
    rw [z, hD1] at hx
    have z2 := Option.some.inj hx
    rw [z2] at hD2
    cases hD2
  refine ks_wpAt_MethodCall (pl := pl X.env) ?_ (hc _)
  refine ks_wpAt_super_base hks hkc (by decide) hfu (I.kIn _ _ lk) rfl hp hco (I.kIn _ _ lcda) rfl hvs hfile htop ?_
  refine PySem.W.ks_loadName_global I.ok.kind hks (Calls.loadGlobal_builtin (by rw [I.ok.glob]; exact I.mod.glob.keeps I.bk) hmg (by rw [I.ok.blt]; exact hb1.keeps I.bk) ((hb2 "super" (by decide)).trans (by decide +kernel)) ⟨rfl, ?_⟩)
  refine wpAny_loadName_free I.ok.kind hkc hcell ⟨_, I.kIn _ _ lcc, rfl⟩ ?_
  refine wpAny_loadName_local I.ok.kind hka hns hv ?_
  obtain ⟨h0, g, d, t, os⟩ := s
  refine ks_wpAny_isType_cls hD1 hD2 ⟨rfl, ?_⟩
  refine ks_wpAny_call_super hD1 hD2 hx rfl (fun c z => by cases z) (PySem.W.looks_mroIn I.kIn T.sub) fun h1 hso k1 => ?_
  have I1 : Inv X pins σ H ⟨h1, g, d, t, os⟩ := I.kept (t' := t) k1
  obtain ⟨cd2, hc2, bm2, hm2, hal⟩ : ∃ cd, PySem.W.clsIn X.K C = some cd ∧ ∃ l, cd.mro = l ∧ PySem.W.alongIn X.K "__init__" ((l.dropWhile (· != .ref C)).drop 1) = some (some (.builtin initId)) := by
    have z := T.sup
    unfold PySem.W.ks_superIn at z
    obtain ⟨cd, e1, e2⟩ := Option.bind_eq_some_iff.mp z
    exact ⟨cd, e1, _, rfl, e2⟩
  have LI : PySem.W.Looks (model X.prog X.w) h1 (isInstance (.ref a) (.type B)) true := by
    have IA : PySem.W.InstAt h1 a (PySem.W.excObj C t1 none .none) C none := ⟨k1 _ _ hx, rfl, rfl, trivial⟩
    exact IA.type.andThen (PySem.W.looks_subIn I1.kIn T.bC)
  have LM : PySem.W.Looks (model X.prog X.w) h1 (mroOf (.ref C)) cd2.mro := (PySem.W.looks_clsIn I1.kIn hc2).andThen .now
  refine PySem.W.kxs_getMethod BF.KX hso (PySem.W.looks_opaque I1.kIn T.tp) LM rfl I1.kIn (by rw [hm2]; exact hal) LI nCa (by decide) ?_
  have ku : ∀ b o, h1.get? b = some o → (h1.push (PySem.W.kxs_mw initId a)).get? b = some o := fun b o e => Heap.get?_push_of_some _ e
  have I2 : Inv X pins σ H ⟨h1.push (PySem.W.kxs_mw initId a), g, d, t + 1, os⟩ := I1.kept (t' := t + 1) ku
  have hu : (h1.push (PySem.W.kxs_mw initId a)).get? h1.objs.size = some (PySem.W.kxs_mw initId a) := Heap.get?_push_at rfl rfl
  have fu : H h1.objs.size = none := I1.hok.fresh (Nat.le_refl _)
  have I3 : Inv X (pins ++ [(h1.objs.size, PySem.W.kxs_mw initId a)]) σ H ⟨h1.push (PySem.W.kxs_mw initId a), g, d, t + 1, os⟩ := I2.pins_of fun p hp => by
    rcases List.mem_append.mp hp with z | z
    · exact I2.pin p (List.mem_append_right _ z)
    · rw [List.mem_singleton.mp z]
      exact ⟨hu, fu, fun z => absurd I1.lt (by rw [← z]; exact Nat.lt_irrefl _), I1.nofs (Nat.le_refl _), fun v z => by cases z⟩
  have pa : PA X [.Constant (.str msg) j p3] (tCons (tC (.str msg)) tNil) := pa_cons pe_str pa_nil
  have he : starEach [.Constant (.str msg) j p3] X.env = (false, eval (.Constant (.str msg) j p3) X.env) :: starEach [] X.env := by rfl
  suffices hsp : wpAny (model X.prog X.w) X.A (spliced (backTo p4 (starEach [.Constant (.str msg) j p3] X.env))) (fun vs s₁ => PySem.W.KxsAt initId h1.objs.size a s₁.heap ∧ wpAny (model X.prog X.w) X.A (call (.ref h1.objs.size) vs) Q X.xe s₁) X.xe ⟨h1.push (PySem.W.kxs_mw initId a), g, d, t + 1, os⟩ by
    rw [he] at hsp ⊢
    exact PySem.W.kxs_callWith (i := initId) (x := a) (by rfl) (Calls.evalArgs_plain hsp)
  refine thn (pa.run p4 _ _ σ H (fun vs H1 => vs = [V.str msg] ∧ H1 = H) I3 ⟨rfl, rfl⟩) fun us s1 hh => ?_
  obtain ⟨ws, H1, I4, r1, ew, eH⟩ := hh
  rw [eH] at I4
  have pu := (I4.pin (h1.objs.size, PySem.W.kxs_mw initId a) (List.mem_append_right _ (List.mem_append_right _ (List.mem_singleton_self _)))).1
  have us1 : us.length = 1 := by rw [← Paired.length r1, ew]; rfl
  refine ⟨pu, ?_⟩
  show wpAny _ _ (call (.ref h1.objs.size) us) _ _ _
  obtain ⟨t2, hx2⟩ := exo_at I4.hok ea
  obtain ⟨h4, g4, d4, t4, os4⟩ := s1
  refine wrap_call BF.I I4.kIn T.q pu hx2 (by rw [us1, sizeLine_eq]; omega) fun h5 k5 e5 => ?_
  have J := I4.write (t' := t4) (x := a) (e := a) (o := exo a C none) (by rw [ea]; exact True.intro) (.inl rfl) k5 ⟨_, e5⟩ (exo_ok e5)
  have eu : upd H a (exo a C none) = H := by
    funext b
    by_cases hb : b = a
    · rw [hb, upd_same, ea]
    · rw [upd_ne hb]
  rw [eu] at J
  exact q _ (J.pins_of fun p hp => J.pin p (List.mem_append_right _ (List.mem_append_left _ hp)))
section
variable {CX : CXT} {P : Program} {w : World} {K : PySem.W.Frag} {mg : Str → Option Value} {base : Heap} {N ps : List Str} {F : NF} {f C : Addr} {k : Nat} {fd : FuncData} {sp : Sp} {B newId initId : String} {bmB : List Value} {self msg : Str} {ar : Arg} {j : Nat} {p0 p1 p2 p3 p4 p5 : Pos} {rest : List Stmt} {pl : Env → Sem Bool}
theorem fn_init (BF : BaseF B newId initId bmB) (T : OexB K C B newId initId bmB) (hm : mg "super" = none) (I0 : InitE P K C f F fd) (S : NScope N ps [("__class__" : Str)] F.scope)
    (hbody : F.body = .Expr (.Call (.Attribute (.Call (.Name "super" p0) [] [] p1) "__init__" p2) [.Constant (.str msg) j p3] [] p4) p5 :: rest)
    (hp : (F.params.posonlyargs ++ F.params.args).head? = some ar) (ha : ps.head? = some ar.arg) (hks : F.scope.names.lookup ("super" : Str) = some .globalImplicit) (hkc : F.scope.names.lookup ("__class__" : Str) = some .free) (hlen : msg.length ≤ 1000)
    (hc : ∀ env : Env, eval (.Call (.Attribute (.Call (.Name "super" p0) [] [] p1) "__init__" p2) [.Constant (.str msg) j p3] [] p4) env = (do
      let ov ← attributeBase (.Call (.Name "super" p0) [] [] p1) "__init__" env (eval (.Call (.Name "super" p0) [] [] p1) env)
      standAt p2.atName
      let (f, first) ← holding [ov] (getMethod ov "__init__" (pl env))
      callWith p4 f first (backTo p4 (starEach [.Constant (.str msg) j p3] env)) []))
    (len : ∀ vs H Q E, sp vs H Q E → vs.length = ps.length) (hat : ∀ vs H Q E, sp vs H Q E → ∃ a us, vs = .ref a :: us ∧ H a = some (exo a C none))
    (hrest : ∀ (A : Around) (outer : List Env) (s : Shared) (H : Hp) (vs : List V) (Q : VK) (E : XK), Room k (A.deeper (envF F f s.heap.objs.size)) → sp vs H Q E →
      ∃ t, PSs (ncx CX P w K mg base N F f A outer s H E) rest t ∧ t { nx := fun _ H' => Q .non H', rt := Q } (startF N vs [none]) H) :
    FnOk P w K mg base CX (k + 1) f fd ps sp := by
  obtain ⟨cc, cda, oc, kV, doc, pm, ct, ccl, cl, od, an, cdd, cld, osl, ccs, csl, vs0, file, tf, cdC, eFc, eFcl, rfl, lk, hcd, lcda, hvs, hfile, lcc, hcls, htop⟩ := I0.ex
  refine ⟨len, fun A outer s H args us vs Q E hr e0 hb r hsp => ?_⟩
  have hl := len _ _ _ _ hsp
  obtain ⟨a, us1, rfl, ea⟩ := hat _ _ _ _ hsp
  have KX : K.In s.heap := e0.mod.kin.keeps fun b o e => (e0.bs b o e).1
  have lim : s.heap.NoLimit := e0.mod.nolimit.keeps fun b o e => (e0.bs b o e).1
  have hloc : ∀ y ∈ ps.zip us, F.scope.names.lookup y.1 = some .local := fun ⟨n, v⟩ hy => S.par n (List.of_mem_zip hy).1
  have bcc : H cc = none := (e0.bs _ _ (e0.mod.kin _ _ lcc)).2
  have cells : CellsAt F.cl [("__class__" : Str)] [none] s.heap H := by
    rw [eFcl]
    refine ⟨rfl, fun y c e => ?_, fun x y c e1 e2 => ?_, fun i y hy => ?_⟩
    · simp only [List.lookup] at e
      split at e
      · cases e
        exact ⟨bcc, _, _, KX _ _ lcc, rfl⟩
      · cases e
    · simp only [List.lookup] at e1 e2
      split at e1
      · rename_i q1
        split at e2
        · rename_i q2
          rw [eq_of_beq q1, eq_of_beq q2]
        · cases e2
      · cases e1
    · match i, hy with
      | 0, hy =>
        cases hy
        exact ⟨cc, by simp [List.lookup], fun v e => by cases e⟩
      | i + 1, hy => cases hy
  have env_eq : callEnv (PySem.W.fnX F.name F.qual F.params F.body F.scope [(("__class__" : Str), cc)] .none kV doc pm an (.ref cda) ct) s.heap.objs.size f = envF F f s.heap.objs.size := by
    unfold envF
    rw [eFcl, eFc]
    rfl
  refine ks_codeAny_call_defAt (body := F.body) (binds := ps.zip us) hr.depth (KX _ _ lk) rfl lim (PySem.W.codeRec_of KX hcd) rfl hb S.nocell hloc (fun h₁ hns kp => ?_) S.co S.gen S.kind
  rw [env_eq]
  have I : Inv (ncx CX P w K mg base N F f A outer s H E) [] (startF N (.ref a :: us1) [none]) H { s with heap := h₁, toks := s.toks + (ps.zip us).length } := inv_startN S hr.hd e0 hl r cells hns kp
  obtain ⟨t, ht, hq⟩ := hrest A outer s H _ Q E (hr.deeper _) hsp
  have hend : ∀ (fl : Flow) (s' : Shared), SP (ncx CX P w K mg base N F f A outer s H E) [] { nx := fun _ H' => Q .non H', rt := Q } fl s' → CR CX outer P w H s Q E (.ok (.ret (match fl with | .ret v => v | _ => .none))) s' := fun fl s' hs => by
    have fin : ∀ {σ' : L2.St} {H' : Hp} {v : V} {u : Value}, Inv (ncx CX P w K mg base N F f A outer s H E) [] σ' H' s' → RelV v u → Q v H' → CE outer P w H s Q u s' :=
      fun {σ' H' v u} J rv q => ⟨v, H', J.os, J.bare, J.base, J.hok, rv, q⟩
    match fl, hs with
    | .ret u, ⟨v, σ', H', J, rv, q⟩ => exact fin J rv q
    | .next, ⟨σ', H', J, q⟩ => exact fin (v := V.non) (u := Value.none) J rfl q
    | .brk, ⟨_, _, _, q⟩ => exact False.elim q
    | .cont, ⟨_, _, _, q⟩ => exact False.elim q
  have hmem : ar.arg ∈ ps := by
    cases ps with
    | nil => cases ha
    | cons p ps => cases ha; exact List.mem_cons_self
  have h0 : ps[0]? = some ar.arg := by
    cases ps with
    | nil => cases ha
    | cons p ps => cases ha; rfl
  have ndP : ps.Nodup := by
    have z := S.nd.sublist (List.take_sublist (ps.length + 1) N)
    rw [show N.take (ps.length + 1) = ps ++ [("__class__" : Str)] from S.pre] at z
    exact (List.nodup_append.mp z).1
  obtain ⟨u0, hu0, ru0⟩ := r.get (show (V.ref a :: us1)[0]? = some (V.ref a) from rfl)
  obtain rfl : u0 = Value.ref a := ru0
  have hv : (ps.zip us).reverse.lookup ar.arg = some (Value.ref a) := NdefX.zip_look ndP h0 hu0
  have hcell : (ncx CX P w K mg base N F f A outer s H E).env.cells.lookup ("__class__" : Str) = some cc := by
    show F.cl.lookup ("__class__" : Str) = some cc
    rw [eFcl]
    simp [List.lookup]
  rw [hbody]
  refine ks_wpAt_execs_cons (ks_wpAt_Expr_any (super_init (X := ncx CX P w K mg base N F f A outer s H E) (a := a) BF T hm I ea hks hkc (S.par _ hmem) rfl lk hp (show Value.ref F.c = Value.ref cda by rw [eFc]) lcda hvs hfile htop hcell lcc hcls hns hv hlen hc fun s' J => ?_) ?_ ?_)
  · refine wpAt_of_wpAny (wpAny_mono (ht.run [] s' _ H _ J hq) (fun fl s2 hs => ?_) fun e s2 z => z)
    exact hend fl s2 hs
  · have hk : (envF F f s.heap.objs.size).scope.kind = .function := S.kind
    unfold interactive
    rw [hk]
    rfl
  · rfl
end
end Eh

set_option Elab.async false
set_option linter.all false
set_option maxRecDepth 100000
set_option maxHeartbeats 4000000
/-! a try with several except clauses, some of which name the error -/
namespace Eh
open PySem PySem.Spec PyProof.Rows L2
abbrev Cls3 := Value × Option Nat × (Addr → Value → Option Addr → TS)
/-- the ends behind a clause that names the error by slot i -/
def behind (i : Nat) (D : Ends) : Ends := { nx := fun σ H => D.nx (σ.set i none) H, rt := D.rt, bk := fun σ H => D.bk (σ.set i none) H, ct := fun σ H => D.ct (σ.set i none) H }
def wMix (K : PySem.W.Frag) (n : Nat) (Wout : WX) (D : Ends) : List Cls3 → WX
  | [] => Wout
  | (c, none, ts) :: r => fun cls d σ H => ∃ b, PySem.W.exmOne K cls c = some b ∧ (b = true → ∀ a, H a = none → ts a cls d D σ H) ∧ (b = false → wMix K n Wout D r cls d σ H)
  | (c, some i, ts) :: r => fun cls d σ H => ∃ b, PySem.W.exmOne K cls c = some b ∧ (b = true → σ.length = n → ∀ a, H a = none → ts a cls d (behind i D) (σ.set i (some (.ref a))) H) ∧ (b = false → wMix K n Wout D r cls d σ H)
/-- a suite, wherever the error stands -/
def SuiteOk (X : Cx) (suite : List Stmt) (ts : Addr → Value → Option Addr → TS) : Prop :=
  ∀ (a : Addr) (oe : Obj) (cls : Value) (d : Option Addr) (pn : List (Addr × Obj)), Zc cls d oe → (∃ vs, oe.data = .fields vs) → PSs (X.suite a ((a, oe) :: pn)) suite (ts a cls d)
inductive HdsM (X : Cx) : List ExceptHandler → List Cls3 → Prop
  | nil : HdsM X [] []
  | only {x : Str} {c : Value} {ts : Addr → Value → Option Addr → TS} {b₀ : Stmt} {suite : List Stmt} {np p : Pos} {hds : List ExceptHandler} {l : List Cls3} : Names X x c → SuiteOk X (b₀ :: suite) ts → HdsM X hds l →
      HdsM X (.ExceptHandler (some (.Name x np)) none (b₀ :: suite) p :: hds) ((c, none, ts) :: l)
  | named {x n : Str} {i : Nat} {c : Value} {ts : Addr → Value → Option Addr → TS} {b₀ : Stmt} {suite : List Stmt} {np p : Pos} {hds : List ExceptHandler} {l : List Cls3} : X.N[i]? = some n → X.env.kindOf n = some .local → Names X x c → SuiteOk X (b₀ :: suite) ts → HdsM X hds l →
      HdsM X (.ExceptHandler (some (.Name x np)) (some n) (b₀ :: suite) p :: hds) ((c, some i, ts) :: l)
section
variable {X : Cx} {body : List Stmt} {hd : ExceptHandler} {hds : List ExceptHandler} {l : List Cls3} {pos : Pos} {tb : WX → TS} {Wout : WX}
theorem ps_try_mix (hs : X.stack = X.env :: X.outer) (hf : X.env.frame = some X.env.locals) (hN : X.N.Nodup) (tk : Takes X Wout)
    (hb : ∀ (W : WX) (pn : List (Addr × Obj)) (xe : Value → Shared → Prop), Takes (X.tr pn xe) W → PassesOwn (model X.prog X.w) X.A X.env xe → PSs (X.tr pn xe) body (tb W))
    (hh : HdsM X (hd :: hds) l) : PS X (.Try body (hd :: hds) [] [] pos) (fun D σ H => tb (wMix X.K X.N.length Wout D l) D σ H) := by
  constructor
  intro pins s σ H D I h
  have ok := I.ok
  have fr : X.A.frames = some (X.env :: X.outer) := ok.frames.trans (by rw [hs])
  refine wpAny_Try_except (wpAny_mono ((hb (wMix X.K X.N.length Wout D l) (X.pn ++ pins) (fun e s₁ => wpAny (model X.prog X.w) X.A (noteFrame e X.env) (fun _ s₂ => wpAny (model X.prog X.w) X.A (setFlight e none) (fun _ s₃ =>
    wpAny (model X.prog X.w) X.A (handleBy e X.env (hd :: hds)) (SP X pins D) X.xe s₃) X.xe s₂) X.xe s₁) (fun u s' xx => ?caught) PassesOwn.looking).run [] s σ H D (I.toTry _) h) (fun f s1 hsp => ?through) (fun _ _ z => z))
  case through =>
    match f, hsp with
    | .next, ⟨σ', H', J, q⟩ => exact wpAny_execs_nil ⟨σ', H', J.ofTry ok, q⟩
    | .brk, ⟨σ', H', J, q⟩ => exact ⟨σ', H', J.ofTry ok, q⟩
    | .cont, ⟨σ', H', J, q⟩ => exact ⟨σ', H', J.ofTry ok, q⟩
    | .ret u, ⟨v, σ', H', J, r, q⟩ => exact ⟨v, σ', H', J.ofTry ok, r, q⟩
  case caught =>
    obtain ⟨a, B, sI, pins', σ', H', cls, d, rfl, J', nb, up, sky, na, os, ag, w⟩ := xx
    have J : Inv X pins σ' H' sI := J'.ofTry ok
    show wpAny (model X.prog X.w) X.A (noteFrame (.ref a) X.env) _ _ _
    refine Sky.land Zc.steady fr hf (show Sky B (X.env :: X.outer) a (Zc cls d) X.env.locals s'.heap by rw [← hs]; exact sky) fun h3 fl3 up3 => ?_
    have J3 : Inv X pins σ' H' { s' with heap := h3 } := J.landed nb fl3.1 (up.trans up3) os ag
    obtain ⟨oe3, vs3, he3, hz3, hd3⟩ := fl3.there
    have free : a ∉ frs (X.env :: X.outer) := fun hm => by
      obtain ⟨_, o', e', hnf⟩ := fl3.2.2.1.mem hm
      rw [he3] at e'
      cases e'
      exact hnf _ hd3
    have nL : a ≠ X.env.locals := fun z => free (List.mem_filterMap.mpr ⟨X.env, List.mem_cons_self, by rw [hf, z]⟩)
    have nF : a ∉ X.fs := fun hm => by
      obtain ⟨e, he, q⟩ := List.mem_filterMap.mp hm
      exact free (List.mem_filterMap.mpr ⟨e, List.mem_cons_of_mem _ he, q⟩)
    have S3 := J3.suite he3 hd3 na nL nF
    have LT : PySem.W.Looks (model X.prog X.w) h3 (typeOf (.ref a)) cls := fun A Q E s k q => wpAny_typeOf_ref (k _ _ he3) (by rw [hz3.1]; exact q)
    have name : ∀ {x : Str} {c : Value} {np : Pos} {Q : Value → Shared → Prop} {E : Value → Shared → Prop}, Names X x c → Q c { s' with heap := h3 } → wpAny (model X.prog X.w) (X.A.mark (some (.ref a))) (eval (.Name x np) X.env) Q E { s' with heap := h3 } := fun {x c np Q E} hc q => by
      obtain ⟨hg, hdb, hm | ⟨hm, hv, hnn⟩⟩ := hc
      · exact ld_glob (X := X.suite a ((a, oe3) :: (X.pn ++ pins))) S3 hg hm q hdb
      · exact ld_blt (X := X.suite a ((a, oe3) :: (X.pn ++ pins))) S3 hg hm hv q hnn hdb
    have clauses : ∀ {hds' : List ExceptHandler} {l' : List Cls3}, HdsM X hds' l' → wMix X.K X.N.length Wout D l' cls d σ' H' → wpAny (model X.prog X.w) X.A (handleBy (.ref a) X.env hds') (SP X pins D) X.xe { s' with heap := h3 } := by
      intro hds' l' hk
      induction hk with
      | nil =>
        intro w
        refine wpAny_handleBy_nil ?_
        obtain ⟨k1, k2, k3, oe, vs, T, oT, ts', he, hz, hdd, h1, hr⟩ := id fl3
        have fin : wpAny (model X.prog X.w) X.A (setFlight (.ref a) X.env.frame) (fun _ s4 => wpAny (model X.prog X.w) X.A (throw (.ref a) : Sem Flow) (SP X pins D) X.xe s4) X.xe { s' with heap := h3 } := by
          rw [hf]
          refine HandSPX.setFlight_upZ fl3 fun h4 hh4 up4 => wpAny_throw (tk _ _ ?_)
          exact ⟨a, B, sI, pins, σ', H', cls, d, rfl, J, nb, (up.trans up3).trans up4, .inr (.inr (by rw [hs]; exact hh4)), na, os, ag, w⟩
        unfold PySem.passOn
        refine wpAny_bind (wpAny_field he hdd h1 ?_)
        rw [if_neg (by simp : ¬ ((Value.ref T == Value.none) = true))]
        first
          | exact wpAny_bind (wpAny_pure (wpAny_bind fin))
          | exact wpAny_bind fin
      | only hc hsu r ih =>
        intro w
        obtain ⟨b, e1, hyes, hno⟩ := w
        have LM := PySem.W.exm_one (M := model X.prog X.w) J3.kIn LT e1
        refine wpAny_handleBy_cons (codeAny_handlers_test (name hc (LM.here ?_))) (by intro q; cases q)
        cases b with
        | false => exact ih (hno rfl)
        | true =>
          refine codeAny_handlers_suite (HandSPX.lands_againZ fl3 fun h4 fl4 up4 => ?_)
          have J4 : Inv X pins σ' H' { s' with heap := h4 } := J.landed nb fl4.1 ((up.trans up3).trans up4) os ag
          obtain ⟨oe4, vs4, he4, hz4, hd4⟩ := fl4.there
          refine wpAny_mono ((hsu a oe4 cls d (X.pn ++ pins) hz4 ⟨_, hd4⟩).run [] _ _ H' _ (J4.suite he4 hd4 na nL nF) (hyes rfl a na)) (fun f s6 hsp => ?_) (fun _ _ z => False.elim z)
          match f, hsp with
          | .next, ⟨σ6, H6, S6, q6⟩ => exact ⟨_, _, S6.unsuite ok, q6⟩
          | .brk, ⟨σ6, H6, S6, q6⟩ => exact ⟨_, _, S6.unsuite ok, q6⟩
          | .cont, ⟨σ6, H6, S6, q6⟩ => exact ⟨_, _, S6.unsuite ok, q6⟩
          | .ret u, ⟨v6, σ6, H6, S6, r6, q6⟩ => exact ⟨_, _, _, S6.unsuite ok, r6, q6⟩
      | @named x n i c ts b₀ suite np p hds2 l2 hi hln hc hsu r ih =>
        intro w
        obtain ⟨b, e1, hyes, hno⟩ := w
        have LM := PySem.W.exm_one (M := model X.prog X.w) J3.kIn LT e1
        refine wpAny_handleBy_cons (codeAny_handlers_test (name hc (LM.here ?_))) (by intro q; cases q)
        cases b with
        | false => exact ih (hno rfl)
        | true =>
          refine codeAny_handlers_suite_as (HandSPX.lands_againZ fl3 fun h4 fl4 up4 => ?_)
          have J4 : Inv X pins σ' H' { s' with heap := h4 } := J.landed nb fl4.1 ((up.trans up3).trans up4) os ag
          obtain ⟨oe4, vs4, he4, hz4, hd4⟩ := fl4.there
          refine store_ok (X := X.suite a ((a, oe4) :: (X.pn ++ pins))) (v := .ref a) (J4.suite he4 hd4 na nL nF) hN hi (.inl hln) rfl (fun s5 S5 => ?_) (.inr hln)
          refine wpAny_mono ((hsu a oe4 cls d (X.pn ++ pins) hz4 ⟨_, hd4⟩).run [] s5 _ H' _ S5 (hyes rfl J.len a na)) (fun f s6 hsp => ?_) (fun _ _ z => False.elim z)
          match f, hsp with
          | .next, ⟨σ6, H6, S6, q6⟩ => exact gone_ok (S6.unsuite ok) hN hi hln fun s7 J7 => ⟨_, _, J7, q6⟩
          | .brk, ⟨σ6, H6, S6, q6⟩ => exact gone_ok (S6.unsuite ok) hN hi hln fun s7 J7 => ⟨_, _, J7, q6⟩
          | .cont, ⟨σ6, H6, S6, q6⟩ => exact gone_ok (S6.unsuite ok) hN hi hln fun s7 J7 => ⟨_, _, J7, q6⟩
          | .ret u, ⟨v6, σ6, H6, S6, r6, q6⟩ => exact gone_ok (S6.unsuite ok) hN hi hln fun s7 J7 => ⟨_, _, _, J7, r6, q6⟩
    exact clauses hh w
end
end Eh

set_option Elab.async false
set_option linter.all false
set_option maxRecDepth 100000
set_option maxHeartbeats 4000000
/-! own errors held as values: made, str, isinstance, their fields -/
namespace Eh
open PySem PySem.Spec PyProof.Rows L2
/-! ### the builtin classes below -/
abbrev leB : List Value := [.type "LookupError", .type "Exception", .type "BaseException", .type "object"]
abbrev ieB : List Value := [.type "IndexError", .type "LookupError", .type "Exception", .type "BaseException", .type "object"]
abbrev oeB : List Value := [.type "OverflowError", .type "ArithmeticError", .type "Exception", .type "BaseException", .type "object"]
abbrev aeB : List Value := [.type "ArithmeticError", .type "Exception", .type "BaseException", .type "object"]
abbrev keB : List Value := [.type "KeyError", .type "LookupError", .type "Exception", .type "BaseException", .type "object"]
theorem baseLE : BaseF "LookupError" "LookupError.__new__" "LookupError.__init__" leB := base_of PySem.F.excBase_LookupError PySem.W.kxs_LookupError PySem.F.store_LookupError
theorem baseIE : BaseF "IndexError" "IndexError.__new__" "IndexError.__init__" ieB := base_of PySem.F.excBase_IndexError PySem.W.kxs_IndexError PySem.F.store_IndexError
theorem baseOE : BaseF "OverflowError" "OverflowError.__new__" "OverflowError.__init__" oeB := base_of PySem.F.excBase_OverflowError PySem.W.kxs_OverflowError PySem.F.store_OverflowError
theorem baseAE : BaseF "ArithmeticError" "ArithmeticError.__new__" "ArithmeticError.__init__" aeB := base_of PySem.F.excBase_ArithmeticError PySem.W.kxs_ArithmeticError PySem.F.store_ArithmeticError
/-! ### two new objects at once -/
theorem un2 {fs ex : List Addr} {H : Hp} {h h' : Heap} {a t : Addr} {o p : HO} (k : ∀ b u, h.get? b = some u → h'.get? b = some u) (ha : h.get? a = none) (ht : h.get? t = none) (na : H a = none) (nt : H t = none) : Un fs ex H (upd (upd H t p) a o) h h' where
  keep := fun b u q _ _ _ => k b u q
  slot := fun b u q _ _ _ => ⟨u.slots, k b u q⟩
  free := fun b u q n _ => by rw [upd_ne (fun z => by rw [z, ha] at q; cases q), upd_ne (fun z => by rw [z, ht] at q; cases q)]; exact n
  there := fun b u q _ => ⟨u, k b u q⟩
  tups := fun b xs q => by rw [upd_ne (ne_of_none q na), upd_ne (ne_of_none q nt)]; exact q
  frzs := fun b u xs q => by rw [upd_ne (ne_of_none q na), upd_ne (ne_of_none q nt)]; exact q
  tbls := fun b ps q => ⟨#[], by rw [upd_ne (ne_of_none q na), upd_ne (ne_of_none q nt), q]; simp⟩
/-- an error of the class C, its arguments the tuple at t -/
def exT (a C t : Addr) : HO := .ext fun h => h.get? a = some ({ cls := .ref C, dict := none, data := .fields #[.ref t, .none, .none, .none, .bool false, .none] } : Obj)
theorem exT_ok {P : Program} {w : World} {H : Hp} {h : Heap} {a C t : Addr} (he : h.get? a = some ({ cls := .ref C, dict := none, data := .fields #[.ref t, .none, .none, .none, .bool false, .none] } : Obj)) : ObjOk P w H h a (exT a C t) :=
  ⟨he, ⟨_, he⟩, fun h1 h2 z k => k _ z⟩
theorem exT_at {P : Program} {w : World} {H : Hp} {h : Heap} {a C t : Addr} (hok : HOk P w H h) (he : H a = some (exT a C t)) : h.get? a = some ({ cls := .ref C, dict := none, data := .fields #[.ref t, .none, .none, .none, .bool false, .none] } : Obj) := by
  have x : ObjOk P w H h a (.ext fun h => h.get? a = some ({ cls := .ref C, dict := none, data := .fields #[.ref t, .none, .none, .none, .bool false, .none] } : Obj)) := hok a _ he
  exact x.1
section
variable {X : Cx} {C : Addr} {bmB : List Value} {B newId initId : String} {x : Str} {e o : Expr} {es : List Expr} {te to : TE} {ta : TA} {p pos : Pos}
/-- C(e) of an own error without __init__, as a value -/
def tExcT (C : Addr) (te : TE) : TE := fun σ H Q => te σ H fun v H1 => ∀ t a, H1 t = none → H1 a = none → a ≠ t → Q (.ref a) (upd (upd H1 t (.tup [v])) a (exT a C t))
theorem pe_excT (F : ExcBaseFacts B newId initId bmB) (q : PySem.W.excIn X.K C bmB newId = true) (gC : X.mg x = some (.ref C)) (kC : PySem.W.keepIn X.K (.ref C) = true) (hg : Gl X x)
    (he : PE X e te) (hs : starEach [e] X.env = (false, eval e X.env) :: starEach [] X.env := by rfl) (hdb : (x == ("__debug__" : Str)) = false := by decide) :
    PE X (.Call (.Name x p) [e] [] pos) (tExcT C te) := by
  refine ⟨fun pins s σ H Q I h => ?_⟩
  refine wpAny_Call_Name_kw (ld_glob I hg gC ?_ hdb)
  refine PySem.W.callWith_K (h₀ := X.base) I.ok.mod.kin kC ?_ hs (by rfl)
  rw [hs]
  show wpAny _ _ (spliced ((false, eval e X.env) :: backTo pos (starEach [] X.env))) _ _ s
  refine Calls.spliced_cons (thn (he.run pins s σ H _ I h) fun u s1 ⟨v, H1, I1, r1, q1⟩ => ?_)
  refine Calls.spliced_nil ⟨I1.kIn, ?_⟩
  show wpAny _ _ (call (.ref C) [u]) _ _ _
  obtain ⟨bm, N, nm, qn, bs, hdct, sn, sub, ab, col, dd, k0, k1, k2, k3, k5, mN, hC, hN, hni, T⟩ := exc_obj I1.kIn q
  refine wpAny_call_exc_subT F T hC hN hni (fun h' a hm => ?_) (by show 1 ≤ sizeLine; rw [sizeLine_eq]; omega)
  have hn : H1 a = none := I1.hok.gone hm.new
  obtain ⟨t, hta, htn, htt⟩ := hm.there
  have nt : H1 t = none := I1.hok.gone htn
  have ne : a ≠ t := fun z => by
    rw [z, htt] at hta
    cases hta
  have o1 : HOk X.prog X.w (upd H1 t (.tup [v])) h' := I1.hok.laidN hm.keeps nt ⟨by show 1 ≤ sizeLine; rw [sizeLine_eq]; omega, [u], .cons r1 .nil, ⟨_, htt, rfl, _, rfl⟩⟩
  have o2 : HOk X.prog X.w (upd (upd H1 t (.tup [v])) a (exT a C t)) h' := o1.laidN (fun _ _ z => z) (by rw [upd_ne ne]; exact hn) (exT_ok hta)
  exact ⟨.ref a, _, I1.un (un2 hm.keeps hm.new htn hn nt) o2, rfl, q1 t a nt hn ne⟩
end
end Eh

set_option Elab.async false
set_option linter.all false
set_option maxRecDepth 100000
set_option maxHeartbeats 4000000
/-! isinstance of a held error, also of one that has fields -/
namespace PySem.W
open PySem PySem.Spec PySem.Calls PyProof.Rows
section
variable {prog : Program} {w : World} {A : Around} {E : Value → Shared → Prop} {K : Frag} {x D : Addr} {ox : Obj} {od : Option Obj}
/-- what isinstance asks of the class D of errors -/
structure EhExc (K : Frag) (D : Addr) : Prop where
  g1 : findIn K (.ref D) "__getattribute__" = some (some (.builtin "BaseException.__getattribute__"))
  g2 : findIn K (.ref D) "__getattr__" = some none
  sb : subIn K (.ref D) (.type "BaseException") = some true
  dc : hasDictIn K D = true
  c1 : findIn K (.ref D) "__class__" = some (some (.builtin "object.__class__"))
  c2 : specialIn K (.builtin "object.__class__") "__get__" = some (some (.builtin "getset_descriptor.__get__"))
  c3 : takesIn K (.builtin "object.__class__") = some true
  mo : mroIn K D (.type "object") = some true
theorem eh_found (T : EhExc K D) : findObj K D od "__class__" = some (.bind (.builtin "getset_descriptor.__get__") (.builtin "object.__class__")) := by
  obtain ⟨cd, e, _⟩ := any_some T.dc
  simp [findObj, e, T.c1, T.c2, T.c3]
theorem eh_class (T : EhExc K D) {s : Shared} {Q : Option Value → Shared → Prop} (X : K.In s.heap) (I : InstAt s.heap x ox D od) (q : Q (some (.ref D)) { s with toks := s.toks + 1 }) : wpAny (model prog w) A (getAttr? (.ref x) "__class__") Q E s := by
  obtain ⟨hp, g, d, t, os⟩ := s
  have ty := I.type (M := model prog w)
  have by1 := looks_findIn (M := model prog w) X T.g1
  have by2 := looks_findIn (M := model prog w) X T.g2
  have fd := looks_find (M := model prog w) X I (eh_found (od := od) T)
  have so : Looks (model prog w) hp (isInstance (.ref x) (.type "BaseException")) true := ty.andThen (looks_subIn X T.sb)
  have no : (Value.builtin "BaseException.__getattribute__" == Value.builtin "object.__getattribute__") = false := by decide +kernel
  unfold getAttr? getAttrBy? getAttrBy
  refine wpAny_bind (wpAny_mkText (wpAny_bind (wpAny_attempt (wpAny_holding (wpAny_bind (ty.at (wpAny_bind (by1.at ?_))))))))
  refine KFB.if_not (by rw [no, Bool.and_false]) ?_
  unfold getAttrByItsOwn hookBefore
  refine wpAny_bind (KFB.if_so rfl (by2.at (wpAny_bind (wpAny_attempt (wpAny_holding ?_)))))
  unfold callGetattribute
  refine KFB.if_not rfl ?_
  unfold boundAndCalled
  rw [PySem.F.excAttr_ValueError.ga.bind (.ref x)]
  refine wpAny_bind (wpAny_pure (wpAny_call (codeAny_call_builtin PySem.F.excAttr_ValueError.ga.plain PySem.F.entry_bexc_ga ?_)))
  refine @check_slot (model prog w) _ _ ⟨hp, g, d, t + 1, os⟩ "BaseException.__getattribute__" "BaseException" "__getattribute__" (.ref x) [.str "__class__" t] [] _ (by decide +kernel) (by decide +kernel) so (PySem.F.args_bexc_ga _ _) ?_
  unfold Builtin.«object.__getattribute__»
  refine wpAny_bind (wpAny_of_eq (a := ((Value.ref x : Value), [Value.str "__class__" t])) (by first | rfl | (simp only [slotArgs]; rfl)) (wpAny_bind (wpAny_pure (wpAny_bind (ty.at (wpAny_bind (fd.at ?_)))))))
  show wpAny _ _ (holding [Value.builtin "object.__class__"] (call (.builtin "getset_descriptor.__get__") [.builtin "object.__class__", .ref x, .ref D]) >>= ret) _ _ _
  refine wpAny_bind (wpAny_holding (wpAny_call (class_get (s := ⟨hp, g, d, t + 1, os⟩) X I T.mo (wpAny_pure ?_))))
  show wpAny _ _ (handedOut (.ref D)) _ _ _
  rw [handedOut_of (v := .ref D) rfl]
  first
    | exact wpAny_pure (wpAny_pure q)
    | exact wpAny_pure q
    | exact wpAny_pure (wpAny_bind (wpAny_pure (wpAny_pure q)))
theorem eh_kit (T : EhExc K D) : KitX K (.ref x) (.ref D) (fun h => ∃ od, InstAt h x ox D od) where
  ty := fun _ _ _ ⟨_, I⟩ => I.type
  it := fun M h X _ => by
    obtain ⟨cd, e, -⟩ := any_some T.dc
    revert e
    unfold clsIn
    split
    · rename_i _ _ _ _ lk
      exact fun _ => fun _ _ _ _ keep fin => by
        unfold isType loadHead
        exact wpAny_bind (wpAny_loadPart (keep _ _ (X _ _ lk)) (wpAny_pure fin))
    · exact fun e => nomatch e
  ne := fun h tp dd its n sl X e => (handS_kitx_exc (x := x) (ox := ox) T.g1 T.g2 T.sb T.dc T.c1 T.c2 T.c3 T.mo).ne h tp dd its n sl X e
  ca := fun X ⟨_, I⟩ q => eh_class T X I q
end
end PySem.W

set_option Elab.async false
set_option linter.all false
set_option maxRecDepth 100000
set_option maxHeartbeats 4000000
namespace Eh
open PySem PySem.Spec PyProof.Rows L2
/-- an error of the class C is held at a -/
def ErAt (H : Hp) (a C : Addr) : Prop := (∃ t, H a = some (exT a C t)) ∨ ∃ dx fs, H a = some (exo a C (some dx)) ∧ H dx = some (exd dx fs)
theorem ErAt.same {H H' : Hp} {a C : Addr} (s : Same H H') (h : ErAt H a C) : ErAt H' a C := by
  rcases h with ⟨t, e⟩ | ⟨dx, fs, e, d⟩
  · exact .inl ⟨t, s _ _ e⟩
  · exact .inr ⟨dx, fs, s _ _ e, s _ _ d⟩
theorem ErAt.inst {X : Cx} {pins : List (Addr × Obj)} {σ : L2.St} {H : Hp} {s : Shared} {a C : Addr} (I : Inv X pins σ H s) (h : ErAt H a C) : ∃ ox od, PySem.W.InstAt s.heap a ox C od := by
  rcases h with ⟨t, e⟩ | ⟨dx, fs, e, d⟩
  · exact ⟨_, none, exT_at I.hok e, rfl, rfl, trivial⟩
  · obtain ⟨t, e1⟩ := exo_at I.hok e
    obtain ⟨mA, n, _⟩ := exd_at I.hok d
    obtain ⟨od, ho, _⟩ := lookIn_ns n
    exact ⟨_, some od, e1, rfl, rfl, ho⟩
section
variable {X : Cx} {K : PySem.W.Frag} {x : Str} {e o : Expr} {es : List Expr} {te to : TE} {ta : TA} {p pos : Pos}
/-- isinstance(error, class) -/
def rIsX (K : PySem.W.Frag) : List V → Hp → VK → Prop := fun xs H Q => ∃ a C c cv b, xs = [.ref a, c] ∧ (∀ u, RelV c u → u = cv) ∧ ErAt H a C ∧ PySem.W.EhExc K C ∧ PySem.W.kitOne K (.ref C) cv = some b ∧ Q (.bl b) H
theorem call_isX (h : X.K = K) : CallR X (.builtin "isinstance") (rIsX K) := by
  subst h
  intro pins s σ H xs us Q I r h
  obtain ⟨a, C, c, cv, b, rfl, hc, er, T, k, q⟩ := h
  cases r with
  | cons rx rr =>
    cases rr with
    | cons rt rr =>
      cases rr
      cases rx
      have ec := hc _ rt
      subst ec
      obtain ⟨ox, od, J⟩ := er.inst I
      exact PySem.W.kia_one (PySem.W.eh_kit (ox := ox) T) I.kIn ⟨od, J⟩ k (fun z => nomatch z) fun tk => ⟨.bl b, H, I.kept (t' := tk) fun _ _ z => z, rfl, q⟩
/-- str(error), its argument a text -/
def rStrX (K : PySem.W.Frag) : List V → Hp → VK → Prop := fun xs H Q => ∃ a C t m, xs = [.ref a] ∧ H a = some (exT a C t) ∧ H t = some (.tup [.str m]) ∧ PySem.W.findIn K (.ref C) "__str__" = some (some (.builtin "BaseException.__str__")) ∧ PySem.W.subIn K (.ref C) (.type "BaseException") = some true ∧ Q (.str m) H
theorem call_strX (h : X.K = K) (hu : X.A.units + 2 < cLine) : CallR X (.type "str") (rStrX K) := by
  subst h
  intro pins s σ H xs us Q I r h
  obtain ⟨a, C, t, m, rfl, ea, et, f1, f2, q⟩ := h
  cases r with
  | cons rx rr =>
    cases rr
    cases rx
    have ha := exT_at I.hok ea
    obtain ⟨_, its, vt, ⟨ot, ho, hc, n, hd⟩⟩ := (show ObjOk X.prog X.w H s.heap t (.tup [.str m]) from I.hok t _ et)
    cases vt with
    | cons r1 r2 =>
      cases r2
      obtain ⟨tk, rfl⟩ := r1
      exact PySem.P.str_of_C_one hu ⟨I.kIn, _, _, ha, rfl, rfl, rfl⟩ ⟨ot, n, ho, hc, hd⟩ f1 f2 ⟨.str m, H, I, ⟨tk, rfl⟩, q⟩
/-- error.f -/
def tXf2 (K : PySem.W.Frag) (f : Str) (te : TE) : TE := fun σ H Q => te σ H fun x H1 => ∃ a C dx fs v, x = .ref a ∧ H1 a = some (exo a C (some dx)) ∧ H1 dx = some (exd dx fs) ∧ XfC K C ∧ PySem.W.findIn K (.ref C) f = some none ∧ fs.lookup f = some v ∧ Q v H1
theorem pe_xf2 {n : Str} (h : X.K = K) (he : PE X e te) (hb : attributeBase e n X.env (eval e X.env) = eval e X.env := by rfl) : PE X (.Attribute e n pos) (tXf2 K n te) := by
  subst h
  refine ⟨fun pins s σ H Q I h => ?_⟩
  refine attr_of hb (thn (he.run pins s σ H _ I h) fun u s1 ⟨x, H1, I1, rx, a, C, dx, fs, v, ex, ea, ed, T, hno, l, q⟩ => ?_)
  subst ex
  cases rx
  obtain ⟨t, e1⟩ := exo_at I1.hok ea
  obtain ⟨mA, hns, hr⟩ := exd_at I1.hok ed
  obtain ⟨od, ho, hl⟩ := lookIn_ns hns
  obtain ⟨u, hu, ru⟩ := RelO.some_of (v := v) (o := mA n) (by rw [← l]; exact hr n)
  have J : PySem.W.InstAt s1.heap a _ C (some od) := ⟨e1, rfl, rfl, ho⟩
  exact HandSPX.exc_get I1.kIn J T.ga T.gg T.exC (PySem.W.findObj_own T.hdC hno rfl (by rw [hl, hu])) (handed_of ru) ⟨v, H1, I1.tok _, ru, q⟩
/-- C(e, ..) of an own error with its own __init__, as a value -/
def tKeepV (C : Addr) (sp : Sp) (ta : TA) : TE := fun σ H Q => ta σ H fun vs H1 => ∀ a, H1 a = none → sp (.ref a :: vs) (upd H1 a (exo a C none)) (fun w H2 => w = .non ∧ Q (.ref a) H2) (fun _ _ _ => False)
theorem pe_keepV {C : Addr} {B newId initId : String} {bmB : List Value} {CX : CXT} {fI : Addr} {k : Nat} {fd : FuncData} {ps : List Str} {sp : Sp} (BF : BaseF B newId initId bmB) (T : OexB X.K C B newId initId bmB) (iC : PySem.W.findIn X.K (.ref C) "__init__" = some (some (.ref fI))) (tI : PySem.W.typeIn X.K (.ref fI) = some (.type "function"))
    (F1 : FnOk X.prog X.w X.K X.mg X.base CX k fI fd ps sp) (hr : Room (k + 1) X.A) (hb : Binds X.K fd ps []) (hx : Passes CX X (fun _ _ _ => False)) (hg : Gl X x) (hm : X.mg x = some (.ref C)) (hps : ps.length ≤ 1000) (ha : PA X (e :: es) ta)
    (hdb : (x == ("__debug__" : Str)) = false := by decide) (he : starEach (e :: es) X.env = (false, eval e X.env) :: starEach es X.env := by rfl) (hpl : (backTo pos (starEach es X.env)).any (·.1) = false := by rfl) :
    PE X (.Call (.Name x p) (e :: es) [] pos) (tKeepV C sp ta) := by
  refine ⟨fun pins s σ H Q I h => ?_⟩
  refine wpAny_Call_Name_kw (ld_glob I hg hm ?_ hdb)
  refine PySem.W.callWith_K (h₀ := X.base) I.ok.mod.kin T.kC (thn (ha.run pos pins s σ H _ I h) fun us s1 ⟨vs, H1, I1, r1, q1⟩ => ⟨I1.kIn, ?_⟩) he hpl
  show wpAny _ _ (call (.ref C) us) _ _ _
  obtain ⟨nm, N', qn, bs, bm, hdct, sn, sub, ab, col, dd, k0, k1, k2, k3, k5, hC, hT⟩ := PySem.W.excInit_of I1.kIn T.q
  obtain ⟨hp, g, dr, tk, os⟩ := s1
  have up : hp.objs.size ≤ hp.objs.size + 1 := Nat.le_succ _
  have fresh : H1 (hp.objs.size + 1) = none := I1.hok.fresh up
  have hq := q1 (hp.objs.size + 1) fresh
  have two : ∀ b o, hp.get? b = some o → ((hp.push (PySem.W.kdv_tup us)).push (PySem.HandSPX.excO C hp.objs.size)).get? b = some o := fun b o z => Heap.get?_push_of_some _ (Heap.get?_push_of_some _ z)
  have mine : ((hp.push (PySem.W.kdv_tup us)).push (PySem.HandSPX.excO C hp.objs.size)).get? (hp.objs.size + 1) = some (PySem.HandSPX.excO C hp.objs.size) := by heap_get
  have I2 : Inv X pins σ (upd H1 (hp.objs.size + 1) (exo (hp.objs.size + 1) C none)) ⟨(hp.push (PySem.W.kdv_tup us)).push (PySem.HandSPX.excO C hp.objs.size), g, dr, tk, os⟩ := I1.laid (t' := tk) (a := hp.objs.size + 1) (o := exo (hp.objs.size + 1) C none) two up (exo_ok mine)
  have r2 : Vals (V.ref (hp.objs.size + 1) :: (vs ++ [])) (Value.ref (hp.objs.size + 1) :: (us ++ [])) := .cons rfl (r1.append .nil)
  rw [List.append_nil, List.append_nil] at r2
  have len : (Value.ref (hp.objs.size + 1) :: us ++ []).length = ps.length := by
    rw [List.append_nil]
    exact r2.length.symm.trans (F1.len _ _ _ _ hq)
  have bt : BindsTo ⟨(hp.push (PySem.W.kdv_tup us)).push (PySem.HandSPX.excO C hp.objs.size), g, dr, tk, os⟩ fd ⟨Value.ref (hp.objs.size + 1) :: us, []⟩ (ps.zip (Value.ref (hp.objs.size + 1) :: us)) := by
    have z := hb ⟨(hp.push (PySem.W.kdv_tup us)).push (PySem.HandSPX.excO C hp.objs.size), g, dr, tk, os⟩ (Value.ref (hp.objs.size + 1) :: us) I2.kIn len
    rw [List.append_nil] at z
    exact z
  have few : us.length ≤ sizeLine := by
    have z := F1.len _ _ _ _ hq
    rw [List.length_cons] at z
    rw [← Paired.length r1, sizeLine_eq]
    omega
  refine wpAny_call (eh_call BF.N hT hC (PySem.W.looks_findIn I1.kIn iC) (fun self => PySem.W.bind_fn I1.kIn self tI) few
    (codeAny_mono (F1.run _ X.stack _ _ ⟨Value.ref (hp.objs.size + 1) :: us, []⟩ (Value.ref (hp.objs.size + 1) :: us) _ _ (fun _ _ _ => False) (hr.make C us []) (I2.env0.make C us []) bt r2 hq) fun r s' hq' => ?_))
  cases r with
  | error er => exact hx pins σ _ _ er s' I2 hq'
  | ok fl =>
    cases fl with
    | ret u =>
      obtain ⟨v, H', I3, rv, ev, q3⟩ := I2.after hq'
      subst ev
      exact ⟨rv, ⟨V.ref (hp.objs.size + 1), H', I3, rfl, q3⟩⟩
    | next => exact False.elim hq'
    | brk => exact False.elim hq'
    | cont => exact False.elim hq'
end
end Eh

set_option Elab.async false
set_option linter.all false
set_option maxRecDepth 100000
set_option maxHeartbeats 8000000
/-! what is known of KeyError -/
namespace Eh
open PySem PySem.Spec PyProof.Rows L2 PySem.F
theorem slot_key : Slot "KeyError" "__init__" "KeyError.__init__" :=
  .of (owner := "KeyError") (n := "__init__") (by rw [typeLookup_type, builtinLookup_eq_fast]; kernel_rfl) (by decide +kernel) (by decide +kernel) (by decide +kernel) (by first | exact .inl (by decide +kernel) | exact .inr (by decide +kernel)) (by rw [isSubtype_type]; kernel_rfl)
theorem init_KeyError : BaseI "KeyError" "KeyError.__init__" :=
  ⟨slot_key, entryFor_alias (id' := "BaseException.__init__") (by rw [fastTable_eq_tree]; kernel_rfl) (by first | rfl | decide +kernel) (by decide +kernel) (by rw [fastTable_eq_tree]; kernel_rfl), by kernel_rfl, by kernel_rfl, by decide +kernel⟩
theorem store_KeyError : StoreFacts "KeyError" keB "object.__setattr__" "object" := by
  constructor
  case slot => exact .of (owner := "object") (n := "__setattr__") (by rw [typeLookup_type, builtinLookup_eq_fast]; kernel_rfl) (by decide +kernel) (by decide +kernel) (by decide +kernel) (by first | exact .inl (by decide +kernel) | exact .inr (by decide +kernel)) (by rw [isSubtype_type]; kernel_rfl)
  case entry => exact entry_object_sa
  case args => exact fun a b c => by unfold argsOk; kernel_rfl
  case passes => exact fun a => by kernel_rfl
  case mro => kernel_rfl
  all_goals decide +kernel
theorem kxs_KeyError : PySem.W.KxsFacts "KeyError" "KeyError.__init__" := ⟨by show builtinType _ = _; rw [builtinType_eq_fast]; kernel_rfl, by first | kernel_rfl | rfl⟩
theorem baseKE : BaseF "KeyError" "LookupError.__new__" "KeyError.__init__" keB := ⟨⟨"LookupError", "LookupError.__init__", leB, PySem.F.excBase_LookupError, by decide +kernel, by decide +kernel, by decide +kernel⟩, init_KeyError, kxs_KeyError, store_KeyError⟩
end Eh

set_option Elab.async false
set_option linter.all false
set_option maxRecDepth 100000
set_option maxHeartbeats 4000000
/-! _copied of data: lists, tuples, dicts of texts and numbers, some levels deep -/
namespace Eh
open PySem PySem.Spec PyProof.Rows L2
def Flat0 (v : V) (d : PyData) : Prop := (v = .non ∧ d = .none) ∨ (∃ b, v = .bl b ∧ d = .bool b) ∨ (∃ i, v = .int i ∧ d = .int i) ∨ ∃ z, v = .str z ∧ d = .str z
/-- data to the depth n; what can change stands at addresses in N -/
def Cd (K : PySem.W.Frag) (N : Addr → Prop) (H : Hp) : Nat → V → PyData → Prop
  | 0, v, d => Flat0 v d
  | n + 1, v, d => Flat0 v d ∨
    (∃ a xs ds, v = .ref a ∧ d = .list ds ∧ N a ∧ H a = some (.lst xs) ∧ xs.length ≤ 1000 ∧ Paired (Cd K N H n) xs ds) ∨
    (∃ a xs ds, v = .ref a ∧ d = .tuple ds ∧ SqT K H a xs ∧ xs.length ≤ 1000 ∧ Paired (Cd K N H n) xs ds) ∨
    ∃ a z i, v = .ref a ∧ d = .dict [(.str z, .int i)] ∧ N a ∧ H a = some (.dK [(.inr z, .int i)])
theorem pair_map {α β : Type} {F G : α → β → Prop} (h : ∀ a b, F a b → G a b) : ∀ {l : List α} {m : List β}, Paired F l m → Paired G l m
  | _, _, .nil => .nil
  | _, _, .cons a r => .cons (h _ _ a) (pair_map h r)
theorem pair_len {α β : Type} {F : α → β → Prop} : ∀ {l : List α} {m : List β}, Paired F l m → l.length = m.length
  | _, _, .nil => rfl
  | _, _, .cons _ r => by rw [List.length_cons, List.length_cons, pair_len r]
theorem pair_get {α β : Type} {F : α → β → Prop} : ∀ {l : List α} {m : List β}, Paired F l m → ∀ {i : Nat} {a : α}, l[i]? = some a → ∃ b, m[i]? = some b ∧ F a b
  | _, _, .nil, i, a, h => by simp at h
  | _, _, .cons (b := b) p r, 0, a, h => by
    cases (show some _ = some a from h)
    exact ⟨b, rfl, p⟩
  | _, _, .cons p r, i + 1, a, h => pair_get r (i := i) h
theorem Cd.mono {K : PySem.W.Frag} {N N' : Addr → Prop} {H H' : Hp} (hn : ∀ a, N a → N' a) (hl : ∀ a xs, N a → H a = some (.lst xs) → H' a = some (.lst xs)) (ht : ∀ a xs, SqT K H a xs → SqT K H' a xs) (hd : ∀ a kvs, N a → H a = some (.dK kvs) → H' a = some (.dK kvs)) :
    ∀ (n : Nat) {v : V} {d : PyData}, Cd K N H n v d → Cd K N' H' n v d
  | 0, v, d, h => h
  | n + 1, v, d, h => by
    rcases h with h | ⟨a, xs, ds, e1, e2, na, s, l, p⟩ | ⟨a, xs, ds, e1, e2, s, l, p⟩ | ⟨a, z, i, e1, e2, na, e⟩
    · exact .inl h
    · exact .inr (.inl ⟨a, xs, ds, e1, e2, hn a na, hl a xs na s, l, pair_map (fun _ _ => Cd.mono hn hl ht hd n) p⟩)
    · exact .inr (.inr (.inl ⟨a, xs, ds, e1, e2, ht a xs s, l, pair_map (fun _ _ => Cd.mono hn hl ht hd n) p⟩))
    · exact .inr (.inr (.inr ⟨a, z, i, e1, e2, hn a na, hd a _ na e⟩))
theorem same_sqT {K : PySem.W.Frag} {H H' : Hp} (s : Same H H') {a : Addr} {xs : List V} (h : SqT K H a xs) : SqT K H' a xs := h.imp (fun r => r.imp (s a _) fun ⟨o, e⟩ => ⟨o, s a _ e⟩) id
theorem Cd.same {K : PySem.W.Frag} {N N' : Addr → Prop} {H H' : Hp} {n : Nat} {v : V} {d : PyData} (s : Same H H') (hn : ∀ a, N a → N' a) (h : Cd K N H n v d) : Cd K N' H' n v d :=
  Cd.mono hn (fun a xs _ e => s _ _ e) (fun a xs => same_sqT s) (fun a kvs _ e => s _ _ e) n h
/-- a list that isn't part of it changes -/
theorem Cd.put {K : PySem.W.Frag} {N : Addr → Prop} {H : Hp} {n : Nat} {v : V} {d : PyData} {D : Addr} {o o' : HO} (eD : H D = some o) (mo : (∃ xs, o = .lst xs) ∨ ∃ kvs, o = .dK kvs) (hD : ¬ N D) (h : Cd K N H n v d) : Cd K N (upd H D o') n v d :=
  Cd.mono (fun _ x => x) (fun a xs na s => by
    have ne : a ≠ D := fun z => hD (z ▸ na)
    rw [upd_ne ne]
    exact s) (fun a xs s => by
    rcases s with (s | ⟨o2, s⟩) | s
    · exact .inl (.inl (by rw [upd_ne (fun z => by rw [z, eD] at s; rcases mo with ⟨xs, rfl⟩ | ⟨kvs, rfl⟩ <;> cases s)]; exact s))
    · exact .inl (.inr ⟨o2, by rw [upd_ne (fun z => by rw [z, eD] at s; rcases mo with ⟨xs, rfl⟩ | ⟨kvs, rfl⟩ <;> cases s)]; exact s⟩)
    · exact .inr s) (fun a kvs na e => by
    have ne : a ≠ D := fun z => hD (z ▸ na)
    rw [upd_ne ne]
    exact e) n h
theorem flat_cd {K : PySem.W.Frag} {H : Hp} {v : V} {d : PyData} (h : Flat0 v d) : ∃ t : String, TyX K H v (.type t) ∧ PySem.W.kitOne K (.type t) (.type "list") = some false ∧ PySem.W.kitOne K (.type t) (.type "tuple") = some false ∧ PySem.W.kitOne K (.type t) (.type "dict") = some false := by
  rcases h with ⟨rfl, _⟩ | ⟨b, rfl, _⟩ | ⟨i, rfl, _⟩ | ⟨z, rfl, _⟩
  · exact ⟨_, .base .non, kit_ty (by decide +kernel), kit_ty (by decide +kernel), kit_ty (by decide +kernel)⟩
  · exact ⟨_, .base (.bl b), kit_ty (by decide +kernel), kit_ty (by decide +kernel), kit_ty (by decide +kernel)⟩
  · exact ⟨_, .base (.int i), kit_ty (by decide +kernel), kit_ty (by decide +kernel), kit_ty (by decide +kernel)⟩
  · exact ⟨_, .base (.str z), kit_ty (by decide +kernel), kit_ty (by decide +kernel), kit_ty (by decide +kernel)⟩
theorem Flat0.any {K : PySem.W.Frag} {N : Addr → Prop} {H : Hp} {v : V} {d : PyData} (h : Flat0 v d) : ∀ n, Cd K N H n v d
  | 0 => h
  | n + 1 => .inl h
theorem cd_tup {K : PySem.W.Frag} {H : Hp} {a : Addr} {xs : List V} (h : SqT K H a xs) : TyX K H (.ref a) (.type "tuple") := by
  rcases h with (h | ⟨o, h⟩) | ⟨o, its, n, h, c, _⟩
  · exact .base (.tup h)
  · exact .fTuple h
  · exact .kTuple h c
theorem put_same {H H' : Hp} {D : Addr} {o : HO} (s : Same H H') (n : H D = none) : Same H (upd H' D o) := fun b u e => by
  rw [upd_ne (fun z => by rw [z, n] at e; cases e)]
  exact s b u e
theorem cd_int {K : PySem.W.Frag} {N : Addr → Prop} {H : Hp} {i : Int} {v : V} : ∀ {n : Nat}, Cd K N H n v (.int i) → v = .int i := by
  have flat : Flat0 v (.int i) → v = .int i := fun h => by
    rcases h with ⟨rfl, e⟩ | ⟨b, rfl, e⟩ | ⟨j, rfl, e⟩ | ⟨z, rfl, e⟩ <;> cases e
    rfl
  intro n h
  cases n with
  | zero => exact flat h
  | succ n =>
    rcases h with h | ⟨a, xs, ds, e1, e2, _⟩ | ⟨a, xs, ds, e1, e2, _⟩ | ⟨a, z, i, e1, e2, _⟩
    · exact flat h
    · cases e2
    · cases e2
    · cases e2
section
variable {P : Program} {w : World} {K : PySem.W.Frag} {mg : Str → Option Value} {base : Heap}
/-- one more copy -/
theorem cd_snoc {N1 : Addr → Prop} {H H2 H3 : Hp} {D : Addr} {n : Nat} {acc : List V} {ds : List PyData} {v' : V} {dx : PyData} (hN : ∀ a, N1 a ↔ H a = none ∧ a ≠ D) (s2 : Same H H2) (e2 : H2 D = some (.lst acc)) (p2 : Paired (Cd K N1 H2 n) acc ds) (s3 : Same H2 H3) (c3 : Cd K (fun a => H2 a = none) H3 n v' dx) :
    Paired (Cd K N1 (upd H3 D (.lst (acc ++ [v']))) n) (acc ++ [v']) (ds ++ [dx]) := by
  have e3 := s3 _ _ e2
  have nD : ¬ N1 D := fun z => ((hN D).mp z).2 rfl
  refine Paired.snoc (pair_map (fun _ _ c => Cd.put e3 (.inl ⟨_, rfl⟩) nD (Cd.same s3 (fun _ x => x) c)) p2) (Cd.put e3 (.inl ⟨_, rfl⟩) nD ?_)
  exact Cd.same (Same.refl _) (fun a na => (hN a).mpr ⟨s2.free na, fun z => by
    have na : H2 a = none := na
    rw [z, e2] at na
    cases na⟩) c3
theorem take_one {α : Type} {ds : List α} {j : Nat} {x : α} (h : ds[j]? = some x) : ds.take (j + 1) = ds.take j ++ [x] := by
  rw [List.take_add_one, h]
  rfl
def spCp (K : PySem.W.Frag) (n : Nat) : Sp := fun vs H Q _ => ∃ v d, vs = [v] ∧ Cd K (fun _ => True) H n v d ∧ ∀ v' H', Same H H' → Cd K (fun a => H a = none) H' n v' d → Q v' H'
/-- over the keys of a locked dict, into a new dict -/
theorem dc_key {g : TG} {tt : TT} {tk tv : TE} {vs : List Nat} {σ : L2.St} {H1 : Hp} {D d : Addr} {o : Obj} {kvs : List (Key × V)} {Qd : Hp → Prop} (Pv : Nat → Hp → Prop) (h0 : Pv 0 (upd H1 D (.dK []))) (hl : ∀ i H, i ≤ kvs.length → Pv i H → H d = some (.frz o (.dK kvs)))
    (hs : ∀ i k v H, kvs[i]? = some (k, v) → Pv i H → g (kV k) (wipe σ vs) H fun σ2 H2 => wipe σ2 vs = wipe σ vs ∧ tt σ2 H2 fun b H3 =>
      if b = true then tk σ2 H3 fun y H4 => tv σ2 H4 fun z H5 => ∃ kvs k, y = kV k ∧ H5 D = some (.dK kvs) ∧ kvs.length < sizeLine ∧ Pv (i + 1) (upd H5 D (.dK (putK kvs k z))) else Pv (i + 1) H3) (hd : ∀ H, Pv kvs.length H → Qd H) :
    ∃ W : Nat → Nat → Hp → Prop, (∃ m, W 0 m (upd H1 D (.dK []))) ∧ ∀ i m H, W i m H →
      ((Itk d o kvs).stop i H ∧ Qd H) ∨ ((Itk d o kvs).go i H ∧ ∃ Nx : Hp → Prop, (∀ H', Nx H' → ∃ m', m' < m ∧ W (i + 1) m' H') ∧ ∀ x H', (Itk d o kvs).yld i H x H' → g x (wipe σ vs) H' fun σ2 H2 => wipe σ2 vs = wipe σ vs ∧ tt σ2 H2 fun b H3 =>
        if b = true then tk σ2 H3 fun y H4 => tv σ2 H4 fun z H5 => ∃ kvs k, y = kV k ∧ H5 D = some (.dK kvs) ∧ kvs.length < sizeLine ∧ Nx (upd H5 D (.dK (putK kvs k z))) else Nx H3) := by
  refine ⟨fun i m H => m = kvs.length - i ∧ i ≤ kvs.length ∧ Pv i H, ⟨kvs.length, by simp, Nat.zero_le _, h0⟩, ?_⟩
  rintro i m H ⟨rfl, hi, p⟩
  have q := hl i H hi p
  rcases Nat.lt_or_eq_of_le hi with hlt | rfl
  · refine .inr ⟨⟨q, hlt⟩, Pv (i + 1), fun H' p' => ⟨kvs.length - (i + 1), by omega, rfl, hlt, p'⟩, fun x H' y => ?_⟩
    obtain ⟨rfl, k, v, hk, rfl⟩ := y
    exact hs i k v _ hk p
  · exact .inl ⟨⟨q, Nat.le_refl _⟩, hd H p⟩
theorem ok_copied {f : Addr} {fd : FuncData} (F : Fun K "_copied" "_copied" s__copied f fd) (T : Txt mg) (m : mg "_copied" = some (.ref f)) (kp : PySem.W.keepIn K (.ref f) = true) (b : Binds K fd ["value"] []) : ∀ n : Nat, FnOk P w K mg base CX0 (n + 1) f fd ["value"] (spCp K n)
  | 0 => F.ok sc__copied (fun vs H Q E h => by
      obtain ⟨v, d, rfl, _⟩ := h
      rfl) (fun cdv A outer s H vs Q E hr h => by
      obtain ⟨v, d, rfl, hv, q⟩ := h
      obtain ⟨t, ty, t1, t2, t3⟩ := flat_cd hv
      refine ⟨_, (pss_cons (ps_if (pt_val (pe_callB (isiQ (K := K) rfl) (by rfl) T.isinstance_ (by decide +kernel) (pa_cons (pv 0) (pa_cons (pe_bltn (v := .ty "list") (by rfl) T.list_ (by decide +kernel) rfl) pa_nil)))) (pss_one ps_never) pss_nil)
        (pss_cons (ps_if (pt_val (pe_callB (isiQ (K := K) rfl) (by rfl) T.isinstance_ (by decide +kernel) (pa_cons (pv 0) (pa_cons (pe_bltn (v := .ty "tuple") (by rfl) T.tuple_ (by decide +kernel) rfl) pa_nil)))) (pss_one ps_never) pss_nil)
        (pss_cons (ps_if (pt_val (pe_callB (isiQ (K := K) rfl) (by rfl) T.isinstance_ (by decide +kernel) (pa_cons (pv 0) (pa_cons (pe_bltn (v := .ty "dict") (by rfl) T.dict_ (by decide +kernel) rfl) pa_nil)))) (pss_one ps_never) pss_nil)
        (pss_one (ps_ret (pv 0)))))), ?_⟩
      refine ⟨_, rfl, v, .ty "list", .type t, .type "list", false, rfl, .ty _, ty, t1, _, rfl, iteF ?_⟩
      refine ⟨_, rfl, v, .ty "tuple", .type t, .type "tuple", false, rfl, .ty _, ty, t2, _, rfl, iteF ?_⟩
      refine ⟨_, rfl, v, .ty "dict", .type t, .type "dict", false, rfl, .ty _, ty, t3, _, rfl, iteF ?_⟩
      exact ⟨_, rfl, q v H (Same.refl H) hv⟩)
  | n + 1 => by
    have G := ok_copied F T m kp b n
    refine F.ok sc__copied (fun vs H Q E h => ?_) (fun cdv A outer s H vs Q E hr h => ?_)
    · obtain ⟨v, d, rfl, _⟩ := h
      rfl
    · obtain ⟨v, d, rfl, hv, q⟩ := h
      have hrG := hr.mono (j := n + 1) (by omega)
      refine ⟨_, (pss_cons (ps_if (pt_val (pe_callB (isiQ (K := K) rfl) (by rfl) T.isinstance_ (by decide +kernel) (pa_cons (pv 0) (pa_cons (pe_bltn (v := .ty "list") (by rfl) T.list_ (by decide +kernel) rfl) pa_nil)))) (pss_one (ps_ret (pe_lc (own := [("item", 1)]) (g := gName 1) (by rfl) sc__copied.nd (piL (K := K) rfl (pv 0)) (blkOk_by (by kernel_rfl)) (fun _ _ _ _ _ => (pg_name (i := 1) sc__copied.nd rfl (.inl rfl))) (fun _ _ _ _ _ => pts_nil) (fun _ _ _ _ _ => pe_call G hrG (by rfl) m kp b .nil pass0 (pa_cons (pv 1) pa_nil))))) pss_nil)
        (pss_cons (ps_if (pt_val (pe_callB (isiQ (K := K) rfl) (by rfl) T.isinstance_ (by decide +kernel) (pa_cons (pv 0) (pa_cons (pe_bltn (v := .ty "tuple") (by rfl) T.tuple_ (by decide +kernel) rfl) pa_nil)))) (pss_one (ps_ret (pe_callTy call_tuple_of (by rfl) T.tuple_ (by decide +kernel) (pa_cons (pe_lc (own := [("item", 1)]) (g := gName 1) (by rfl) sc__copied.nd (pi_tup (pv 0)) (blkOk_by (by kernel_rfl)) (fun _ _ _ _ _ => (pg_name (i := 1) sc__copied.nd rfl (.inl rfl))) (fun _ _ _ _ _ => pts_nil) (fun _ _ _ _ _ => pe_call G hrG (by rfl) m kp b .nil pass0 (pa_cons (pv 1) pa_nil))) pa_nil)))) pss_nil)
        (pss_cons (ps_if (pt_val (pe_callB (isiQ (K := K) rfl) (by rfl) T.isinstance_ (by decide +kernel) (pa_cons (pv 0) (pa_cons (pe_bltn (v := .ty "dict") (by rfl) T.dict_ (by decide +kernel) rfl) pa_nil)))) (pss_one (ps_ret (pe_lock (pe_dc (own := [("key", 2)]) (g := gName 2) (by rfl) sc__copied.nd (pi_keys (pv 0)) (blkOk_by (by kernel_rfl)) (fun _ _ _ _ _ => (pg_name (i := 2) sc__copied.nd rfl (.inl rfl))) (fun _ _ _ _ _ => pts_nil) (fun _ _ _ _ _ => (pv 2)) (fun _ _ _ _ _ => pe_call G hrG (by rfl) m kp b .nil pass0 (pa_cons (pe_dget (hu_of hr) (pv 0) (pv 2) (fun _ _ => rfl)) pa_nil)))))) pss_nil)
        (pss_one (ps_ret (pv 0)))))), ?_⟩
      rcases hv with hv | ⟨a, xs, ds, rfl, rfl, _, hS, hl, hp⟩ | ⟨a, xs, ds, rfl, rfl, hS, hl, hp⟩ | ⟨a, z, i, rfl, rfl, _, hS⟩
      · obtain ⟨t, ty, t1, t2, t3⟩ := flat_cd hv
        refine ⟨_, rfl, v, .ty "list", .type t, .type "list", false, rfl, .ty _, ty, t1, _, rfl, iteF ?_⟩
        refine ⟨_, rfl, v, .ty "tuple", .type t, .type "tuple", false, rfl, .ty _, ty, t2, _, rfl, iteF ?_⟩
        refine ⟨_, rfl, v, .ty "dict", .type t, .type "dict", false, rfl, .ty _, ty, t3, _, rfl, iteF ?_⟩
        exact ⟨_, rfl, q v H (Same.refl H) (.inl hv)⟩
      · refine ⟨_, rfl, .ref a, .ty "list", .type "list", .type "list", true, rfl, .ty _, .base (.lst hS), kit_ty (by decide +kernel), _, rfl, iteT ?_⟩
        refine ⟨_, rfl, a, rfl, ⟨xs, SqL.of hS⟩, fun D nD => ?_⟩
        refine lcL (K := K) (a := a) (xs := xs) (fun j acc H2 => Same H H2 ∧ Paired (Cd K (fun a => H a = none ∧ a ≠ D) H2 n) acc (ds.take j)) ⟨same_new nD, .nil⟩ (fun j acc H2 h => h.1.seq (SqL.of hS)) ?_ ?_
        · rintro j x acc H2 hx hl2 e2 ⟨s2, p2⟩
          obtain ⟨dx, ed, cx⟩ := pair_get hp hx
          refine yesT ⟨_, rfl, x, dx, rfl, Cd.same s2 (fun _ _ => trivial) cx, fun v' H3 s3 c3 => ?_⟩
          have hj := (List.getElem?_eq_some_iff.mp hx).1
          refine LcK.mk hl2 (by omega) (s3 _ _ e2) ⟨put_same (s2.trans s3) nD, ?_⟩
          rw [take_one ed]
          exact cd_snoc (fun _ => Iff.rfl) s2 e2 p2 s3 c3
        · rintro acc H2 hl2 e2 ⟨s2, p2⟩
          rw [pair_len hp, List.take_length] at p2
          exact q (.ref D) H2 s2 (.inr (.inl ⟨D, acc, ds, rfl, rfl, nD, e2, by omega, pair_map (fun _ _ c => Cd.same (Same.refl _) (fun _ x => x.1) c) p2⟩))
      · refine ⟨_, rfl, .ref a, .ty "list", .type "tuple", .type "list", false, rfl, .ty _, cd_tup hS, kit_ty (by decide +kernel), _, rfl, iteF ?_⟩
        refine ⟨_, rfl, .ref a, .ty "tuple", .type "tuple", .type "tuple", true, rfl, .ty _, cd_tup hS, kit_ty (by decide +kernel), _, rfl, iteT ?_⟩
        refine ⟨_, rfl, a, rfl, ⟨xs, hS⟩, fun D nD => ?_⟩
        refine lcT (K := K) (a := a) (xs := xs) (fun j acc H2 => Same H H2 ∧ Paired (Cd K (fun a => H a = none ∧ a ≠ D) H2 n) acc (ds.take j)) ⟨same_new nD, .nil⟩ (fun j acc H2 h => same_sqT h.1 hS) ?_ ?_
        · rintro j x acc H2 hx hl2 e2 ⟨s2, p2⟩
          obtain ⟨dx, ed, cx⟩ := pair_get hp hx
          refine yesT ⟨_, rfl, x, dx, rfl, Cd.same s2 (fun _ _ => trivial) cx, fun v' H3 s3 c3 => ?_⟩
          have hj := (List.getElem?_eq_some_iff.mp hx).1
          refine LcK.mk hl2 (by omega) (s3 _ _ e2) ⟨put_same (s2.trans s3) nD, ?_⟩
          rw [take_one ed]
          exact cd_snoc (fun _ => Iff.rfl) s2 e2 p2 s3 c3
        · rintro acc H2 hl2 e2 ⟨s2, p2⟩
          rw [pair_len hp, List.take_length] at p2
          refine ⟨D, acc, rfl, .inl ⟨SqL.of e2, fun p np => ?_⟩⟩
          exact q (.ref p) _ (s2.trans (same_new np)) (.inr (.inr (.inl ⟨p, acc, ds, rfl, rfl, SqT.of upd_same, by omega, pair_map (fun _ _ c => Cd.same (same_new np) (fun _ x => x.1) c) p2⟩)))
      · refine ⟨_, rfl, .ref a, .ty "list", .type "dict", .type "list", false, rfl, .ty _, .base (.dK hS), kit_ty (by decide +kernel), _, rfl, iteF ?_⟩
        refine ⟨_, rfl, .ref a, .ty "tuple", .type "dict", .type "tuple", false, rfl, .ty _, .base (.dK hS), kit_ty (by decide +kernel), _, rfl, iteF ?_⟩
        refine ⟨_, rfl, .ref a, .ty "dict", .type "dict", .type "dict", true, rfl, .ty _, .base (.dK hS), kit_ty (by decide +kernel), _, rfl, iteT ?_⟩
        refine ⟨a, _, hS, trivial, fun od => ⟨_, rfl, a, od, rfl, .inl ⟨_, upd_same, fun D nD => ?_⟩⟩⟩
        have na : D ≠ a := fun z => by rw [z, upd_same] at nD; cases nD
        have nH : H D = none := by rw [upd_ne na] at nD; exact nD
        have ef : upd H a (.frz od (.dK [(.inr z, .int i)])) a = some (.frz od (.dK [(.inr z, .int i)])) := upd_same
        refine dc_key (fun j H2 => Same (upd H a (.frz od (.dK [(.inr z, .int i)]))) H2 ∧ H2 D = some (.dK (if j = 0 then [] else [(.inr z, .int i)]))) ⟨same_new nD, upd_same⟩ (fun j H2 _ h => h.1 _ _ ef) ?_ ?_
        · rintro j k v H2 hk ⟨s2, e2⟩
          have hj : j = 0 := by
            have := (List.getElem?_eq_some_iff.mp hk).1
            simpa using this
          subst hj
          cases (show some ((.inr z : Key), V.int i) = some (k, v) from hk)
          refine ⟨rfl, yesT ⟨_, rfl, _, rfl, _, rfl, a, .int i, rfl, .inl ⟨_, .inr z, .inr ⟨_, s2 _ _ ef⟩, rfl, ?_⟩, .int i, .int i, rfl, Flat0.any (.inr (.inr (.inl ⟨i, rfl, rfl⟩))) n, fun v' H3 s3 c3 => ?_⟩⟩
          · simp [valV]
          cases cd_int c3
          refine ⟨[], .inr z, rfl, s3 _ _ e2, by decide, put_same (s2.trans s3) nD, upd_same⟩
        · rintro H2 ⟨s2, e2⟩
          refine ⟨s2 _ _ ef, q (.ref D) _ (fun b u e => ?_) (.inr (.inr (.inr ⟨D, z, i, rfl, rfl, nH, by rw [upd_ne na]; exact e2⟩)))⟩
          by_cases hb : b = a
          · rw [hb] at e ⊢
            rw [upd_same, ← e, hS]
          · rw [upd_ne hb]
            exact s2 b u (by rw [upd_ne hb]; exact e)
end
end Eh

set_option Elab.async false
set_option linter.all false
set_option maxRecDepth 100000
set_option maxHeartbeats 4000000
/-! an own error's __init__ that keeps a copy; such an error held as a value -/
namespace Eh
open PySem PySem.Spec PyProof.Rows L2
open NdefX (NF NScope startF envF ncx nscope_by)
section
variable {P : Program} {w : World} {K : PySem.W.Frag} {mg : Str → Option Value} {base : Heap}
def spKeepC (K : PySem.W.Frag) (C : Addr) (f : Str) (n : Nat) : Sp := fun vs H Q _ => ∃ a v d, vs = [.ref a, v] ∧ H a = some (exo a C none) ∧ Cd K (fun _ => True) H n v d ∧ ∀ v' dx H', Same H H' → Cd K (fun b => H b = none) H' n v' d → H' dx = none → dx ≠ a → Q .non (upd (upd H' dx (exd dx [(f, v')])) a (exo a C (some dx)))
theorem ok_keepC {F : NF} {f fC C : Addr} {fd fdC : FuncData} {B newId initId : String} {bmB : List Value} {n : Nat} {x fld msg : Str} {ar : Arg} {j : Nat} {p0 p1 p2 p3 p4 p5 q0 q1 q2 q3 q4 q5 : Pos} {pl : Env → Sem Bool} (BF : BaseF B newId initId bmB) (T : OexB K C B newId initId bmB) (hm : mg "super" = none) (I0 : InitE P K C f F fd)
    (S : NScope ["self", x, "__class__"] ["self", x] ["__class__"] F.scope)
    (hbody : F.body = [.Expr (.Call (.Attribute (.Call (.Name "super" p0) [] [] p1) "__init__" p2) [.Constant (.str msg) j p3] [] p4) p5, .Assign [.Attribute (.Name "self" q0) fld q1] (.Call (.Name "_copied" q2) [.Name x q3] [] q4) q5])
    (hp : (F.params.posonlyargs ++ F.params.args).head? = some ar) (ha : ar.arg = "self") (hks : F.scope.names.lookup ("super" : Str) = some .globalImplicit) (hkc : F.scope.names.lookup ("__class__" : Str) = some .free) (hcg : F.scope.names.lookup ("_copied" : Str) = some .globalImplicit) (hlen : msg.length ≤ 1000)
    (hx1 : (x == ("__debug__" : Str)) = false) (hx2 : (x == ("__classdict__" : Str)) = false) (hno : PySem.W.takerIn K C fld = some none)
    (hc : ∀ env : Env, eval (.Call (.Attribute (.Call (.Name "super" p0) [] [] p1) "__init__" p2) [.Constant (.str msg) j p3] [] p4) env = (do
      let ov ← attributeBase (.Call (.Name "super" p0) [] [] p1) "__init__" env (eval (.Call (.Name "super" p0) [] [] p1) env)
      standAt p2.atName
      let (f, first) ← holding [ov] (getMethod ov "__init__" (pl env))
      callWith p4 f first (backTo p4 (starEach [.Constant (.str msg) j p3] env)) []))
    (C__copied : Cal P w K mg base (n + 1) "_copied" fC fdC ["value"] (spCp K n)) : FnOk P w K mg base CX0 (n + 2) f fd ["self", x] (spKeepC K C fld n) := by
  refine fn_init BF T hm I0 S hbody hp (by rw [ha]; rfl) hks hkc hlen hc (fun vs H Q E h => ?_) (fun vs H Q E h => ?_) fun A outer s H vs Q E hr h => ?_
  · obtain ⟨a, v, d, rfl, _⟩ := h
    rfl
  · obtain ⟨a, v, d, rfl, ea, _⟩ := h
    exact ⟨a, _, rfl, ea⟩
  · obtain ⟨a, v, d, rfl, ea, hv, q⟩ := h
    have vs_ : Vis F.scope "self" := .inl (S.par _ (by simp))
    have vx : Vis F.scope x := .inl (S.par _ (by simp))
    refine ⟨_, pss_one (ps_keep (X := ncx CX0 P w K mg base ["self", x, "__class__"] F f A outer s H E) BF T hno (pe_var (i := 0) rfl vs_ (by decide) (by decide)) (pe_call C__copied.G hr hcg C__copied.m C__copied.k C__copied.b .nil pass0 (pa_cons (pe_var (i := 1) rfl vx hx1 hx2) pa_nil))), ?_⟩
    exact ⟨_, rfl, v, d, rfl, hv, fun v' H' s' c' => ⟨_, rfl, a, rfl, s' _ _ ea, fun dx nd ne => q v' dx H' s' c' nd ne⟩⟩
end
/-- an error that keeps a copy of the data d in its field f -/
def Kept (K : PySem.W.Frag) (N : Addr → Prop) (H : Hp) (a C : Addr) (f : Str) (n : Nat) (d : PyData) : Prop := ∃ dx v, H a = some (exo a C (some dx)) ∧ H dx = some (exd dx [(f, v)]) ∧ Cd K N H n v d
theorem Kept.same {K : PySem.W.Frag} {N N' : Addr → Prop} {H H' : Hp} {a C : Addr} {f : Str} {n : Nat} {d : PyData} (s : Same H H') (hn : ∀ a, N a → N' a) (h : Kept K N H a C f n d) : Kept K N' H' a C f n d := by
  obtain ⟨dx, v, e1, e2, c⟩ := h
  exact ⟨dx, v, s _ _ e1, s _ _ e2, c.same s hn⟩
theorem Kept.er {K : PySem.W.Frag} {N : Addr → Prop} {H : Hp} {a C : Addr} {f : Str} {n : Nat} {d : PyData} (h : Kept K N H a C f n d) : ErAt H a C := by
  obtain ⟨dx, v, e1, e2, _⟩ := h
  exact .inr ⟨dx, _, e1, e2⟩
/-- C(v), a value: what stands then -/
theorem kept_made {K : PySem.W.Frag} {C : Addr} {f : Str} {n : Nat} {v : V} {d : PyData} {H : Hp} {Q : VK} (hv : Cd K (fun _ => True) H n v d) (q : ∀ a H', Same H H' → H a = none → Kept K (fun b => H b = none) H' a C f n d → Q (.ref a) H') :
    ∀ a, H a = none → spKeepC K C f n [.ref a, v] (upd H a (exo a C none)) (fun w H2 => w = .non ∧ Q (.ref a) H2) (fun _ _ _ => False) := fun a na => by
  refine ⟨a, v, d, rfl, upd_same, hv.same (same_new na) (fun _ x => x), fun v' dx H' s' c' nd ne => ⟨rfl, ?_⟩⟩
  have ea := s' _ _ (upd_same (H := H) (a := a) (o := exo a C none))
  have s0 : Same H H' := (same_new na).trans s'
  have nH : H dx = none := s0.free nd
  refine q a _ (fun b u e => ?_) na ⟨dx, v', upd_same, by rw [upd_ne ne]; exact upd_same, ?_⟩
  · rw [upd_ne (ne_of_none e na), upd_ne (ne_of_none e nH)]
    exact s0 b u e
  · refine Cd.mono (N := fun b => upd H a (exo a C none) b = none) (fun b hb => ?_) (fun b xs hb e => ?_) (fun b xs e => ?_) (fun b kvs hb e => ?_) n c'
    · by_cases z : b = a
      · rw [z]; exact na
      · rw [← upd_ne z (H := H) (o := exo a C none)]; exact hb
    · rw [upd_ne (fun z => by rw [z, upd_same] at hb; cases hb), upd_ne (ne_of_none e nd)]
      exact e
    · rcases e with (e | ⟨o, e⟩) | e
      · exact .inl (.inl (by rw [upd_ne (fun z => by rw [z, ea] at e; cases e), upd_ne (ne_of_none e nd)]; exact e))
      · exact .inl (.inr ⟨o, by rw [upd_ne (fun z => by rw [z, ea] at e; cases e), upd_ne (ne_of_none e nd)]; exact e⟩)
      · exact .inr e
    · rw [upd_ne (fun z => by rw [z, upd_same] at hb; cases hb), upd_ne (ne_of_none e nd)]
      exact e
end Eh

set_option Elab.async false
set_option linter.all false
set_option maxRecDepth 100000
set_option maxHeartbeats 8000000
/-! which classes an error belongs to -/
namespace Eh
open PySem PySem.Spec PyProof.Rows L2
theorem op_mulS {X : Cx} : OpR X (binaryOp .Mult) (fun x y H Q => ∃ z i, x = .str z ∧ y = .int i ∧ z.length ≤ 16 ∧ 0 ≤ i ∧ i ≤ 1000 ∧ Q (.str (Txt.mul z i)) H) := by
  intro pins s σ H x y v u Q I rx ry h
  obtain ⟨z, i, rfl, rfl, hz, h0, h1, q⟩ := h
  obtain ⟨t, rfl⟩ := rx
  obtain ⟨t', rfl⟩ := ry
  exact PySem.W.KXi.mul rfl hz (by omega) (by omega) fun t2 k _ _ => ⟨.str _, H, I.kept (t' := k) fun _ _ e => e, ⟨t2, rfl⟩, q⟩
/-- the own classes of errors -/
structure Own (K : PySem.W.Frag) (mg : Str → Option Value) where
  aInvalidWord : Addr
  aInvalidPromise : Addr
  aInvalidPlace : Addr
  aInvalidCall : Addr
  aInvalidRun : Addr
  aInvalidWorld : Addr
  aInvalidPlan : Addr
  aInvalidBook : Addr
  aInvalidOperation : Addr
  aParseError : Addr
  aPromiseError : Addr
  aUnknownFact : Addr
  aNotKept : Addr
  aNothingToUndo : Addr
  aTooMany : Addr
  aRefused : Addr
  aInvalidNumber : Addr
  gInvalidWord : mg "InvalidWord" = some (.ref aInvalidWord)
  gInvalidPromise : mg "InvalidPromise" = some (.ref aInvalidPromise)
  gInvalidPlace : mg "InvalidPlace" = some (.ref aInvalidPlace)
  gInvalidCall : mg "InvalidCall" = some (.ref aInvalidCall)
  gInvalidRun : mg "InvalidRun" = some (.ref aInvalidRun)
  gInvalidWorld : mg "InvalidWorld" = some (.ref aInvalidWorld)
  gInvalidPlan : mg "InvalidPlan" = some (.ref aInvalidPlan)
  gInvalidBook : mg "InvalidBook" = some (.ref aInvalidBook)
  gInvalidOperation : mg "InvalidOperation" = some (.ref aInvalidOperation)
  gParseError : mg "ParseError" = some (.ref aParseError)
  gPromiseError : mg "PromiseError" = some (.ref aPromiseError)
  gUnknownFact : mg "UnknownFact" = some (.ref aUnknownFact)
  gNotKept : mg "NotKept" = some (.ref aNotKept)
  gNothingToUndo : mg "NothingToUndo" = some (.ref aNothingToUndo)
  gTooMany : mg "TooMany" = some (.ref aTooMany)
  gRefused : mg "Refused" = some (.ref aRefused)
  gInvalidNumber : mg "InvalidNumber" = some (.ref aInvalidNumber)
  zValueError : mg "ValueError" = none
  zKeyError : mg "KeyError" = none
  zIndexError : mg "IndexError" = none
  zLookupError : mg "LookupError" = none
  zOverflowError : mg "OverflowError" = none
  zArithmeticError : mg "ArithmeticError" = none
  zRuntimeError : mg "RuntimeError" = none
section
variable {K : PySem.W.Frag} {mg : Str → Option Value}
def Own.k1 (O : Own K mg) : List Value := [(.ref O.aInvalidWord), (.ref O.aInvalidPromise), (.ref O.aInvalidPlace), (.ref O.aInvalidCall), (.ref O.aInvalidRun), (.ref O.aInvalidWorld), (.ref O.aInvalidPlan), (.ref O.aInvalidBook), (.ref O.aInvalidOperation), (.ref O.aParseError), (.ref O.aPromiseError), (.type "ValueError")]
def Own.k2 (O : Own K mg) : List Value := [(.ref O.aUnknownFact), (.ref O.aNotKept), (.ref O.aNothingToUndo), (.ref O.aTooMany), (.ref O.aRefused), (.ref O.aInvalidNumber), (.type "KeyError"), (.type "IndexError"), (.type "LookupError"), (.type "OverflowError"), (.type "ArithmeticError"), (.type "RuntimeError")]
def Row (K : PySem.W.Frag) (ks : List Value) (C : Addr) (bs : List Bool) : Prop := Paired (fun cv b => PySem.W.kitOne K (.ref C) cv = some b) ks bs
def bitT (b : Bool) : Str := if b = true then "x" else "."
def bitsT (bs : List Bool) : Str := Txt.join "" (bs.map bitT)
theorem row12 {C : Addr} {bs : List Bool} {c1 c2 c3 c4 c5 c6 c7 c8 c9 c10 c11 c12 : Value} (h : Row K [c1, c2, c3, c4, c5, c6, c7, c8, c9, c10, c11, c12] C bs) : ∃ b1 b2 b3 b4 b5 b6 b7 b8 b9 b10 b11 b12, bs = [b1, b2, b3, b4, b5, b6, b7, b8, b9, b10, b11, b12] ∧
    PySem.W.kitOne K (.ref C) c1 = some b1 ∧ PySem.W.kitOne K (.ref C) c2 = some b2 ∧ PySem.W.kitOne K (.ref C) c3 = some b3 ∧ PySem.W.kitOne K (.ref C) c4 = some b4 ∧ PySem.W.kitOne K (.ref C) c5 = some b5 ∧ PySem.W.kitOne K (.ref C) c6 = some b6 ∧
    PySem.W.kitOne K (.ref C) c7 = some b7 ∧ PySem.W.kitOne K (.ref C) c8 = some b8 ∧ PySem.W.kitOne K (.ref C) c9 = some b9 ∧ PySem.W.kitOne K (.ref C) c10 = some b10 ∧ PySem.W.kitOne K (.ref C) c11 = some b11 ∧ PySem.W.kitOne K (.ref C) c12 = some b12 := by
  unfold Row at h
  rcases h with _ | ⟨h1, h⟩
  rcases h with _ | ⟨h2, h⟩
  rcases h with _ | ⟨h3, h⟩
  rcases h with _ | ⟨h4, h⟩
  rcases h with _ | ⟨h5, h⟩
  rcases h with _ | ⟨h6, h⟩
  rcases h with _ | ⟨h7, h⟩
  rcases h with _ | ⟨h8, h⟩
  rcases h with _ | ⟨h9, h⟩
  rcases h with _ | ⟨h10, h⟩
  rcases h with _ | ⟨h11, h⟩
  rcases h with _ | ⟨h12, h⟩
  cases h
  exact ⟨_, _, _, _, _, _, _, _, _, _, _, _, rfl, h1, h2, h3, h4, h5, h6, h7, h8, h9, h10, h11, h12⟩
end
section
variable {P : Program} {w : World} {K : PySem.W.Frag} {mg : Str → Option Value} {base : Heap}
def spBits (K : PySem.W.Frag) (ks : List Value) : Sp := fun vs H Q _ => ∃ a C bs, vs = [.ref a] ∧ ErAt H a C ∧ PySem.W.EhExc K C ∧ Row K ks C bs ∧ ∀ H', Same H H' → Q (.str (bitsT bs)) H'
theorem ok_kinds {f : Addr} {fd : FuncData} (F : Fun K "_law_kinds" "_law_kinds" s__law_kinds f fd) (T : Txt mg) (O : Own K mg) : FnOk P w K mg base CX0 1 f fd ["error"] (spBits K O.k1) := by
  refine F.ok sc__law_kinds (fun vs H Q E h => ?_) (fun cdv A outer s H vs Q E hr h => ?_)
  · obtain ⟨a, C, bs, rfl, _⟩ := h
    rfl
  · obtain ⟨a, C, bs, rfl, er, X, row, q⟩ := h
    obtain ⟨b1, b2, b3, b4, b5, b6, b7, b8, b9, b10, b11, b12, rfl, h1, h2, h3, h4, h5, h6, h7, h8, h9, h10, h11, h12⟩ := row12 row
    refine ⟨_, (pss_cons (ps_set (i := 1) sc__law_kinds.nd rfl (.inl rfl) (pe_lst (pa_cons (pe_callB (call_isX (K := K) rfl) (by rfl) T.isinstance_ (by decide +kernel) (pa_cons (pv 0) (pa_cons (pe_glob (v := .ref O.aInvalidWord) rfl O.gInvalidWord rfl) pa_nil))) (pa_cons (pe_callB (call_isX (K := K) rfl) (by rfl) T.isinstance_ (by decide +kernel) (pa_cons (pv 0) (pa_cons (pe_glob (v := .ref O.aInvalidPromise) rfl O.gInvalidPromise rfl) pa_nil))) (pa_cons (pe_callB (call_isX (K := K) rfl) (by rfl) T.isinstance_ (by decide +kernel) (pa_cons (pv 0) (pa_cons (pe_glob (v := .ref O.aInvalidPlace) rfl O.gInvalidPlace rfl) pa_nil))) pa_nil)))))
  (pss_cons (ps_set (i := 1) sc__law_kinds.nd rfl (.inl rfl) (pe_op op_cat (pv 1) (pe_lst (pa_cons (pe_callB (call_isX (K := K) rfl) (by rfl) T.isinstance_ (by decide +kernel) (pa_cons (pv 0) (pa_cons (pe_glob (v := .ref O.aInvalidCall) rfl O.gInvalidCall rfl) pa_nil))) (pa_cons (pe_callB (call_isX (K := K) rfl) (by rfl) T.isinstance_ (by decide +kernel) (pa_cons (pv 0) (pa_cons (pe_glob (v := .ref O.aInvalidRun) rfl O.gInvalidRun rfl) pa_nil))) (pa_cons (pe_callB (call_isX (K := K) rfl) (by rfl) T.isinstance_ (by decide +kernel) (pa_cons (pv 0) (pa_cons (pe_glob (v := .ref O.aInvalidWorld) rfl O.gInvalidWorld rfl) pa_nil))) pa_nil))))))
  (pss_cons (ps_set (i := 1) sc__law_kinds.nd rfl (.inl rfl) (pe_op op_cat (pv 1) (pe_lst (pa_cons (pe_callB (call_isX (K := K) rfl) (by rfl) T.isinstance_ (by decide +kernel) (pa_cons (pv 0) (pa_cons (pe_glob (v := .ref O.aInvalidPlan) rfl O.gInvalidPlan rfl) pa_nil))) (pa_cons (pe_callB (call_isX (K := K) rfl) (by rfl) T.isinstance_ (by decide +kernel) (pa_cons (pv 0) (pa_cons (pe_glob (v := .ref O.aInvalidBook) rfl O.gInvalidBook rfl) pa_nil))) (pa_cons (pe_callB (call_isX (K := K) rfl) (by rfl) T.isinstance_ (by decide +kernel) (pa_cons (pv 0) (pa_cons (pe_glob (v := .ref O.aInvalidOperation) rfl O.gInvalidOperation rfl) pa_nil))) pa_nil))))))
  (pss_cons (ps_set (i := 1) sc__law_kinds.nd rfl (.inl rfl) (pe_op op_cat (pv 1) (pe_lst (pa_cons (pe_callB (call_isX (K := K) rfl) (by rfl) T.isinstance_ (by decide +kernel) (pa_cons (pv 0) (pa_cons (pe_glob (v := .ref O.aParseError) rfl O.gParseError rfl) pa_nil))) (pa_cons (pe_callB (call_isX (K := K) rfl) (by rfl) T.isinstance_ (by decide +kernel) (pa_cons (pv 0) (pa_cons (pe_glob (v := .ref O.aPromiseError) rfl O.gPromiseError rfl) pa_nil))) (pa_cons (pe_callB (call_isX (K := K) rfl) (by rfl) T.isinstance_ (by decide +kernel) (pa_cons (pv 0) (pa_cons (pe_bltn (v := .ty "ValueError") (by rfl) O.zValueError (by decide +kernel) rfl) pa_nil))) pa_nil))))))
  (pss_one (ps_ret (bmK (K := K) rfl (pe_bm PySem.F.plainAttrs_str PySem.F.slot_str_join PySem.F.type_str_join mt_join pe_str (pa_cons (pe_lc (own := [("one", 2)]) (g := gName 2) (by rfl) sc__law_kinds.nd (piL (K := K) rfl (pv 1)) (blkOk_by (by kernel_rfl)) (fun _ _ _ _ _ => (pg_name (i := 2) sc__law_kinds.nd rfl (.inl rfl))) (fun _ _ _ _ _ => pts_nil) (fun _ _ _ _ _ => (pe_ifExp (pt_val (pv 2)) pe_str pe_str))) pa_nil))))))))), ?_⟩
    refine ⟨_, rfl, a, C, _, _, b1, rfl, (fun _ r => r), er, X, h1, _, rfl, a, C, _, _, b2, rfl, (fun _ r => r), er, X, h2, _, rfl, a, C, _, _, b3, rfl, (fun _ r => r), er, X, h3, lenOk 3, fun l0 n0 => ?_⟩
    have s0 := same_new (o := .lst [V.bl b1, .bl b2, .bl b3]) n0
    have e0 : upd H l0 (.lst [V.bl b1, .bl b2, .bl b3]) l0 = some (.lst [V.bl b1, .bl b2, .bl b3]) := upd_same
    generalize upd H l0 (.lst [V.bl b1, .bl b2, .bl b3]) = H0 at s0 e0 ⊢
    refine ⟨_, rfl, _, rfl, a, C, _, _, b4, rfl, (fun _ r => r), (er.same s0), X, h4, _, rfl, a, C, _, _, b5, rfl, (fun _ r => r), (er.same s0), X, h5, _, rfl, a, C, _, _, b6, rfl, (fun _ r => r), (er.same s0), X, h6, lenOk 3, fun m1 k1 => ?_⟩
    have t1 := same_new (o := .lst [V.bl b4, .bl b5, .bl b6]) k1
    refine ⟨_, _, _, _, rfl, rfl, t1 _ _ e0, upd_same, (by rw [sizeLine_eq]; show 3 + 3 ≤ _; omega), fun l1 n1 => ?_⟩
    have s1 := s0.trans (t1.trans (same_new (o := .lst ([V.bl b1, .bl b2, .bl b3] ++ [V.bl b4, .bl b5, .bl b6])) n1))
    have e1 : upd (upd H0 m1 (.lst [V.bl b4, .bl b5, .bl b6])) l1 (.lst ([V.bl b1, .bl b2, .bl b3] ++ [V.bl b4, .bl b5, .bl b6])) l1 = some (.lst [V.bl b1, .bl b2, .bl b3, .bl b4, .bl b5, .bl b6]) := upd_same
    generalize upd (upd H0 m1 (.lst [V.bl b4, .bl b5, .bl b6])) l1 (.lst ([V.bl b1, .bl b2, .bl b3] ++ [V.bl b4, .bl b5, .bl b6])) = H1 at s1 e1 ⊢
    refine ⟨_, rfl, _, rfl, a, C, _, _, b7, rfl, (fun _ r => r), (er.same s1), X, h7, _, rfl, a, C, _, _, b8, rfl, (fun _ r => r), (er.same s1), X, h8, _, rfl, a, C, _, _, b9, rfl, (fun _ r => r), (er.same s1), X, h9, lenOk 3, fun m2 k2 => ?_⟩
    have t2 := same_new (o := .lst [V.bl b7, .bl b8, .bl b9]) k2
    refine ⟨_, _, _, _, rfl, rfl, t2 _ _ e1, upd_same, (by rw [sizeLine_eq]; show 6 + 3 ≤ _; omega), fun l2 n2 => ?_⟩
    have s2 := s1.trans (t2.trans (same_new (o := .lst ([V.bl b1, .bl b2, .bl b3, .bl b4, .bl b5, .bl b6] ++ [V.bl b7, .bl b8, .bl b9])) n2))
    have e2 : upd (upd H1 m2 (.lst [V.bl b7, .bl b8, .bl b9])) l2 (.lst ([V.bl b1, .bl b2, .bl b3, .bl b4, .bl b5, .bl b6] ++ [V.bl b7, .bl b8, .bl b9])) l2 = some (.lst [V.bl b1, .bl b2, .bl b3, .bl b4, .bl b5, .bl b6, .bl b7, .bl b8, .bl b9]) := upd_same
    generalize upd (upd H1 m2 (.lst [V.bl b7, .bl b8, .bl b9])) l2 (.lst ([V.bl b1, .bl b2, .bl b3, .bl b4, .bl b5, .bl b6] ++ [V.bl b7, .bl b8, .bl b9])) = H2 at s2 e2 ⊢
    refine ⟨_, rfl, _, rfl, a, C, _, _, b10, rfl, (fun _ r => r), (er.same s2), X, h10, _, rfl, a, C, _, _, b11, rfl, (fun _ r => r), (er.same s2), X, h11, _, rfl, a, C, _, _, b12, rfl, (fun _ r => r), (er.same s2), X, h12, lenOk 3, fun m3 k3 => ?_⟩
    have t3 := same_new (o := .lst [V.bl b10, .bl b11, .bl b12]) k3
    refine ⟨_, _, _, _, rfl, rfl, t3 _ _ e2, upd_same, (by rw [sizeLine_eq]; show 9 + 3 ≤ _; omega), fun l3 n3 => ?_⟩
    have s3 := s2.trans (t3.trans (same_new (o := .lst ([V.bl b1, .bl b2, .bl b3, .bl b4, .bl b5, .bl b6, .bl b7, .bl b8, .bl b9] ++ [V.bl b10, .bl b11, .bl b12])) n3))
    have e3 : upd (upd H2 m3 (.lst [V.bl b10, .bl b11, .bl b12])) l3 (.lst ([V.bl b1, .bl b2, .bl b3, .bl b4, .bl b5, .bl b6, .bl b7, .bl b8, .bl b9] ++ [V.bl b10, .bl b11, .bl b12])) l3 = some (.lst [V.bl b1, .bl b2, .bl b3, .bl b4, .bl b5, .bl b6, .bl b7, .bl b8, .bl b9, .bl b10, .bl b11, .bl b12]) := upd_same
    generalize upd (upd H2 m3 (.lst [V.bl b10, .bl b11, .bl b12])) l3 (.lst ([V.bl b1, .bl b2, .bl b3, .bl b4, .bl b5, .bl b6, .bl b7, .bl b8, .bl b9] ++ [V.bl b10, .bl b11, .bl b12])) = H3 at s3 e3 ⊢
    refine ⟨rfl, _, rfl, l3, rfl, ⟨_, SqL.of e3⟩, fun D nD => ?_⟩
    refine lcL (K := K) (a := l3) (xs := [V.bl b1, .bl b2, .bl b3, .bl b4, .bl b5, .bl b6, .bl b7, .bl b8, .bl b9, .bl b10, .bl b11, .bl b12]) (fun j acc H9 => Same H3 H9 ∧ acc = (([b1, b2, b3, b4, b5, b6, b7, b8, b9, b10, b11, b12].map bitT).take j).map V.str) ⟨same_new nD, rfl⟩ (fun j acc H9 h => h.1.seq (SqL.of e3)) ?_ ?_
    · rintro j x acc H9 hx hl2 e9 ⟨s9, ea⟩
      have hx : ([b1, b2, b3, b4, b5, b6, b7, b8, b9, b10, b11, b12].map V.bl)[j]? = some x := hx
      rw [List.getElem?_map] at hx
      obtain ⟨b, hb, rfl⟩ := Option.map_eq_some_iff.mp hx
      have hj : j < 12 := (List.getElem?_eq_some_iff.mp hb).1
      have hb2 : ([b1, b2, b3, b4, b5, b6, b7, b8, b9, b10, b11, b12].map bitT)[j]? = some (bitT b) := by rw [List.getElem?_map, hb]; rfl
      refine yesT ⟨_, rfl, b, rfl, ?_⟩
      rw [show acc = _ from ea] at hl2 e9
      have fin : LcK (fun j acc H9 => Same H3 H9 ∧ acc = (([b1, b2, b3, b4, b5, b6, b7, b8, b9, b10, b11, b12].map bitT).take j).map V.str) D j (.str (bitT b)) H9 := LcK.mk hl2 (by omega) e9 ⟨put_same s9 nD, by rw [take_one hb2, List.map_append]; rfl⟩
      cases b
      · exact iteF fin
      · exact iteT fin
    · rintro acc H9 hl2 e9 ⟨s9, ea⟩
      refine ⟨"", D, [b1, b2, b3, b4, b5, b6, b7, b8, b9, b10, b11, b12].map bitT, rfl, rfl, .inl (SqL.of (e9.trans (by rw [ea]; rfl))), ?_, q H9 (s3.trans s9)⟩
      have one : ∀ b, (bitT b).length = 1 := fun b => by cases b <;> decide +kernel
      simp [one]
      decide +kernel
theorem ok_others {f : Addr} {fd : FuncData} (F : Fun K "_law_others" "_law_others" s__law_others f fd) (T : Txt mg) (O : Own K mg) : FnOk P w K mg base CX0 1 f fd ["error"] (spBits K O.k2) := by
  refine F.ok sc__law_others (fun vs H Q E h => ?_) (fun cdv A outer s H vs Q E hr h => ?_)
  · obtain ⟨a, C, bs, rfl, _⟩ := h
    rfl
  · obtain ⟨a, C, bs, rfl, er, X, row, q⟩ := h
    obtain ⟨b1, b2, b3, b4, b5, b6, b7, b8, b9, b10, b11, b12, rfl, h1, h2, h3, h4, h5, h6, h7, h8, h9, h10, h11, h12⟩ := row12 row
    refine ⟨_, (pss_cons (ps_set (i := 1) sc__law_others.nd rfl (.inl rfl) (pe_lst (pa_cons (pe_callB (call_isX (K := K) rfl) (by rfl) T.isinstance_ (by decide +kernel) (pa_cons (pv 0) (pa_cons (pe_glob (v := .ref O.aUnknownFact) rfl O.gUnknownFact rfl) pa_nil))) (pa_cons (pe_callB (call_isX (K := K) rfl) (by rfl) T.isinstance_ (by decide +kernel) (pa_cons (pv 0) (pa_cons (pe_glob (v := .ref O.aNotKept) rfl O.gNotKept rfl) pa_nil))) (pa_cons (pe_callB (call_isX (K := K) rfl) (by rfl) T.isinstance_ (by decide +kernel) (pa_cons (pv 0) (pa_cons (pe_glob (v := .ref O.aNothingToUndo) rfl O.gNothingToUndo rfl) pa_nil))) pa_nil)))))
  (pss_cons (ps_set (i := 1) sc__law_others.nd rfl (.inl rfl) (pe_op op_cat (pv 1) (pe_lst (pa_cons (pe_callB (call_isX (K := K) rfl) (by rfl) T.isinstance_ (by decide +kernel) (pa_cons (pv 0) (pa_cons (pe_glob (v := .ref O.aTooMany) rfl O.gTooMany rfl) pa_nil))) (pa_cons (pe_callB (call_isX (K := K) rfl) (by rfl) T.isinstance_ (by decide +kernel) (pa_cons (pv 0) (pa_cons (pe_glob (v := .ref O.aRefused) rfl O.gRefused rfl) pa_nil))) (pa_cons (pe_callB (call_isX (K := K) rfl) (by rfl) T.isinstance_ (by decide +kernel) (pa_cons (pv 0) (pa_cons (pe_glob (v := .ref O.aInvalidNumber) rfl O.gInvalidNumber rfl) pa_nil))) pa_nil))))))
  (pss_cons (ps_set (i := 1) sc__law_others.nd rfl (.inl rfl) (pe_op op_cat (pv 1) (pe_lst (pa_cons (pe_callB (call_isX (K := K) rfl) (by rfl) T.isinstance_ (by decide +kernel) (pa_cons (pv 0) (pa_cons (pe_bltn (v := .ty "KeyError") (by rfl) O.zKeyError (by decide +kernel) rfl) pa_nil))) (pa_cons (pe_callB (call_isX (K := K) rfl) (by rfl) T.isinstance_ (by decide +kernel) (pa_cons (pv 0) (pa_cons (pe_bltn (v := .ty "IndexError") (by rfl) O.zIndexError (by decide +kernel) rfl) pa_nil))) (pa_cons (pe_callB (call_isX (K := K) rfl) (by rfl) T.isinstance_ (by decide +kernel) (pa_cons (pv 0) (pa_cons (pe_bltn (v := .ty "LookupError") (by rfl) O.zLookupError (by decide +kernel) rfl) pa_nil))) pa_nil))))))
  (pss_cons (ps_set (i := 1) sc__law_others.nd rfl (.inl rfl) (pe_op op_cat (pv 1) (pe_lst (pa_cons (pe_callB (call_isX (K := K) rfl) (by rfl) T.isinstance_ (by decide +kernel) (pa_cons (pv 0) (pa_cons (pe_bltn (v := .ty "OverflowError") (by rfl) O.zOverflowError (by decide +kernel) rfl) pa_nil))) (pa_cons (pe_callB (call_isX (K := K) rfl) (by rfl) T.isinstance_ (by decide +kernel) (pa_cons (pv 0) (pa_cons (pe_bltn (v := .ty "ArithmeticError") (by rfl) O.zArithmeticError (by decide +kernel) rfl) pa_nil))) pa_nil)))))
  (pss_one (ps_ret (bmK (K := K) rfl (pe_bm PySem.F.plainAttrs_str PySem.F.slot_str_join PySem.F.type_str_join mt_join pe_str (pa_cons (pe_lc (own := [("one", 2)]) (g := gName 2) (by rfl) sc__law_others.nd (piL (K := K) rfl (pe_op op_cat (pv 1) (pe_lst (pa_cons (pe_callB (call_isX (K := K) rfl) (by rfl) T.isinstance_ (by decide +kernel) (pa_cons (pv 0) (pa_cons (pe_bltn (v := .ty "RuntimeError") (by rfl) O.zRuntimeError (by decide +kernel) rfl) pa_nil))) pa_nil)))) (blkOk_by (by kernel_rfl)) (fun _ _ _ _ _ => (pg_name (i := 2) sc__law_others.nd rfl (.inl rfl))) (fun _ _ _ _ _ => pts_nil) (fun _ _ _ _ _ => (pe_ifExp (pt_val (pv 2)) pe_str pe_str))) pa_nil))))))))), ?_⟩
    refine ⟨_, rfl, a, C, _, _, b1, rfl, (fun _ r => r), er, X, h1, _, rfl, a, C, _, _, b2, rfl, (fun _ r => r), er, X, h2, _, rfl, a, C, _, _, b3, rfl, (fun _ r => r), er, X, h3, lenOk 3, fun l0 n0 => ?_⟩
    have s0 := same_new (o := .lst [V.bl b1, .bl b2, .bl b3]) n0
    have e0 : upd H l0 (.lst [V.bl b1, .bl b2, .bl b3]) l0 = some (.lst [V.bl b1, .bl b2, .bl b3]) := upd_same
    generalize upd H l0 (.lst [V.bl b1, .bl b2, .bl b3]) = H0 at s0 e0 ⊢
    refine ⟨_, rfl, _, rfl, a, C, _, _, b4, rfl, (fun _ r => r), (er.same s0), X, h4, _, rfl, a, C, _, _, b5, rfl, (fun _ r => r), (er.same s0), X, h5, _, rfl, a, C, _, _, b6, rfl, (fun _ r => r), (er.same s0), X, h6, lenOk 3, fun m1 k1 => ?_⟩
    have t1 := same_new (o := .lst [V.bl b4, .bl b5, .bl b6]) k1
    refine ⟨_, _, _, _, rfl, rfl, t1 _ _ e0, upd_same, (by rw [sizeLine_eq]; show 3 + 3 ≤ _; omega), fun l1 n1 => ?_⟩
    have s1 := s0.trans (t1.trans (same_new (o := .lst ([V.bl b1, .bl b2, .bl b3] ++ [V.bl b4, .bl b5, .bl b6])) n1))
    have e1 : upd (upd H0 m1 (.lst [V.bl b4, .bl b5, .bl b6])) l1 (.lst ([V.bl b1, .bl b2, .bl b3] ++ [V.bl b4, .bl b5, .bl b6])) l1 = some (.lst [V.bl b1, .bl b2, .bl b3, .bl b4, .bl b5, .bl b6]) := upd_same
    generalize upd (upd H0 m1 (.lst [V.bl b4, .bl b5, .bl b6])) l1 (.lst ([V.bl b1, .bl b2, .bl b3] ++ [V.bl b4, .bl b5, .bl b6])) = H1 at s1 e1 ⊢
    refine ⟨_, rfl, _, rfl, a, C, _, _, b7, rfl, (fun _ r => r), (er.same s1), X, h7, _, rfl, a, C, _, _, b8, rfl, (fun _ r => r), (er.same s1), X, h8, _, rfl, a, C, _, _, b9, rfl, (fun _ r => r), (er.same s1), X, h9, lenOk 3, fun m2 k2 => ?_⟩
    have t2 := same_new (o := .lst [V.bl b7, .bl b8, .bl b9]) k2
    refine ⟨_, _, _, _, rfl, rfl, t2 _ _ e1, upd_same, (by rw [sizeLine_eq]; show 6 + 3 ≤ _; omega), fun l2 n2 => ?_⟩
    have s2 := s1.trans (t2.trans (same_new (o := .lst ([V.bl b1, .bl b2, .bl b3, .bl b4, .bl b5, .bl b6] ++ [V.bl b7, .bl b8, .bl b9])) n2))
    have e2 : upd (upd H1 m2 (.lst [V.bl b7, .bl b8, .bl b9])) l2 (.lst ([V.bl b1, .bl b2, .bl b3, .bl b4, .bl b5, .bl b6] ++ [V.bl b7, .bl b8, .bl b9])) l2 = some (.lst [V.bl b1, .bl b2, .bl b3, .bl b4, .bl b5, .bl b6, .bl b7, .bl b8, .bl b9]) := upd_same
    generalize upd (upd H1 m2 (.lst [V.bl b7, .bl b8, .bl b9])) l2 (.lst ([V.bl b1, .bl b2, .bl b3, .bl b4, .bl b5, .bl b6] ++ [V.bl b7, .bl b8, .bl b9])) = H2 at s2 e2 ⊢
    refine ⟨_, rfl, _, rfl, a, C, _, _, b10, rfl, (fun _ r => r), (er.same s2), X, h10, _, rfl, a, C, _, _, b11, rfl, (fun _ r => r), (er.same s2), X, h11, lenOk 2, fun m3 k3 => ?_⟩
    have t3 := same_new (o := .lst [V.bl b10, .bl b11]) k3
    refine ⟨_, _, _, _, rfl, rfl, t3 _ _ e2, upd_same, (by rw [sizeLine_eq]; show 9 + 2 ≤ _; omega), fun l3 n3 => ?_⟩
    have s3 := s2.trans (t3.trans (same_new (o := .lst ([V.bl b1, .bl b2, .bl b3, .bl b4, .bl b5, .bl b6, .bl b7, .bl b8, .bl b9] ++ [V.bl b10, .bl b11])) n3))
    have e3 : upd (upd H2 m3 (.lst [V.bl b10, .bl b11])) l3 (.lst ([V.bl b1, .bl b2, .bl b3, .bl b4, .bl b5, .bl b6, .bl b7, .bl b8, .bl b9] ++ [V.bl b10, .bl b11])) l3 = some (.lst [V.bl b1, .bl b2, .bl b3, .bl b4, .bl b5, .bl b6, .bl b7, .bl b8, .bl b9, .bl b10, .bl b11]) := upd_same
    generalize upd (upd H2 m3 (.lst [V.bl b10, .bl b11])) l3 (.lst ([V.bl b1, .bl b2, .bl b3, .bl b4, .bl b5, .bl b6, .bl b7, .bl b8, .bl b9] ++ [V.bl b10, .bl b11])) = H3 at s3 e3 ⊢
    refine ⟨rfl, _, rfl, _, rfl, a, C, _, _, b12, rfl, (fun _ r => r), (er.same s3), X, h12, lenOk 1, fun m4 k4 => ?_⟩
    have t4 := same_new (o := .lst [V.bl b12]) k4
    refine ⟨_, _, _, _, rfl, rfl, t4 _ _ e3, upd_same, (by rw [sizeLine_eq]; show 11 + 1 ≤ _; omega), fun l4 n4 => ?_⟩
    have s4 := s3.trans (t4.trans (same_new (o := .lst ([V.bl b1, .bl b2, .bl b3, .bl b4, .bl b5, .bl b6, .bl b7, .bl b8, .bl b9, .bl b10, .bl b11] ++ [V.bl b12])) n4))
    have e4 : upd (upd H3 m4 (.lst [V.bl b12])) l4 (.lst ([V.bl b1, .bl b2, .bl b3, .bl b4, .bl b5, .bl b6, .bl b7, .bl b8, .bl b9, .bl b10, .bl b11] ++ [V.bl b12])) l4 = some (.lst [V.bl b1, .bl b2, .bl b3, .bl b4, .bl b5, .bl b6, .bl b7, .bl b8, .bl b9, .bl b10, .bl b11, .bl b12]) := upd_same
    generalize upd (upd H3 m4 (.lst [V.bl b12])) l4 (.lst ([V.bl b1, .bl b2, .bl b3, .bl b4, .bl b5, .bl b6, .bl b7, .bl b8, .bl b9, .bl b10, .bl b11] ++ [V.bl b12])) = H4 at s4 e4 ⊢
    refine ⟨l4, rfl, ⟨_, SqL.of e4⟩, fun D nD => ?_⟩
    refine lcL (K := K) (a := l4) (xs := [V.bl b1, .bl b2, .bl b3, .bl b4, .bl b5, .bl b6, .bl b7, .bl b8, .bl b9, .bl b10, .bl b11, .bl b12]) (fun j acc H9 => Same H4 H9 ∧ acc = (([b1, b2, b3, b4, b5, b6, b7, b8, b9, b10, b11, b12].map bitT).take j).map V.str) ⟨same_new nD, rfl⟩ (fun j acc H9 h => h.1.seq (SqL.of e4)) ?_ ?_
    · rintro j x acc H9 hx hl2 e9 ⟨s9, ea⟩
      have hx : ([b1, b2, b3, b4, b5, b6, b7, b8, b9, b10, b11, b12].map V.bl)[j]? = some x := hx
      rw [List.getElem?_map] at hx
      obtain ⟨b, hb, rfl⟩ := Option.map_eq_some_iff.mp hx
      have hj : j < 12 := (List.getElem?_eq_some_iff.mp hb).1
      have hb2 : ([b1, b2, b3, b4, b5, b6, b7, b8, b9, b10, b11, b12].map bitT)[j]? = some (bitT b) := by rw [List.getElem?_map, hb]; rfl
      refine yesT ⟨_, rfl, b, rfl, ?_⟩
      rw [show acc = _ from ea] at hl2 e9
      have fin : LcK (fun j acc H9 => Same H4 H9 ∧ acc = (([b1, b2, b3, b4, b5, b6, b7, b8, b9, b10, b11, b12].map bitT).take j).map V.str) D j (.str (bitT b)) H9 := LcK.mk hl2 (by omega) e9 ⟨put_same s9 nD, by rw [take_one hb2, List.map_append]; rfl⟩
      cases b
      · exact iteF fin
      · exact iteT fin
    · rintro acc H9 hl2 e9 ⟨s9, ea⟩
      refine ⟨"", D, [b1, b2, b3, b4, b5, b6, b7, b8, b9, b10, b11, b12].map bitT, rfl, rfl, .inl (SqL.of (e9.trans (by rw [ea]; rfl))), ?_, q H9 (s4.trans s9)⟩
      have one : ∀ b, (bitT b).length = 1 := fun b => by cases b <;> decide +kernel
      simp [one]
      decide +kernel
end
end Eh

set_option Elab.async false
set_option linter.all false
set_option maxRecDepth 100000
set_option maxHeartbeats 8000000
/-! repr of data with dicts in it -/
namespace Eh
open PySem PySem.Spec PyProof.Rows L2
theorem all_reads {h : Heap} {F : V → PyData → Prop} (f : ∀ v d u, F v d → RelV v u → ∃ as, Reads h u d as ∧ sysModules ∉ as) : ∀ {vs : List V} {ds : List PyData} {us : List Value}, Paired F vs ds → Vals vs us → ∃ as, ReadsAll h us ds as ∧ sysModules ∉ as
  | _, _, _, .nil, .nil => ⟨_, .nil, by simp⟩
  | _, _, _, .cons a r, .cons b t => by
    obtain ⟨as, ra, na⟩ := f _ _ _ a b
    obtain ⟨bs, rb, nb⟩ := all_reads f r t
    exact ⟨_, .cons ra rb, fun z => (List.mem_append.mp z).elim na nb⟩
/-- the data as the heap has it -/
theorem cd_reads {X : Cx} {pins : List (Addr × Obj)} {σ : L2.St} {H : Hp} {s : Shared} {N : Addr → Prop} (I : Inv X pins σ H s) (hN : ∀ a, N a → a ≠ sysModules) : ∀ (n : Nat) {v : V} {d : PyData} {u : Value}, Cd X.K N H n v d → RelV v u → ∃ as, Reads s.heap u d as ∧ sysModules ∉ as := by
  have flat : ∀ {v : V} {d : PyData} {u : Value}, Flat0 v d → RelV v u → ∃ as, Reads s.heap u d as ∧ sysModules ∉ as := fun {v d u} h r => by
    rcases h with ⟨rfl, rfl⟩ | ⟨b, rfl, rfl⟩ | ⟨i, rfl, rfl⟩ | ⟨z, rfl, rfl⟩
    · cases r
      exact ⟨_, .none, by simp⟩
    · cases r
      exact ⟨_, .bool b, by simp⟩
    · obtain ⟨t, rfl⟩ := r
      exact ⟨_, .int i t, by simp⟩
    · obtain ⟨t, rfl⟩ := r
      exact ⟨_, .str z t, by simp⟩
  intro n
  induction n with
  | zero => exact fun h r => flat h r
  | succ n ih =>
    intro v d u h r
    rcases h with h | ⟨a, xs, ds, rfl, rfl, na, hS, hl, hp⟩ | ⟨a, xs, ds, rfl, rfl, hS, hl, hp⟩ | ⟨a, z, i, rfl, rfl, na, hS⟩
    · exact flat h r
    · cases r
      obtain ⟨its, rv, ⟨o1, n1, ho, hc, _, hd⟩, _⟩ := I.list (SqL.of hS)
      obtain ⟨as, hr, hn⟩ := all_reads (fun _ _ _ a b => ih a b) hp rv
      exact ⟨_, .list ho hc hd hr, fun z => (List.mem_cons.mp z).elim (fun e => hN a na e.symm) hn⟩
    · cases r
      obtain ⟨its, rv, ⟨o1, ho, hc, n1, hd⟩, _⟩ := I.tuple hS
      obtain ⟨as, hr, hn⟩ := all_reads (fun _ _ _ a b => ih a b) hp rv
      exact ⟨_, .tuple ho hc hd hr, hn⟩
    · cases r
      obtain ⟨_, ne, vs, rel, ⟨o1, es, ep, ho, ex, hd, _, ps, nd⟩⟩ := dk_of I.hok hS
      clear nd
      obtain ⟨k1, w1, rfl, e1, e2⟩ : ∃ k1 w1, vs = [(k1, w1)] ∧ (Sum.inr z : Key) = k1 ∧ RelV (.int i) w1 := by
        cases rel with
        | cons h r =>
          cases r
          exact ⟨_, _, rfl, h.1, h.2⟩
      subst e1
      obtain ⟨t, rfl⟩ := e2
      generalize hes : es.toList = el at ps
      rcases ps with _ | ⟨p1, p2, ps⟩
      cases ps
      rename_i e
      rcases keyIs_shape (show keyIs (.inr z) e.key = true from p1) with ⟨j, t2, q1, q2⟩ | ⟨z2, t2, q1, q2⟩
      · cases q1
      · cases q1
        refine ⟨_, .dict ho ex.1 hd (by rw [hes]; exact .cons (by show Reads _ e.key _ _; rw [q2]; exact .str z t2) .nil) (by rw [hes]; exact .cons (by show Reads _ e.val _ _; rw [p2]; exact .int i t) .nil), ?_⟩
        intro hm
        simp at hm
        exact hN a na hm.symm
/-- a dict is not sys.modules -/
theorem cd_dict {X : Cx} {pins : List (Addr × Obj)} {σ : L2.St} {H : Hp} {s : Shared} {N : Addr → Prop} (I : Inv X pins σ H s) {n : Nat} {v : V} {es : List (PyData × PyData)} (h : Cd X.K N H n v (.dict es)) : Cd X.K (fun a => a ≠ sysModules) H n v (.dict es) := by
  cases n with
  | zero => rcases h with ⟨_, e⟩ | ⟨_, _, e⟩ | ⟨_, _, e⟩ | ⟨_, _, e⟩ <;> cases e
  | succ n =>
    rcases h with h | ⟨a, xs, ds, e1, e2, _⟩ | ⟨a, xs, ds, e1, e2, _⟩ | ⟨a, z, i, e1, e2, _, e⟩
    · rcases h with ⟨_, e⟩ | ⟨_, _, e⟩ | ⟨_, _, e⟩ | ⟨_, _, e⟩ <;> cases e
    · cases e2
    · cases e2
    · obtain ⟨_, ne, _⟩ := dk_of I.hok e
      exact .inr (.inr (.inr ⟨a, z, i, e1, e2, fun z => by rw [z] at ne; exact absurd ne (by decide), e⟩))
/-- data without dicts -/
theorem cd_dp {K : PySem.W.Frag} {N : Addr → Prop} {H : Hp} : ∀ (n : Nat) {v : V} {d : PyData}, Cd K N H n v d → d.hasDict = false → Dp K H v d := by
  have flat : ∀ {v : V} {d : PyData}, Flat0 v d → Dp K H v d := fun {v d} h => by
    rcases h with ⟨rfl, rfl⟩ | ⟨b, rfl, rfl⟩ | ⟨i, rfl, rfl⟩ | ⟨z, rfl, rfl⟩
    · exact .non
    · exact .bl b
    · exact .int i
    · exact .str z
  intro n
  induction n with
  | zero => exact fun h _ => flat h
  | succ n ih =>
    intro v d h nd
    have all : ∀ {vs : List V} {ds : List PyData}, Paired (Cd K N H n) vs ds → PyData.hasDictAll ds = false → DpAll K H vs ds := by
      intro vs ds p
      induction p with
      | nil => exact fun _ => .nil
      | cons a r ih2 =>
        intro e
        simp only [PyData.hasDictAll, Bool.or_eq_false_iff] at e
        exact .cons (ih a e.1) (ih2 e.2)
    rcases h with h | ⟨a, xs, ds, rfl, rfl, _, hS, hl, hp⟩ | ⟨a, xs, ds, rfl, rfl, hS, hl, hp⟩ | ⟨a, z, i, rfl, rfl, _, hS⟩
    · exact flat h
    · exact .lst (SqL.of hS) (all hp (by simpa [PyData.hasDict] using nd))
    · exact .tup hS (all hp (by simpa [PyData.hasDict] using nd))
    · simp [PyData.hasDict] at nd
section
variable {X : Cx} {K : PySem.W.Frag} {es : List Expr} {ta : TA} {pos : Pos}
/-- a list display, the list not sys.modules -/
def tLstS (t : TA) : TE := fun σ H Q => t σ H fun xs H1 => xs.length ≤ sizeLine ∧ ∀ p, H1 p = none → p ≠ sysModules → Q (.ref p) (upd H1 p (.lst xs))
theorem pe_lstS (h : PA X es ta) : PE X (.List es pos) (tLstS ta) := by
  refine ⟨fun pins s σ H Q I hq => wpAny_List_spliced (thn (h.run pos pins s σ H _ I hq) fun us s1 ⟨xs, H1, I1, r, z, q⟩ => ⟨by rw [← r.length]; exact z, ?_⟩)⟩
  have new : H1 s1.heap.objs.size = none := I1.hok.fresh (Nat.le_refl _)
  have J := I1.lnew (t' := s1.toks) r z
  exact ⟨.ref _, _, J, rfl, q _ new (Nat.ne_of_gt I1.big)⟩
/-- a list times an int, the new list not sys.modules -/
def rRepS : R2 := fun x y H Q => ∃ l k xs, x = .ref l ∧ y = .int k ∧ H l = some (.lst xs) ∧ 0 ≤ k ∧ k ≤ 1000 ∧ xs.length ≤ 1000 ∧ ∀ p, H p = none → p ≠ sysModules → Q (.ref p) (upd H p (.lst (List.replicate k.toNat xs).flatten))
theorem op_repS : OpR X (binaryOp .Mult) rRepS := by
  intro pins s σ H x y v u Q I rx ry h
  obtain ⟨l, k, xs, rfl, rfl, hl, k0, k1, few, q⟩ := h
  obtain ⟨tk, rfl⟩ := ry
  cases rx
  obtain ⟨_, its, cap, rel, len, ob⟩ := I.lstM hl
  have hm : its.length * k.toNat ≤ 1000 * 1000 := Nat.mul_le_mul (by omega) (by omega)
  have hx : xs.length * k.toNat ≤ 1000 * 1000 := Nat.mul_le_mul few (by omega)
  have size : its.toArray.size * k.toNat ≤ 1000000 := by rw [List.size_toArray]; exact hm
  have fit : ¬ (!Builtin.List.listFitsIndex k) = true := by rw [fitsIndex_both (by omega) (by omega)]; decide
  have short : ¬ Builtin.List.listTooLong (its.toArray.size * k.toNat) = true := by rw [notLongL (by rw [sizeLine_eq]; omega)]; decide
  have laid : List.foldl (fun x1 x2 => x1 ++ x2) #[] (List.replicate (if its.toArray.isEmpty = true then 0 else k.toNat) its.toArray) = (List.replicate k.toNat its).flatten.toArray := by
    cases its with
    | nil => simp
    | cons b bs =>
      rw [if_neg (by simp)]
      exact (foldl_rep (b :: bs) k.toNat []).trans (by rw [List.nil_append])
  have most : ¬ its.toArray.size * k.toNat > (2 ^ 63 - 1) / 8 := by omega
  refine wpAny_binaryOp_repeat_ref (T := "list") (U := "int") (by decide) ⟨_, ob, rfl⟩ (fun s' => typeIs_int s' k tk) noFill_list_mul F.fills_int_mul F.slot_int_rmul repeat_list F.slot_int_index.lookup (call_meets F.slot_int_rmul (typeIs_int s k tk) F.entry_int_rmul (F.args_int_rmul_2 _ _) (int___rmul___int_list k tk l its.toArray cap) ⟨ob, rfl, ⟨_, ob, rfl⟩, call_meets F.slot_list_mul ⟨_, ob, rfl⟩ F.entry_list_mul (F.args_list_mul_2 _ _) (AutoListH.list___mul___list_int_3 l its.toArray cap k tk fit most short) ⟨ob, ?_⟩⟩)
  rw [laid]
  exact ⟨.ref _, _, I.lnew (t' := s.toks) (rel.rep k.toNat) (by rw [PyProof.Rows.lm_len_rep_flat, Nat.mul_comm, sizeLine_eq]; omega), rfl, q _ I.fresh (Nat.ne_of_gt I.big)⟩
def rReprX (K : PySem.W.Frag) : List V → Hp → VK → Prop := fun xs H Q => ∃ (a : Addr) (d : PyData) (n : Nat), xs = [.ref a] ∧ Cd K (fun b => b ≠ sysModules) H n (.ref a) d ∧ d.showable = true ∧ d.depth < 60 ∧ d.shown.length ≤ sizeLine ∧ Q (.str d.shown) H
theorem reprX (h : X.K = K) (hgd : X.A.guards = some []) (hu : X.A.units + 64 < cLine) : CallR X (.builtin "repr") (rReprX K) := by
  subst h
  intro pins s σ H xs us Q I r h
  obtain ⟨a, d, n, rfl, hd, hs, hdp, hsz, q⟩ := h
  cases r with
  | cons r1 r2 =>
    cases r2
    cases r1
    obtain ⟨as, rd, no⟩ := cd_reads I (fun _ x => x) n hd (u := .ref a) rfl
    refine repr_of_reads' rd hs (fun _ => no) hgd (by omega) (fun _ _ e => e) (fun h' u tk kp => ?_) (hsz := hsz)
    exact ⟨.str d.shown, H, I.kept (t' := tk) kp, ⟨u, rfl⟩, q⟩
end
end Eh

set_option Elab.async false
set_option linter.all false
set_option maxRecDepth 100000
set_option maxHeartbeats 8000000
/-! what k00's law wants of its errors -/
namespace Eh
open PySem PySem.Spec PyProof.Rows L2
theorem gr_same {d : Addr} {H H' : Hp} (D : D3 H d) (s : Same H H') : Gr d H H' := by
  obtain ⟨g, b, c, e⟩ := D
  exact ⟨⟨g, b, c, s _ _ e⟩, fun a o _ e => s _ _ e⟩
theorem gr_off {d : Addr} {H H' : Hp} (D : D3 H' d) (k : ∀ b, b ≠ d → H' b = H b) : Gr d H H' := ⟨D, fun a o n e => by rw [k a n]; exact e⟩
/-- an own error class without __init__ -/
structure PlainE (K : PySem.W.Frag) (mg : Str → Option Value) (C : Addr) (x : Str) : Prop where
  g : mg x = some (.ref C)
  q : PySem.W.excIn K C veB "ValueError.__new__" = true
  k : PySem.W.keepIn K (.ref C) = true
  X : PySem.W.EhExc K C
  st : PySem.W.findIn K (.ref C) "__str__" = some (some (.builtin "BaseException.__str__"))
/-- an own error class that keeps a copy in the field f -/
structure KeepC (P : Program) (w : World) (K : PySem.W.Frag) (mg : Str → Option Value) (base : Heap) (C : Addr) (x f : Str) : Prop where
  g : mg x = some (.ref C)
  ex : ∃ (B newId initId : String) (bmB : List Value) (fI : Addr) (fd : FuncData) (ps : List Str), BaseF B newId initId bmB ∧ OexB K C B newId initId bmB ∧ PySem.W.findIn K (.ref C) "__init__" = some (some (.ref fI)) ∧ PySem.W.typeIn K (.ref fI) = some (.type "function") ∧
    FnOk P w K mg base CX0 4 fI fd ps (spKeepC K C f 2) ∧ Binds K fd ps [] ∧ ps.length ≤ 1000
  X : PySem.W.EhExc K C
  xf : XfC K C
  no : PySem.W.findIn K (.ref C) f = some none
section
variable {X : Cx} {C : Addr} {x f : Str} {p pos : Pos} {e : Expr} {te : TE}
theorem pe_plainE (D : PlainE X.K X.mg C x) (hg : Gl X x) (he : PE X e te) (hs : starEach [e] X.env = (false, eval e X.env) :: starEach [] X.env := by rfl) (hdb : (x == ("__debug__" : Str)) = false := by decide) :
    PE X (.Call (.Name x p) [e] [] pos) (tExcT C te) := pe_excT PySem.F.excBase_ValueError D.q D.g D.k hg he hs hdb
theorem pe_keepE (D : KeepC X.prog X.w X.K X.mg X.base C x f) (hr : Room 5 X.A) (hg : Gl X x) (he : PE X e te) (hdb : (x == ("__debug__" : Str)) = false := by decide) (hs : starEach [e] X.env = (false, eval e X.env) :: starEach [] X.env := by rfl) (hpl : (backTo pos (starEach [] X.env)).any (·.1) = false := by rfl) :
    PE X (.Call (.Name x p) [e] [] pos) (tKeepV C (spKeepC X.K C f 2) (tCons te tNil)) := by
  obtain ⟨B, newId, initId, bmB, fI, fd, ps, BF, T, iC, tI, F1, hb, hps⟩ := D.ex
  exact pe_keepV BF T iC tI F1 hr hb pass0 hg D.g hps (pa_cons he pa_nil (hs := hs)) hdb hs hpl
end
/-- an error with one text -/
def ErT (H : Hp) (a C : Addr) (z : Str) : Prop := ∃ t, H a = some (exT a C t) ∧ H t = some (.tup [.str z])
theorem ErT.same {H H' : Hp} {a C : Addr} {z : Str} (s : Same H H') (h : ErT H a C z) : ErT H' a C z := by
  obtain ⟨t, e1, e2⟩ := h
  exact ⟨t, s _ _ e1, s _ _ e2⟩
theorem ErT.er {H : Hp} {a C : Addr} {z : Str} (h : ErT H a C z) : ErAt H a C := by
  obtain ⟨t, e1, _⟩ := h
  exact .inl ⟨t, e1⟩
theorem ErT.gr {d : Addr} {H H' : Hp} {a C : Addr} {z : Str} (D : D3 H d) (g : Gr d H H') (h : ErT H a C z) : ErT H' a C z := by
  obtain ⟨t, e1, e2⟩ := h
  obtain ⟨x, b, c, e⟩ := D
  exact ⟨t, g.keep _ _ (fun z => by rw [z, e] at e1; cases e1) e1, g.keep _ _ (fun z => by rw [z, e] at e2; cases e2) e2⟩
theorem erT_new {H : Hp} {a t C : Addr} {z : Str} (nt : H t = none) (na : H a = none) (ne : a ≠ t) : Same H (upd (upd H t (.tup [.str z])) a (exT a C t)) ∧ ErT (upd (upd H t (.tup [.str z])) a (exT a C t)) a C z :=
  ⟨fun b o e => by rw [upd_ne (ne_of_none e na), upd_ne (ne_of_none e nt)]; exact e, t, upd_same, by rw [upd_ne (Ne.symm ne)]; exact upd_same⟩
theorem cd_gr {K : PySem.W.Frag} {d : Addr} {H H' : Hp} {n : Nat} {v : V} {dd : PyData} (D : D3 H d) (g : Gr d H H') (h : Cd K (fun a => a ≠ d) H n v dd) : Cd K (fun a => a ≠ d) H' n v dd := by
  obtain ⟨x, b, c, e0⟩ := D
  refine Cd.mono (fun _ x => x) (fun a xs na e => g.keep _ _ na e) (fun a xs e => ?_) (fun a kvs na e => g.keep _ _ na e) n h
  rcases e with (e | ⟨o, e⟩) | e
  · exact .inl (.inl (g.keep _ _ (fun z => by have e : H a = _ := e; rw [z, e0] at e; cases e) e))
  · exact .inl (.inr ⟨o, g.keep _ _ (fun z => by have e : H a = _ := e; rw [z, e0] at e; cases e) e⟩)
  · exact .inr e
theorem lay_strs : ∀ {zs : List Str}, (∀ z ∈ zs, PyData.strOk z = true) → PyData.canLayAll0 (zs.map PyData.str) = true ∧ PyData.depthAll (zs.map PyData.str) = 0
  | [], _ => ⟨rfl, rfl⟩
  | z :: zs, h => by
    obtain ⟨a, b⟩ := lay_strs fun y hy => h y (List.mem_cons_of_mem _ hy)
    refine ⟨?_, ?_⟩
    · show (PyData.strOk z && PyData.canLayAll0 (zs.map PyData.str)) = true
      rw [h z List.mem_cons_self, a]
      rfl
    · show max 0 (PyData.depthAll (zs.map PyData.str)) = 0
      rw [b]
      rfl
theorem shaped_strs {zs : List Str} (h : ∀ z ∈ zs, PyData.strOk z = true) : SeqAt.shaped (.list (zs.map PyData.str)) = true := by
  obtain ⟨a, b⟩ := lay_strs h
  unfold SeqAt.shaped
  rw [show PyData.canLay0 (.list (zs.map PyData.str)) = true from a, Bool.true_and]
  refine decide_eq_true ?_
  show PyData.depthAll (zs.map PyData.str) + 1 ≤ 64
  omega
theorem dp_strsX {K : PySem.W.Frag} {H : Hp} : ∀ zs : List Str, DpAll K H (zs.map V.str) (zs.map PyData.str)
  | [] => .nil
  | z :: zs => .cons (.str z) (dp_strsX zs)
theorem eqv_one {d : PyData} (h : SeqAt.shaped d = true) : PyData.eqv d d = true := SeqAt.eqv_refl _ (SeqAt.canLay_of_shaped h)
/-- two lists of the same texts -/
theorem ne_strs {K : PySem.W.Frag} {H : Hp} {a b : Addr} {zs : List Str} {Q : VK} (ok : ∀ z ∈ zs, PyData.strOk z = true) (ha : H a = some (.lst (zs.map V.str))) (hb : H b = some (.lst (zs.map V.str))) (q : Q (.bl false) H) : rNeD K (.ref a) (.ref b) H Q := by
  have sh := shaped_strs ok
  refine ⟨_, _, .lst (SqL.of ha) (dp_strsX zs), .lst (SqL.of hb) (dp_strsX zs), sh, sh, ?_⟩
  rw [eqv_one sh]
  exact q
section
variable {K : PySem.W.Frag} {l D : Addr} {xs : List V} {ts : List Str} {σ : L2.St} {H1 : Hp} {Qd : Hp → Prop}
theorem lc_bits {ks : List Value} (nD : H1 D = none) (hS : H1 l = some (.lst xs)) (hx : xs.length ≤ 1000) (ht : ts.length = xs.length) (hσ : ∀ x : V, ((wipe σ [9]).set 9 (some x))[9]? = some (some x))
    (f : ∀ (j : Nat) (x : V), xs[j]? = some x → ∃ a C bs, x = .ref a ∧ ErAt H1 a C ∧ PySem.W.EhExc K C ∧ Row K ks C bs ∧ ts[j]? = some (bitsT bs)) (q : ∀ H', Same H1 H' → H' D = some (.lst (ts.map V.str)) → Qd H') :
    LcGoal (Itl K l) (gName 9) tYes (tCall (spBits K ks) [] E0 (tCons (tVar 9) tNil)) [9] σ H1 D Qd := by
  refine lcL (K := K) (a := l) (xs := xs) (fun j acc H2 => Same H1 H2 ∧ acc = (ts.take j).map V.str) ⟨same_new nD, rfl⟩ (fun j acc H2 h => h.1.seq (SqL.of hS)) ?_ ?_
  · rintro j x acc H2 hj hl2 e2 ⟨s2, ea⟩
    obtain ⟨a, C, bs, rfl, er, X, row, et⟩ := f j x hj
    have hj2 := (List.getElem?_eq_some_iff.mp hj).1
    refine yesT ⟨_, hσ _, a, C, bs, rfl, er.same s2, X, row, fun H3 s3 => ?_⟩
    exact LcK.mk hl2 (by omega) (s3 _ _ e2) ⟨put_same (s2.trans s3) nD, by rw [ea, take_one et, List.map_append]; rfl⟩
  · rintro acc H2 hl2 e2 ⟨s2, ea⟩
    rw [← ht, List.take_length] at ea
    exact q H2 s2 (by rw [e2, ea])
theorem lc_strs (nD : H1 D = none) (hS : H1 l = some (.lst xs)) (hx : xs.length ≤ 1000) (ht : ts.length = xs.length) (hσ : ∀ x : V, ((wipe σ [9]).set 9 (some x))[9]? = some (some x))
    (f : ∀ (j : Nat) (x : V), xs[j]? = some x → ∃ a C z, x = .ref a ∧ ErT H1 a C z ∧ PySem.W.findIn K (.ref C) "__str__" = some (some (.builtin "BaseException.__str__")) ∧ PySem.W.subIn K (.ref C) (.type "BaseException") = some true ∧ ts[j]? = some z) (q : ∀ H', Same H1 H' → H' D = some (.lst (ts.map V.str)) → Qd H') :
    LcGoal (Itl K l) (gName 9) tYes (tCB (rStrX K) (tCons (tVar 9) tNil)) [9] σ H1 D Qd := by
  refine lcL (K := K) (a := l) (xs := xs) (fun j acc H2 => Same H1 H2 ∧ acc = (ts.take j).map V.str) ⟨same_new nD, rfl⟩ (fun j acc H2 h => h.1.seq (SqL.of hS)) ?_ ?_
  · rintro j x acc H2 hj hl2 e2 ⟨s2, ea⟩
    obtain ⟨a, C, z, rfl, er, f1, f2, et⟩ := f j x hj
    have hj2 := (List.getElem?_eq_some_iff.mp hj).1
    obtain ⟨t, e1, e3⟩ := er.same s2
    refine yesT ⟨_, hσ _, a, C, t, z, rfl, e1, e3, f1, f2, ?_⟩
    exact LcK.mk hl2 (by omega) e2 ⟨put_same s2 nD, by rw [ea, take_one et, List.map_append]; rfl⟩
  · rintro acc H2 hl2 e2 ⟨s2, ea⟩
    rw [← ht, List.take_length] at ea
    exact q H2 s2 (by rw [e2, ea])
end
end Eh

set_option Elab.async false
set_option linter.all false
set_option maxRecDepth 100000
set_option maxHeartbeats 8000000
set_option pp.maxSteps 150
namespace Eh
open PySem PySem.Spec PyProof.Rows L2
theorem ne_at {H : Hp} {a b : Addr} {o o2 : HO} (ea : H a = some o) (eb : H b = some o2) (h : o2 ≠ o) : a ≠ b := fun z => h (by rw [z, eb] at ea; exact Option.some.inj ea)
def words4 : List Str := ["", "no promise", "a", "line 3"]
def data11 : List PyData := [.int 0, .str "", .str "a", .none, .tuple [], .tuple [.str "a", .str "b"], .int (10 ^ 40), .bool true, .tuple [.str "kept", .tuple [.int 0, .int 1]], .list [.int 1], .dict [(.str "a", .int 1)]]
theorem ErT.put {H : Hp} {l a C : Addr} {z : Str} {xs : List V} {o : HO} (e : H l = some (.lst xs)) (h : ErT H a C z) : ErT (upd H l o) a C z := by
  obtain ⟨t, e1, e2⟩ := h
  exact ⟨t, by rw [upd_ne (ne_at e1 e (fun h => by cases h))]; exact e1, by rw [upd_ne (ne_at e2 e (fun h => by cases h))]; exact e2⟩
theorem Cd.off {K : PySem.W.Frag} {N : Addr → Prop} {H : Hp} {l : Addr} (nl : H l = none) : ∀ {n : Nat} {v : V} {d : PyData}, Cd K N H n v d → Cd K (fun a => N a ∧ a ≠ l) H n v d
  | 0, v, d, h => h
  | n + 1, v, d, h => by
    rcases h with h | ⟨a, xs, ds, e1, e2, na, s, l2, p⟩ | ⟨a, xs, ds, e1, e2, s, l2, p⟩ | ⟨a, z, i, e1, e2, na, e⟩
    · exact .inl h
    · exact .inr (.inl ⟨a, xs, ds, e1, e2, ⟨na, ne_of_none s nl⟩, s, l2, pair_map (fun _ _ c => Cd.off nl c) p⟩)
    · exact .inr (.inr (.inl ⟨a, xs, ds, e1, e2, s, l2, pair_map (fun _ _ c => Cd.off nl c) p⟩))
    · exact .inr (.inr (.inr ⟨a, z, i, e1, e2, ⟨na, ne_of_none e nl⟩, e⟩))
theorem cd_gr2 {K : PySem.W.Frag} {N : Addr → Prop} {d : Addr} {H H' : Hp} {n : Nat} {v : V} {dd : PyData} (hN : ∀ a, N a → a ≠ d) (D : D3 H d) (g : Gr d H H') (h : Cd K N H n v dd) : Cd K N H' n v dd := by
  obtain ⟨x, b, c, e0⟩ := D
  refine Cd.mono (fun _ x => x) (fun a xs na e => g.keep _ _ (hN a na) e) (fun a xs e => ?_) (fun a kvs na e => g.keep _ _ (hN a na) e) n h
  rcases e with (e | ⟨o, e⟩) | e
  · exact .inl (.inl (g.keep _ _ (ne_at e e0 (fun h => by cases h)) e))
  · exact .inl (.inr ⟨o, g.keep _ _ (ne_at e e0 (fun h => by cases h)) e⟩)
  · exact .inr e
theorem words_ok : ∀ z ∈ words4, PyData.strOk z = true := by decide +kernel
theorem reprNon {X : Cx} : CallR X (.builtin "repr") (fun xs H Q => xs = [.non] ∧ Q (.str "None") H) := by
  intro pins s σ H xs us Q I r h
  obtain ⟨rfl, q⟩ := h
  cases r with
  | cons r1 r2 =>
    cases r2
    cases r1
    exact PySem.P.repr_of_none ⟨.str _, H, I.tok _, ⟨_, rfl⟩, q⟩
section
variable {P : Program} {w : World} {K : PySem.W.Frag} {mg : Str → Option Value} {base : Heap}
def rowB (i : Nat) : List Bool := (List.range 10).map (fun j => decide (i = j)) ++ [true, true]
def no12 : List Bool := List.replicate 12 false
def onB (is : List Nat) : List Bool := (List.range 12).map fun j => decide (j ∈ is)
def rReprS : List V → Hp → VK → Prop := fun xs H Q => (xs = [.non] ∧ Q (.str "None") H) ∨ ∃ i, xs = [.int i] ∧ i.natAbs.log2 < 1920 ∧ Q (.str (toString i)) H
theorem reprS {X : Cx} : CallR X (.builtin "repr") rReprS := reprNon.or SkE.call_repr_int
/-- an error whose field f is v -/
def KeptF (H : Hp) (a C : Addr) (f : Str) (v : V) : Prop := ∃ dx, H a = some (exo a C (some dx)) ∧ H dx = some (exd dx [(f, v)])
theorem KeptF.same {H H' : Hp} {a C : Addr} {f : Str} {v : V} (s : Same H H') (h : KeptF H a C f v) : KeptF H' a C f v := by
  obtain ⟨dx, e1, e2⟩ := h
  exact ⟨dx, s _ _ e1, s _ _ e2⟩
theorem KeptF.put {H : Hp} {l a C : Addr} {f : Str} {v : V} {xs : List V} {o : HO} (e : H l = some (.lst xs)) (h : KeptF H a C f v) : KeptF (upd H l o) a C f v := by
  obtain ⟨dx, e1, e2⟩ := h
  exact ⟨dx, by rw [upd_ne (ne_at e1 e (fun h => by cases h))]; exact e1, by rw [upd_ne (ne_at e2 e (fun h => by cases h))]; exact e2⟩
theorem KeptF.er {H : Hp} {a C : Addr} {f : Str} {v : V} (h : KeptF H a C f v) : ErAt H a C := by
  obtain ⟨dx, e1, e2⟩ := h
  exact .inr ⟨dx, _, e1, e2⟩
theorem keptF_of {K : PySem.W.Frag} {N : Addr → Prop} {H : Hp} {a C : Addr} {f : Str} {v : V} {d : PyData} (hv : (v = .non ∧ d = .none) ∨ ∃ i, v = .int i ∧ d = .int i) (h : Kept K N H a C f 2 d) : KeptF H a C f v := by
  obtain ⟨dx, u, e1, e2, c⟩ := h
  have : u = v := by
    rcases hv with ⟨rfl, rfl⟩ | ⟨i, rfl, rfl⟩
    · rcases c with h | ⟨_, _, _, _, e, _⟩ | ⟨_, _, _, _, e, _⟩ | ⟨_, _, _, _, e, _⟩
      · rcases h with ⟨h, _⟩ | ⟨_, _, e⟩ | ⟨_, _, e⟩ | ⟨_, _, e⟩
        · exact h
        all_goals cases e
      all_goals cases e
    · exact cd_int c
  rw [this] at e2
  exact ⟨dx, e1, e2⟩
theorem kept_at {K : PySem.W.Frag} {C a : Addr} {f : Str} {n : Nat} {v : V} {d : PyData} {H : Hp} {R : Hp → Prop} (na : H a = none) (hv : Cd K (fun _ => True) H n v d) (q : ∀ H', Same H H' → Kept K (fun b => H b = none) H' a C f n d → R H') :
    spKeepC K C f n [.ref a, v] (upd H a (exo a C none)) (fun w H2 => w = .non ∧ R H2) (fun _ _ _ => False) := by
  obtain ⟨b, u, e, e1, e2, e3, q'⟩ := kept_made (Q := fun v H' => v = .ref a → R H') hv (fun b H' s nb k e => q H' s (by cases e; exact k)) a na
  exact ⟨b, u, e, e1, e2, e3, fun v' dx H' s c nd ne => ⟨rfl, (q' v' dx H' s c nd ne).2 rfl⟩⟩
theorem lck_eq {R : Nat → List V → Hp → Prop} {D : Addr} {j : Nat} {t u : Str} {H : Hp} (e : t = u) (h : LcK R D j (.str u) H) : LcK R D j (.str t) H := by
  rw [e]
  exact h
def due10L : List Str := (List.range 10).map fun i => bitsT (rowB i)
theorem due_ok : ∀ z ∈ due10L, PyData.strOk z = true := by decide +kernel
theorem row10 : bitsT (rowB 10) = Txt.mul "." 10 ++ "xx" := by decide +kernel
theorem iteF9 {c : Bool} {A B : Prop} (e : c = false) (h : B) : if c = true then A else B := by
  rw [e]
  exact iteF h
theorem Kept.off {K : PySem.W.Frag} {N : Addr → Prop} {H : Hp} {a C l : Addr} {f : Str} {n : Nat} {d : PyData} (nl : H l = none) (h : Kept K N H a C f n d) : Kept K (fun b => b ≠ l) H a C f n d := by
  obtain ⟨dx, v, e1, e2, c⟩ := h
  exact ⟨dx, v, e1, e2, (c.off nl).same (Same.refl _) (fun _ x => x.2)⟩
theorem Kept.put {K : PySem.W.Frag} {H : Hp} {a C l : Addr} {f : Str} {n : Nat} {d : PyData} {xs : List V} {o : HO} (e : H l = some (.lst xs)) (h : Kept K (fun b => b ≠ l) H a C f n d) : Kept K (fun b => b ≠ l) (upd H l o) a C f n d := by
  obtain ⟨dx, v, e1, e2, c⟩ := h
  exact ⟨dx, v, by rw [upd_ne (ne_at e1 e (fun h => by cases h))]; exact e1, by rw [upd_ne (ne_at e2 e (fun h => by cases h))]; exact e2, Cd.put e (.inl ⟨_, rfl⟩) (fun z => z rfl) c⟩
def due6L : List Str := [bitsT (onB [0, 6, 8]), bitsT (onB [1, 8]), bitsT (onB [2, 7, 8]), bitsT (onB [3, 9, 10]), bitsT (onB [4, 10]), bitsT (onB [5, 11])]
theorem due6_is : due6L = (["x.....x.x...", ".x......x...", "..x....xx...", "...x.....xx.", "....x.....x.", ".....x.....x"] : List Str) := by decide +kernel
theorem due6_ok : ∀ z ∈ due6L, PyData.strOk z = true := by decide +kernel
theorem pair_rep {K : PySem.W.Frag} {F G : V → PyData → Prop} {D : PyData} (h : ∀ v, F v D → G v D) : ∀ (n : Nat) {vs : List V}, Paired F vs (List.replicate n D) → Paired G vs (List.replicate n D)
  | 0, vs, p => by cases p; exact .nil
  | n + 1, vs, p => by
    cases p with
    | cons a r => exact .cons (h _ a) (pair_rep (K := K) h n r)
def rReprL (K : PySem.W.Frag) : List V → Hp → VK → Prop := fun xs H Q => ∃ (l : Addr) (vs : List V) (es : List (PyData × PyData)) (n k : Nat) (N : Addr → Prop), xs = [.ref l] ∧ l ≠ sysModules ∧ H l = some (.lst vs) ∧ vs.length ≤ 1000 ∧ Paired (Cd K N H n) vs (List.replicate k (.dict es)) ∧
  (PyData.list (List.replicate k (.dict es))).showable = true ∧ (PyData.list (List.replicate k (.dict es))).depth < 60 ∧ (PyData.list (List.replicate k (.dict es))).shown.length ≤ sizeLine ∧ Q (.str (PyData.list (List.replicate k (.dict es))).shown) H
theorem reprL {X : Cx} {K : PySem.W.Frag} (h : X.K = K) (hgd : X.A.guards = some []) (hu : X.A.units + 64 < cLine) : CallR X (.builtin "repr") (rReprL K) := by
  subst h
  intro pins s σ H xs us Q I r h
  obtain ⟨l, vs, es, n, k, N, rfl, ne, e, few, p, c1, c2, c3, q⟩ := h
  exact reprX rfl hgd hu pins s σ H _ us Q I r ⟨l, _, n + 1, rfl, .inr (.inl ⟨l, vs, _, rfl, rfl, ne, e, few, pair_rep (K := X.K) (fun v c => cd_dict I c) k p⟩), c1, c2, c3, q⟩
def chk6 (d : PyData) : Bool := (PyData.list (List.replicate 6 d)).showable && decide ((PyData.list (List.replicate 6 d)).depth < 60) && decide ((PyData.list (List.replicate 6 d)).shown.length ≤ 1000) && (!d.hasDict || (match d with | .dict _ => true | _ => false))
theorem chk_all : ∀ d ∈ data11, chk6 d = true := by decide +kernel
theorem has6 {d : PyData} (h : d.hasDict = false) : (PyData.list (List.replicate 6 d)).hasDict = false := by
  simp [PyData.hasDict, PyData.hasDictAll, List.replicate, h]
/-- repr of a list of six of one kind: either way -/
theorem repr6 {K : PySem.W.Frag} {H : Hp} {l : Addr} {vs : List V} {N : Addr → Prop} {d : PyData} {Q : VK} (hd : d ∈ data11) (ne : l ≠ sysModules) (e : H l = some (.lst vs)) (few : vs.length ≤ 1000) (p : Paired (Cd K N H 2) vs (List.replicate 6 d)) (q : Q (.str (PyData.list (List.replicate 6 d)).shown) H) :
    rRepr K [.ref l] H Q ∨ rReprL K [.ref l] H Q := by
  have c := chk_all d hd
  unfold chk6 at c
  simp only [Bool.and_eq_true, decide_eq_true_eq] at c
  obtain ⟨⟨⟨c1, c2⟩, c3⟩, c4⟩ := c
  have c3' : (PyData.list (List.replicate 6 d)).shown.length ≤ sizeLine := by rw [sizeLine_eq]; omega
  cases hb : d.hasDict with
  | false =>
    have dp : Dp K H (.ref l) (.list (List.replicate 6 d)) := cd_dp (N := fun _ => True) 3 (.inr (.inl ⟨l, vs, _, rfl, rfl, trivial, e, few, pair_map (fun _ _ c => c.same (Same.refl _) (fun _ _ => trivial)) p⟩)) (has6 hb)
    exact .inl ⟨.ref l, _, rfl, ⟨l, rfl⟩, dp, c1, has6 hb, c2, c3', q⟩
  | true =>
    rw [hb] at c4
    cases d with
    | dict es => exact .inr ⟨l, vs, es, 2, 6, N, rfl, ne, e, few, p, c1, c2, c3', q⟩
    | _ => simp at c4
theorem dots12 : bitsT no12 = Txt.mul "." 12 := by decide +kernel
def spRight0 (K : PySem.W.Frag) : Sp := fun vs H Q _ => ∃ d, vs = [.ref d] ∧ D3 H d ∧ ∀ H', Gr d H H' → Q (.bl true) H'
theorem ok_right {f fP fK fO : Addr} {fd fdP fdK fdO : FuncData} (F : Fun K "_law_right" "_law_right" s__law_right f fd) (T : Txt mg) (O : Own K mg) (C__law_pick : Cal P w K mg base 2 "_law_pick" fP fdP ["dice", "items"] (spPick K)) (C__law_kinds : Cal P w K mg base 1 "_law_kinds" fK fdK ["error"] (spBits K O.k1)) (C__law_others : Cal P w K mg base 1 "_law_others" fO fdO ["error"] (spBits K O.k2))
    (DInvalidWord : PlainE K mg O.aInvalidWord "InvalidWord") (DInvalidPromise : PlainE K mg O.aInvalidPromise "InvalidPromise") (DInvalidPlace : PlainE K mg O.aInvalidPlace "InvalidPlace") (DInvalidCall : PlainE K mg O.aInvalidCall "InvalidCall") (DInvalidRun : PlainE K mg O.aInvalidRun "InvalidRun") (DInvalidWorld : PlainE K mg O.aInvalidWorld "InvalidWorld") (DInvalidPlan : PlainE K mg O.aInvalidPlan "InvalidPlan") (DInvalidBook : PlainE K mg O.aInvalidBook "InvalidBook") (DInvalidOperation : PlainE K mg O.aInvalidOperation "InvalidOperation") (DPromiseError : PlainE K mg O.aPromiseError "PromiseError")
    (EParseError : KeepC P w K mg base O.aParseError "ParseError" "line") (EUnknownFact : KeepC P w K mg base O.aUnknownFact "UnknownFact" "asked") (ENotKept : KeepC P w K mg base O.aNotKept "NotKept" "wanted") (ENothingToUndo : KeepC P w K mg base O.aNothingToUndo "NothingToUndo" "amount") (ETooMany : KeepC P w K mg base O.aTooMany "TooMany" "limit") (ERefused : KeepC P w K mg base O.aRefused "Refused" "cause") (EInvalidNumber : KeepC P w K mg base O.aInvalidNumber "InvalidNumber" "number")
    (rInvalidWord : Row K O.k1 O.aInvalidWord (rowB 0)) (sInvalidWord : Row K O.k2 O.aInvalidWord no12) (rInvalidPromise : Row K O.k1 O.aInvalidPromise (rowB 1)) (sInvalidPromise : Row K O.k2 O.aInvalidPromise no12) (rInvalidPlace : Row K O.k1 O.aInvalidPlace (rowB 2)) (sInvalidPlace : Row K O.k2 O.aInvalidPlace no12) (rInvalidCall : Row K O.k1 O.aInvalidCall (rowB 3)) (sInvalidCall : Row K O.k2 O.aInvalidCall no12) (rInvalidRun : Row K O.k1 O.aInvalidRun (rowB 4)) (sInvalidRun : Row K O.k2 O.aInvalidRun no12) (rInvalidWorld : Row K O.k1 O.aInvalidWorld (rowB 5)) (sInvalidWorld : Row K O.k2 O.aInvalidWorld no12) (rInvalidPlan : Row K O.k1 O.aInvalidPlan (rowB 6)) (sInvalidPlan : Row K O.k2 O.aInvalidPlan no12) (rInvalidBook : Row K O.k1 O.aInvalidBook (rowB 7)) (sInvalidBook : Row K O.k2 O.aInvalidBook no12) (rInvalidOperation : Row K O.k1 O.aInvalidOperation (rowB 8)) (sInvalidOperation : Row K O.k2 O.aInvalidOperation no12) (rPromiseError : Row K O.k1 O.aPromiseError (rowB 10)) (sPromiseError : Row K O.k2 O.aPromiseError no12) (rParseError : Row K O.k1 O.aParseError (rowB 9)) (sParseError : Row K O.k2 O.aParseError no12) (rUnknownFact : Row K O.k1 O.aUnknownFact no12) (sUnknownFact : Row K O.k2 O.aUnknownFact (onB [0, 6, 8])) (rNotKept : Row K O.k1 O.aNotKept no12) (sNotKept : Row K O.k2 O.aNotKept (onB [1, 8])) (rNothingToUndo : Row K O.k1 O.aNothingToUndo no12) (sNothingToUndo : Row K O.k2 O.aNothingToUndo (onB [2, 7, 8])) (rTooMany : Row K O.k1 O.aTooMany no12) (sTooMany : Row K O.k2 O.aTooMany (onB [3, 9, 10])) (rRefused : Row K O.k1 O.aRefused no12) (sRefused : Row K O.k2 O.aRefused (onB [4, 10])) (rInvalidNumber : Row K O.k1 O.aInvalidNumber no12) (sInvalidNumber : Row K O.k2 O.aInvalidNumber (onB [5, 11]))
    : FnG P w K mg base 6 f fd ["dice"] (spRight0 K) := by
  refine funG F sc__law_right (fun vs H Q E h => ?_) (fun cdv A outer s H vs Q E hgd hr h => ?_)
  · obtain ⟨d, rfl, _⟩ := h
    rfl
  · obtain ⟨d, rfl, D, q⟩ := h
    have hu := hr.units
    have hu2 : (A.deeper (envOfC "_law_right" (defScope s__law_right) s.heap.objs.size f cdv)).units + 2 < cLine := by omega
    have hr5 := hr.mono (j := 5) (by omega)
    have hr2 := hr.mono (j := 2) (by omega)
    have hr1 := hr.mono (j := 1) (by omega)
    refine ⟨_, (pss_cons (ps_set (i := 1) sc__law_right.nd rfl (.inl rfl) (pe_call C__law_pick.G hr2 (by rfl) C__law_pick.m C__law_pick.k C__law_pick.b .nil pass0 (pa_cons (pv 0) (pa_cons (pe_lst (pa_cons pe_int (pa_cons pe_str (pa_cons pe_str (pa_cons pe_non (pa_cons (pe_tup pa_nil) (pa_cons (pe_tup (pa_cons pe_str (pa_cons pe_str pa_nil))) (pa_cons (pe_op op_pow pe_int pe_int) (pa_cons pe_bl (pa_cons (pe_tup (pa_cons pe_str (pa_cons (pe_tup (pa_cons pe_int (pa_cons pe_int pa_nil))) pa_nil))) (pa_cons (pe_lst (pa_cons pe_int pa_nil)) (pa_cons (pe_disp (pps_cons pe_str pe_int pps_nil) (by rfl) (by rfl) (fun z => by cases z) (by decide)) pa_nil)))))))))))) pa_nil))))
  (pss_cons (ps_set (i := 2) sc__law_right.nd rfl (.inl rfl) (pe_call C__law_pick.G hr2 (by rfl) C__law_pick.m C__law_pick.k C__law_pick.b .nil pass0 (pa_cons (pv 0) (pa_cons (pe_lst (pa_cons pe_str (pa_cons pe_str (pa_cons pe_str (pa_cons pe_str pa_nil))))) pa_nil))))
  (pss_cons (ps_set (i := 3) sc__law_right.nd rfl (.inl rfl) (pe_lst (pa_cons (pe_plainE DInvalidWord (by rfl) (pv 2)) (pa_cons (pe_plainE DInvalidPromise (by rfl) (pv 2)) (pa_cons (pe_plainE DInvalidPlace (by rfl) (pv 2)) (pa_cons (pe_plainE DInvalidCall (by rfl) (pv 2)) (pa_cons (pe_plainE DInvalidRun (by rfl) (pv 2)) pa_nil)))))))
  (pss_cons (ps_set (i := 3) sc__law_right.nd rfl (.inl rfl) (pe_op op_cat (pv 3) (pe_lst (pa_cons (pe_plainE DInvalidWorld (by rfl) (pv 2)) (pa_cons (pe_plainE DInvalidPlan (by rfl) (pv 2)) (pa_cons (pe_plainE DInvalidBook (by rfl) (pv 2)) (pa_cons (pe_plainE DInvalidOperation (by rfl) (pv 2)) pa_nil)))))))
  (pss_cons (ps_expr (bmK (K := K) rfl (pe_bm PySem.F.plainAttrs_list PySem.F.slot_list_append PySem.F.type_list_append mt_append (pv 3) (pa_cons (pe_plainE DPromiseError (by rfl) (pv 2)) pa_nil))))
  (pss_cons (ps_if (PW.pt (pw_or (pt_cmpR (neD (K := K) rfl hu) (pe_lc (own := [("one", 9)]) (g := gName 9) (by rfl) sc__law_right.nd (piL (K := K) rfl (pv 3)) (blkOk_by (by kernel_rfl)) (fun _ _ _ _ _ => (pg_name (i := 9) sc__law_right.nd rfl (.inl rfl))) (fun _ _ _ _ _ => pts_nil) (fun _ _ _ _ _ => (pe_callTy (call_strX (K := K) rfl hu2) (by rfl) T.str_ (by decide +kernel) (pa_cons (pv 9) pa_nil)))) (pe_op op_rep (pe_lst (pa_cons (pv 2) pa_nil)) pe_int) (nomark _)) (pw_or1 (pt_cmpR (neD (K := K) rfl hu) (pe_lc (own := [("one", 9)]) (g := gName 9) (by rfl) sc__law_right.nd (piL (K := K) rfl (pv 3)) (blkOk_by (by kernel_rfl)) (fun _ _ _ _ _ => (pg_name (i := 9) sc__law_right.nd rfl (.inl rfl))) (fun _ _ _ _ _ => pts_nil) (fun _ _ _ _ _ => (pe_call C__law_others.G hr1 (by rfl) C__law_others.m C__law_others.k C__law_others.b .nil pass0 (pa_cons (pv 9) pa_nil)))) (pe_op op_rep (pe_lst (pa_cons (pe_op op_mulS pe_str pe_int) pa_nil)) pe_int) (nomark _)))))
  (pss_one (ps_ret pe_bl))
  pss_nil)
  (pss_cons (ps_set (i := 4) sc__law_right.nd rfl (.inl rfl) (pe_call C__law_pick.G hr2 (by rfl) C__law_pick.m C__law_pick.k C__law_pick.b .nil pass0 (pa_cons (pv 0) (pa_cons (pe_lst (pa_cons pe_non (pa_cons pe_int (pa_cons pe_int (pa_cons (pe_op op_pow pe_int pe_int) pa_nil))))) pa_nil))))
  (pss_cons (ps_asg (pe_keepE EParseError hr5 (by rfl) (pv 4)) (pg_sub (pv 3) pe_int set_list))
  (pss_cons (ps_setLc (i := 5) (own := [("spot", 8)]) (g := gName 8) (by rfl) sc__law_right.nd rfl rfl (sw_true rfl rfl rfl (by decide +kernel)) (pi_range1 (by rfl) T.range_ (pa_cons pe_int pa_nil)) (blkOk_by (by kernel_rfl)) (fun _ _ _ _ _ => (pg_name (i := 8) sc__law_right.nd rfl (.inl rfl))) (fun _ _ _ _ _ => pts_nil) (fun _ _ _ _ _ => (pe_op op_add_str (pe_op op_add_str (pe_op op_add_str (pe_op op_mulS pe_str (pv 8)) pe_str) (pe_op op_mulS pe_str (pe_op op_sub pe_int (pv 8)))) pe_str)))
  (pss_cons (ps_if (PW.pt (pw_or (pt_cmpR (neD (K := K) rfl hu) (pe_lc (own := [("one", 9)]) (g := gName 9) (by rfl) sc__law_right.nd (piL (K := K) rfl (pv 3)) (blkOk_by (by kernel_rfl)) (fun _ _ _ _ _ => (pg_name (i := 9) sc__law_right.nd rfl (.inl rfl))) (fun _ _ _ _ _ => pts_nil) (fun _ _ _ _ _ => (pe_call C__law_kinds.G hr1 (by rfl) C__law_kinds.m C__law_kinds.k C__law_kinds.b .nil pass0 (pa_cons (pv 9) pa_nil)))) (pv 5) (nomark _)) (pw_or1 (pt_cmpR op_ne (pe_call C__law_kinds.G hr1 (by rfl) C__law_kinds.m C__law_kinds.k C__law_kinds.b .nil pass0 (pa_cons (pe_plainE DPromiseError (by rfl) (pv 2)) pa_nil)) (pe_op op_add_str (pe_op op_mulS pe_str pe_int) pe_str) (nomark _)))))
  (pss_one (ps_ret pe_bl))
  pss_nil)
  (pss_cons (ps_set (i := 6) sc__law_right.nd rfl (.inl rfl) (pe_lst (pa_cons (pe_keepE EUnknownFact hr5 (by rfl) (pv 1)) (pa_cons (pe_keepE ENotKept hr5 (by rfl) (pv 1)) (pa_cons (pe_keepE ENothingToUndo hr5 (by rfl) (pv 1)) (pa_cons (pe_keepE ETooMany hr5 (by rfl) (pv 1)) (pa_cons (pe_keepE ERefused hr5 (by rfl) (pv 1)) pa_nil)))))))
  (pss_cons (ps_expr (bmK (K := K) rfl (pe_bm PySem.F.plainAttrs_list PySem.F.slot_list_append PySem.F.type_list_append mt_append (pv 6) (pa_cons (pe_keepE EInvalidNumber hr5 (by rfl) (pv 1)) pa_nil))))
  (pss_cons (ps_set (i := 5) sc__law_right.nd rfl (.inl rfl) (pe_lst (pa_cons pe_str (pa_cons pe_str (pa_cons pe_str (pa_cons pe_str (pa_cons pe_str (pa_cons pe_str pa_nil))))))))
  (pss_cons (ps_if (PW.pt (pw_or (pt_cmpR (neD (K := K) rfl hu) (pe_lc (own := [("one", 9)]) (g := gName 9) (by rfl) sc__law_right.nd (piL (K := K) rfl (pv 6)) (blkOk_by (by kernel_rfl)) (fun _ _ _ _ _ => (pg_name (i := 9) sc__law_right.nd rfl (.inl rfl))) (fun _ _ _ _ _ => pts_nil) (fun _ _ _ _ _ => (pe_call C__law_others.G hr1 (by rfl) C__law_others.m C__law_others.k C__law_others.b .nil pass0 (pa_cons (pv 9) pa_nil)))) (pv 5) (nomark _)) (pw_or1 (pt_cmpR (neD (K := K) rfl hu) (pe_lc (own := [("one", 9)]) (g := gName 9) (by rfl) sc__law_right.nd (piL (K := K) rfl (pv 6)) (blkOk_by (by kernel_rfl)) (fun _ _ _ _ _ => (pg_name (i := 9) sc__law_right.nd rfl (.inl rfl))) (fun _ _ _ _ _ => pts_nil) (fun _ _ _ _ _ => (pe_call C__law_kinds.G hr1 (by rfl) C__law_kinds.m C__law_kinds.k C__law_kinds.b .nil pass0 (pa_cons (pv 9) pa_nil)))) (pe_op op_rep (pe_lst (pa_cons (pe_op op_mulS pe_str pe_int) pa_nil)) pe_int) (nomark _)))))
  (pss_one (ps_ret pe_bl))
  pss_nil)
  (pss_cons (ps_if (PW.pt (pw_or (pt_cmpR op_ne (pe_call C__law_others.G hr1 (by rfl) C__law_others.m C__law_others.k C__law_others.b .nil pass0 (pa_cons (pe_ix (ixL (K := K) rfl) (pv 3) pe_int (fun _ _ => rfl)) pa_nil)) (pe_op op_mulS pe_str pe_int) (nomark _)) (pw_or1 (pt_cmpR op_ne (pe_callB reprS (by rfl) T.repr_ (by decide +kernel) (pa_cons (pe_xf2 (K := K) rfl (pe_ix (ixL (K := K) rfl) (pv 3) pe_int (fun _ _ => rfl))) pa_nil)) (pe_callB reprS (by rfl) T.repr_ (by decide +kernel) (pa_cons (pv 4) pa_nil)) (nomark _)))))
  (pss_one (ps_ret pe_bl))
  pss_nil)
  (pss_cons (ps_set (i := 7) sc__law_right.nd rfl (.inl rfl) (pe_lstS (pa_cons (pe_xf2 (K := K) rfl (pe_ix (ixL (K := K) rfl) (pv 6) pe_int (fun _ _ => rfl))) (pa_cons (pe_xf2 (K := K) rfl (pe_ix (ixL (K := K) rfl) (pv 6) pe_int (fun _ _ => rfl))) (pa_cons (pe_xf2 (K := K) rfl (pe_ix (ixL (K := K) rfl) (pv 6) pe_int (fun _ _ => rfl))) (pa_cons (pe_xf2 (K := K) rfl (pe_ix (ixL (K := K) rfl) (pv 6) pe_int (fun _ _ => rfl))) (pa_cons (pe_xf2 (K := K) rfl (pe_ix (ixL (K := K) rfl) (pv 6) pe_int (fun _ _ => rfl))) (pa_cons (pe_xf2 (K := K) rfl (pe_ix (ixL (K := K) rfl) (pv 6) pe_int (fun _ _ => rfl))) pa_nil))))))))
  (pss_one (ps_ret (pe_cmpR op_eq (pe_callB ((reprD (K := K) rfl hgd hu).or (reprL (K := K) rfl hgd hu)) (by rfl) T.repr_ (by decide +kernel) (pa_cons (pv 7) pa_nil)) (pe_callB ((reprD (K := K) rfl hgd hu).or (reprL (K := K) rfl hgd hu)) (by rfl) T.repr_ (by decide +kernel) (pa_cons (pe_op op_repS (pe_lst (pa_cons (pv 1) pa_nil)) pe_int) pa_nil)) (nomark _)))))))))))))))))))), ?_⟩
    refine ⟨_, rfl, ?_⟩
    refine ⟨lenOk 0, fun p1 n1 => ⟨lenOk 2, fun p2 n2 => ⟨_, _, rfl, rfl, ⟨by decide, by decide, by decide⟩, ⟨lenOk 2, fun p3 n3 => ⟨lenOk 2, fun p4 n4 => ⟨lenOk 1, fun p5 n5 => fun p6 n6 => ⟨upd_same, [(.inr "a", .int 1)], rfl, by decide, lenOk 11, fun l1 n7 => ?_⟩⟩⟩⟩⟩⟩⟩
    have t1 := same_new (o := .tup ([] : List V)) n1
    have t2 := same_new (o := .tup [V.str "a", .str "b"]) n2
    have t3 := same_new (o := .tup [V.int 0, .int 1]) n3
    have t4 := same_new (o := .tup [V.str "kept", .ref p3]) n4
    have t5 := same_new (o := .lst [V.int 1]) n5
    have t6 := put_same (o := .dK [((.inr "a" : Key), V.int 1)]) (same_new (o := .dK []) n6) n6
    have t7 := same_new (o := .lst [V.int 0, .str "", .str "a", .non, .ref p1, .ref p2, .int (10 ^ 40), .bl true, .ref p4, .ref p5, .ref p6]) n7
    have T7 := t1.trans (t2.trans (t3.trans (t4.trans (t5.trans (t6.trans t7)))))
    have D7 := (gr_same D T7).dice
    have e1 := (t2.trans (t3.trans (t4.trans (t5.trans (t6.trans t7))))) p1 _ upd_same
    have e2 := (t3.trans (t4.trans (t5.trans (t6.trans t7)))) p2 _ upd_same
    have e3 := (t4.trans (t5.trans (t6.trans t7))) p3 _ upd_same
    have e4 := (t5.trans (t6.trans t7)) p4 _ upd_same
    have e5 := (t6.trans t7) p5 _ upd_same
    have e6 := t7 p6 _ upd_same
    refine ⟨d, l1, [V.int 0, .str "", .str "a", .non, .ref p1, .ref p2, .int (10 ^ 40), .bl true, .ref p4, .ref p5, .ref p6], rfl, D7, SqL.of upd_same, D3.ne ((gr_same D (t1.trans (t2.trans (t3.trans (t4.trans (t5.trans t6)))))).dice) n7, by show 0 < 11; decide, by show 11 < 1000000; decide, fun x H1 hx D1 k1 => ?_⟩
    have g1 := (gr_same D T7).trans (gr_off D1 k1)
    obtain ⟨dd, hd, cd⟩ : ∃ dd ∈ data11, Cd K (fun a => a ≠ d) H1 2 x dd := by
      have up : ∀ {dd : PyData}, Cd K (fun a => a ≠ d) _ 2 x dd → Cd K (fun a => a ≠ d) H1 2 x dd := fun h => cd_gr D7 (gr_off D1 k1) h
      obtain ⟨g, b, c, ed⟩ := id D7
      simp only [List.mem_cons, List.not_mem_nil, or_false] at hx
      rcases hx with rfl | rfl | rfl | rfl | rfl | rfl | rfl | rfl | rfl | rfl | rfl
      · exact ⟨.int 0, by simp [data11], up (Flat0.any (.inr (.inr (.inl ⟨_, rfl, rfl⟩))) 2)⟩
      · exact ⟨.str "", by simp [data11], up (Flat0.any (.inr (.inr (.inr ⟨_, rfl, rfl⟩))) 2)⟩
      · exact ⟨.str "a", by simp [data11], up (Flat0.any (.inr (.inr (.inr ⟨_, rfl, rfl⟩))) 2)⟩
      · exact ⟨.none, by simp [data11], up (Flat0.any (.inl ⟨rfl, rfl⟩) 2)⟩
      · exact ⟨.tuple [], by simp [data11], up (.inr (.inr (.inl ⟨p1, [], [], rfl, rfl, SqT.of e1, by decide, .nil⟩)))⟩
      · exact ⟨.tuple [.str "a", .str "b"], by simp [data11], up (.inr (.inr (.inl ⟨p2, _, _, rfl, rfl, SqT.of e2, by decide, .cons (Flat0.any (.inr (.inr (.inr ⟨_, rfl, rfl⟩))) 1) (.cons (Flat0.any (.inr (.inr (.inr ⟨_, rfl, rfl⟩))) 1) .nil)⟩)))⟩
      · exact ⟨.int (10 ^ 40), by simp [data11], up (Flat0.any (.inr (.inr (.inl ⟨_, rfl, rfl⟩))) 2)⟩
      · exact ⟨.bool true, by simp [data11], up (Flat0.any (.inr (.inl ⟨_, rfl, rfl⟩)) 2)⟩
      · exact ⟨.tuple [.str "kept", .tuple [.int 0, .int 1]], by simp [data11], up (.inr (.inr (.inl ⟨p4, _, _, rfl, rfl, SqT.of e4, by show 2 ≤ 1000; decide, .cons (Flat0.any (.inr (.inr (.inr ⟨_, rfl, rfl⟩))) 1) (.cons (.inr (.inr (.inl ⟨p3, _, _, rfl, rfl, SqT.of e3, by decide, .cons (Flat0.any (.inr (.inr (.inl ⟨_, rfl, rfl⟩))) 0) (.cons (Flat0.any (.inr (.inr (.inl ⟨_, rfl, rfl⟩))) 0) .nil)⟩))) .nil)⟩)))⟩
      · exact ⟨.list [.int 1], by simp [data11], up (.inr (.inl ⟨p5, _, _, rfl, rfl, ne_at e5 ed (fun h => by cases h), e5, by decide, .cons (Flat0.any (.inr (.inr (.inl ⟨_, rfl, rfl⟩))) 1) .nil⟩))⟩
      · exact ⟨.dict [(.str "a", .int 1)], by simp [data11], up (.inr (.inr (.inr ⟨p6, "a", 1, rfl, rfl, ne_at e6 ed (fun h => by cases h), e6⟩)))⟩
    clear t1 t2 t3 t4 t5 t6 t7 T7 D7 e1 e2 e3 e4 e5 e6 n1 n2 n3 n4 n5 n6 n7 k1 hx
    refine ⟨_, rfl, lenOk 4, fun l2 n2 => ?_⟩
    have t2 := same_new (o := .lst [V.str "", .str "no promise", .str "a", .str "line 3"]) n2
    refine ⟨d, l2, [V.str "", .str "no promise", .str "a", .str "line 3"], rfl, (gr_same D1 t2).dice, SqL.of upd_same, D1.ne n2, by decide, by decide, fun y H2 hy D2 k2 => ?_⟩
    obtain ⟨z, rfl, hz⟩ : ∃ z : Str, y = .str z ∧ z ∈ words4 := by
      simp only [List.mem_cons, List.not_mem_nil, or_false] at hy
      rcases hy with rfl | rfl | rfl | rfl
      · exact ⟨_, rfl, by simp [words4]⟩
      · exact ⟨_, rfl, by simp [words4]⟩
      · exact ⟨_, rfl, by simp [words4]⟩
      · exact ⟨_, rfl, by simp [words4]⟩
    have g := (gr_same D1 t2).trans (gr_off D2 k2)
    have c2 := cd_gr D1 g cd
    have gg := g1.trans g
    clear t2 n2 k2 hy g D1 cd g1
    refine ⟨_, rfl, fun t1 a1 nt1 na1 ne1 => ?_⟩
    obtain ⟨s1, r1⟩ := erT_new (C := O.aInvalidWord) (z := z) nt1 na1 ne1
    generalize upd (upd H2 t1 (.tup [.str z])) a1 (exT a1 O.aInvalidWord t1) = K1 at s1 r1 ⊢
    replace c2 := cd_gr D2 (gr_same D2 s1) c2
    replace gg := gg.trans (gr_same D2 s1)
    replace D2 := (gr_same D2 s1).dice
    clear s1 nt1 na1 ne1
    refine ⟨_, rfl, fun t2 a2 nt2 na2 ne2 => ?_⟩
    obtain ⟨s2, r2⟩ := erT_new (C := O.aInvalidPromise) (z := z) nt2 na2 ne2
    generalize upd (upd K1 t2 (.tup [.str z])) a2 (exT a2 O.aInvalidPromise t2) = K2 at s2 r2 ⊢
    replace r1 := r1.same s2
    replace c2 := cd_gr D2 (gr_same D2 s2) c2
    replace gg := gg.trans (gr_same D2 s2)
    replace D2 := (gr_same D2 s2).dice
    clear s2 nt2 na2 ne2
    refine ⟨_, rfl, fun t3 a3 nt3 na3 ne3 => ?_⟩
    obtain ⟨s3, r3⟩ := erT_new (C := O.aInvalidPlace) (z := z) nt3 na3 ne3
    generalize upd (upd K2 t3 (.tup [.str z])) a3 (exT a3 O.aInvalidPlace t3) = K3 at s3 r3 ⊢
    replace r1 := r1.same s3
    replace r2 := r2.same s3
    replace c2 := cd_gr D2 (gr_same D2 s3) c2
    replace gg := gg.trans (gr_same D2 s3)
    replace D2 := (gr_same D2 s3).dice
    clear s3 nt3 na3 ne3
    refine ⟨_, rfl, fun t4 a4 nt4 na4 ne4 => ?_⟩
    obtain ⟨s4, r4⟩ := erT_new (C := O.aInvalidCall) (z := z) nt4 na4 ne4
    generalize upd (upd K3 t4 (.tup [.str z])) a4 (exT a4 O.aInvalidCall t4) = K4 at s4 r4 ⊢
    replace r1 := r1.same s4
    replace r2 := r2.same s4
    replace r3 := r3.same s4
    replace c2 := cd_gr D2 (gr_same D2 s4) c2
    replace gg := gg.trans (gr_same D2 s4)
    replace D2 := (gr_same D2 s4).dice
    clear s4 nt4 na4 ne4
    refine ⟨_, rfl, fun t5 a5 nt5 na5 ne5 => ?_⟩
    obtain ⟨s5, r5⟩ := erT_new (C := O.aInvalidRun) (z := z) nt5 na5 ne5
    generalize upd (upd K4 t5 (.tup [.str z])) a5 (exT a5 O.aInvalidRun t5) = K5 at s5 r5 ⊢
    replace r1 := r1.same s5
    replace r2 := r2.same s5
    replace r3 := r3.same s5
    replace r4 := r4.same s5
    replace c2 := cd_gr D2 (gr_same D2 s5) c2
    replace gg := gg.trans (gr_same D2 s5)
    replace D2 := (gr_same D2 s5).dice
    clear s5 nt5 na5 ne5
    refine ⟨lenOk 5, fun L nL => ?_⟩
    have s := same_new (o := .lst [V.ref a1, .ref a2, .ref a3, .ref a4, .ref a5]) nL
    have eL : upd K5 L (.lst [V.ref a1, .ref a2, .ref a3, .ref a4, .ref a5]) L = some (.lst [V.ref a1, .ref a2, .ref a3, .ref a4, .ref a5]) := upd_same
    generalize upd K5 L (.lst [V.ref a1, .ref a2, .ref a3, .ref a4, .ref a5]) = J1 at s eL ⊢
    replace r1 := r1.same s
    replace r2 := r2.same s
    replace r3 := r3.same s
    replace r4 := r4.same s
    replace r5 := r5.same s
    replace c2 := cd_gr D2 (gr_same D2 s) c2
    replace gg := gg.trans (gr_same D2 s)
    replace D2 := (gr_same D2 s).dice
    clear s
    refine ⟨_, rfl, ?_⟩
    refine ⟨_, rfl, fun t6 a6 nt6 na6 ne6 => ?_⟩
    obtain ⟨s6, r6⟩ := erT_new (C := O.aInvalidWorld) (z := z) nt6 na6 ne6
    generalize upd (upd J1 t6 (.tup [.str z])) a6 (exT a6 O.aInvalidWorld t6) = K6 at s6 r6 ⊢
    replace r1 := r1.same s6
    replace r2 := r2.same s6
    replace r3 := r3.same s6
    replace r4 := r4.same s6
    replace r5 := r5.same s6
    replace c2 := cd_gr D2 (gr_same D2 s6) c2
    replace gg := gg.trans (gr_same D2 s6)
    replace D2 := (gr_same D2 s6).dice
    replace eL := s6 _ _ eL
    clear s6 nt6 na6 ne6
    refine ⟨_, rfl, fun t7 a7 nt7 na7 ne7 => ?_⟩
    obtain ⟨s7, r7⟩ := erT_new (C := O.aInvalidPlan) (z := z) nt7 na7 ne7
    generalize upd (upd K6 t7 (.tup [.str z])) a7 (exT a7 O.aInvalidPlan t7) = K7 at s7 r7 ⊢
    replace r1 := r1.same s7
    replace r2 := r2.same s7
    replace r3 := r3.same s7
    replace r4 := r4.same s7
    replace r5 := r5.same s7
    replace r6 := r6.same s7
    replace c2 := cd_gr D2 (gr_same D2 s7) c2
    replace gg := gg.trans (gr_same D2 s7)
    replace D2 := (gr_same D2 s7).dice
    replace eL := s7 _ _ eL
    clear s7 nt7 na7 ne7
    refine ⟨_, rfl, fun t8 a8 nt8 na8 ne8 => ?_⟩
    obtain ⟨s8, r8⟩ := erT_new (C := O.aInvalidBook) (z := z) nt8 na8 ne8
    generalize upd (upd K7 t8 (.tup [.str z])) a8 (exT a8 O.aInvalidBook t8) = K8 at s8 r8 ⊢
    replace r1 := r1.same s8
    replace r2 := r2.same s8
    replace r3 := r3.same s8
    replace r4 := r4.same s8
    replace r5 := r5.same s8
    replace r6 := r6.same s8
    replace r7 := r7.same s8
    replace c2 := cd_gr D2 (gr_same D2 s8) c2
    replace gg := gg.trans (gr_same D2 s8)
    replace D2 := (gr_same D2 s8).dice
    replace eL := s8 _ _ eL
    clear s8 nt8 na8 ne8
    refine ⟨_, rfl, fun t9 a9 nt9 na9 ne9 => ?_⟩
    obtain ⟨s9, r9⟩ := erT_new (C := O.aInvalidOperation) (z := z) nt9 na9 ne9
    generalize upd (upd K8 t9 (.tup [.str z])) a9 (exT a9 O.aInvalidOperation t9) = K9 at s9 r9 ⊢
    replace r1 := r1.same s9
    replace r2 := r2.same s9
    replace r3 := r3.same s9
    replace r4 := r4.same s9
    replace r5 := r5.same s9
    replace r6 := r6.same s9
    replace r7 := r7.same s9
    replace r8 := r8.same s9
    replace c2 := cd_gr D2 (gr_same D2 s9) c2
    replace gg := gg.trans (gr_same D2 s9)
    replace D2 := (gr_same D2 s9).dice
    replace eL := s9 _ _ eL
    clear s9 nt9 na9 ne9
    refine ⟨lenOk 4, fun M nM => ?_⟩
    have s := same_new (o := .lst [V.ref a6, .ref a7, .ref a8, .ref a9]) nM
    have eM : upd K9 M (.lst [V.ref a6, .ref a7, .ref a8, .ref a9]) M = some (.lst [V.ref a6, .ref a7, .ref a8, .ref a9]) := upd_same
    generalize upd K9 M (.lst [V.ref a6, .ref a7, .ref a8, .ref a9]) = J2 at s eM ⊢
    replace r1 := r1.same s
    replace r2 := r2.same s
    replace r3 := r3.same s
    replace r4 := r4.same s
    replace r5 := r5.same s
    replace r6 := r6.same s
    replace r7 := r7.same s
    replace r8 := r8.same s
    replace r9 := r9.same s
    replace c2 := cd_gr D2 (gr_same D2 s) c2
    replace gg := gg.trans (gr_same D2 s)
    replace D2 := (gr_same D2 s).dice
    replace eL := s _ _ eL
    clear s
    refine ⟨L, M, _, _, rfl, rfl, eL, eM, by rw [sizeLine_eq]; show 5 + 4 ≤ _; omega, fun L2 nL2 => ?_⟩
    clear eL
    have fL := gg.free D nL2
    have dL := D2.ne nL2
    replace c2 := c2.off nL2
    have s := same_new (o := .lst ([V.ref a1, .ref a2, .ref a3, .ref a4, .ref a5] ++ [V.ref a6, .ref a7, .ref a8, .ref a9])) nL2
    have eL2 : upd J2 L2 (.lst ([V.ref a1, .ref a2, .ref a3, .ref a4, .ref a5] ++ [V.ref a6, .ref a7, .ref a8, .ref a9])) L2 = some (.lst ([V.ref a1, .ref a2, .ref a3, .ref a4, .ref a5] ++ [V.ref a6, .ref a7, .ref a8, .ref a9])) := upd_same
    generalize upd J2 L2 (.lst ([V.ref a1, .ref a2, .ref a3, .ref a4, .ref a5] ++ [V.ref a6, .ref a7, .ref a8, .ref a9])) = J3 at s eL2 ⊢
    replace r1 := r1.same s
    replace r2 := r2.same s
    replace r3 := r3.same s
    replace r4 := r4.same s
    replace r5 := r5.same s
    replace r6 := r6.same s
    replace r7 := r7.same s
    replace r8 := r8.same s
    replace r9 := r9.same s
    replace c2 := cd_gr2 (fun _ h => h.1) D2 (gr_same D2 s) c2
    replace gg := gg.trans (gr_same D2 s)
    replace D2 := (gr_same D2 s).dice
    clear s
    clear eM nM nL
    have eL := eL2
    clear eL2
    refine ⟨_, rfl, .inl ⟨rfl, _, SqL.of eL⟩, ?_⟩
    refine ⟨_, rfl, fun t10 a10 nt10 na10 ne10 => ?_⟩
    obtain ⟨s10, r10⟩ := erT_new (C := O.aPromiseError) (z := z) nt10 na10 ne10
    generalize upd (upd J3 t10 (.tup [.str z])) a10 (exT a10 O.aPromiseError t10) = K10 at s10 r10 ⊢
    replace r1 := r1.same s10
    replace r2 := r2.same s10
    replace r3 := r3.same s10
    replace r4 := r4.same s10
    replace r5 := r5.same s10
    replace r6 := r6.same s10
    replace r7 := r7.same s10
    replace r8 := r8.same s10
    replace r9 := r9.same s10
    replace c2 := cd_gr2 (fun _ h => h.1) D2 (gr_same D2 s10) c2
    replace gg := gg.trans (gr_same D2 s10)
    replace D2 := (gr_same D2 s10).dice
    replace eL := s10 _ _ eL
    clear s10 nt10 na10 ne10
    refine ⟨L2, _, _, rfl, rfl, eL, small (by show 9 < 1000000; decide), ?_⟩
    replace r1 := r1.put (o := .lst (([V.ref a1, .ref a2, .ref a3, .ref a4, .ref a5] ++ [V.ref a6, .ref a7, .ref a8, .ref a9]) ++ [.ref a10])) eL
    replace r2 := r2.put (o := .lst (([V.ref a1, .ref a2, .ref a3, .ref a4, .ref a5] ++ [V.ref a6, .ref a7, .ref a8, .ref a9]) ++ [.ref a10])) eL
    replace r3 := r3.put (o := .lst (([V.ref a1, .ref a2, .ref a3, .ref a4, .ref a5] ++ [V.ref a6, .ref a7, .ref a8, .ref a9]) ++ [.ref a10])) eL
    replace r4 := r4.put (o := .lst (([V.ref a1, .ref a2, .ref a3, .ref a4, .ref a5] ++ [V.ref a6, .ref a7, .ref a8, .ref a9]) ++ [.ref a10])) eL
    replace r5 := r5.put (o := .lst (([V.ref a1, .ref a2, .ref a3, .ref a4, .ref a5] ++ [V.ref a6, .ref a7, .ref a8, .ref a9]) ++ [.ref a10])) eL
    replace r6 := r6.put (o := .lst (([V.ref a1, .ref a2, .ref a3, .ref a4, .ref a5] ++ [V.ref a6, .ref a7, .ref a8, .ref a9]) ++ [.ref a10])) eL
    replace r7 := r7.put (o := .lst (([V.ref a1, .ref a2, .ref a3, .ref a4, .ref a5] ++ [V.ref a6, .ref a7, .ref a8, .ref a9]) ++ [.ref a10])) eL
    replace r8 := r8.put (o := .lst (([V.ref a1, .ref a2, .ref a3, .ref a4, .ref a5] ++ [V.ref a6, .ref a7, .ref a8, .ref a9]) ++ [.ref a10])) eL
    replace r9 := r9.put (o := .lst (([V.ref a1, .ref a2, .ref a3, .ref a4, .ref a5] ++ [V.ref a6, .ref a7, .ref a8, .ref a9]) ++ [.ref a10])) eL
    replace r10 := r10.put (o := .lst (([V.ref a1, .ref a2, .ref a3, .ref a4, .ref a5] ++ [V.ref a6, .ref a7, .ref a8, .ref a9]) ++ [.ref a10])) eL
    replace c2 := Cd.put (o' := .lst (([V.ref a1, .ref a2, .ref a3, .ref a4, .ref a5] ++ [V.ref a6, .ref a7, .ref a8, .ref a9]) ++ [.ref a10])) eL (.inl ⟨_, rfl⟩) (fun h => h.2 rfl) c2
    replace gg := gg.put (o := .lst (([V.ref a1, .ref a2, .ref a3, .ref a4, .ref a5] ++ [V.ref a6, .ref a7, .ref a8, .ref a9]) ++ [.ref a10])) fL dL
    replace D2 := gg.dice
    have eN : upd K10 L2 (.lst (([V.ref a1, .ref a2, .ref a3, .ref a4, .ref a5] ++ [V.ref a6, .ref a7, .ref a8, .ref a9]) ++ [.ref a10])) L2 = some (.lst [V.ref a1, .ref a2, .ref a3, .ref a4, .ref a5, .ref a6, .ref a7, .ref a8, .ref a9, .ref a10]) := upd_same
    clear eL
    generalize upd K10 L2 (.lst (([V.ref a1, .ref a2, .ref a3, .ref a4, .ref a5] ++ [V.ref a6, .ref a7, .ref a8, .ref a9]) ++ [.ref a10])) = J4 at r1 r2 r3 r4 r5 r6 r7 r8 r9 r10 c2 gg D2 eN ⊢
    have eL := eN
    clear eN
    refine ⟨_, rfl, L2, rfl, ⟨_, SqL.of eL⟩, fun Q1 nQ1 => lc_strs (ts := List.replicate 10 z) nQ1 eL (by show 10 ≤ 1000; decide) rfl (fun _ => rfl) (fun j x hj => ?_) fun G1 w1 f1 => ?_⟩
    · match j, hj with
      | 0, hj => cases hj; exact ⟨a1, _, z, rfl, r1, DInvalidWord.st, DInvalidWord.X.sb, rfl⟩
      | 1, hj => cases hj; exact ⟨a2, _, z, rfl, r2, DInvalidPromise.st, DInvalidPromise.X.sb, rfl⟩
      | 2, hj => cases hj; exact ⟨a3, _, z, rfl, r3, DInvalidPlace.st, DInvalidPlace.X.sb, rfl⟩
      | 3, hj => cases hj; exact ⟨a4, _, z, rfl, r4, DInvalidCall.st, DInvalidCall.X.sb, rfl⟩
      | 4, hj => cases hj; exact ⟨a5, _, z, rfl, r5, DInvalidRun.st, DInvalidRun.X.sb, rfl⟩
      | 5, hj => cases hj; exact ⟨a6, _, z, rfl, r6, DInvalidWorld.st, DInvalidWorld.X.sb, rfl⟩
      | 6, hj => cases hj; exact ⟨a7, _, z, rfl, r7, DInvalidPlan.st, DInvalidPlan.X.sb, rfl⟩
      | 7, hj => cases hj; exact ⟨a8, _, z, rfl, r8, DInvalidBook.st, DInvalidBook.X.sb, rfl⟩
      | 8, hj => cases hj; exact ⟨a9, _, z, rfl, r9, DInvalidOperation.st, DInvalidOperation.X.sb, rfl⟩
      | 9, hj => cases hj; exact ⟨a10, _, z, rfl, r10, DPromiseError.st, DPromiseError.X.sb, rfl⟩
    refine ⟨_, rfl, lenOk 1, fun M1 nM1 => ⟨M1, 10, _, rfl, rfl, upd_same, by decide, by decide, by show 1 * 10 ≤ sizeLine; decide +kernel, fun M2 nM2 => ?_⟩⟩
    refine ne_strs (zs := List.replicate 10 z) (fun y hy => by rw [List.eq_of_mem_replicate hy]; exact words_ok z hz) (((same_new nM1).trans (same_new nM2)) _ _ f1) upd_same ⟨_, rfl, iteF ?_⟩
    have s := w1.trans ((same_new (o := .lst [V.str z]) nM1).trans (same_new (o := .lst (List.replicate (10 : Int).toNat [V.str z]).flatten) nM2))
    replace r1 := r1.same s
    replace r2 := r2.same s
    replace r3 := r3.same s
    replace r4 := r4.same s
    replace r5 := r5.same s
    replace r6 := r6.same s
    replace r7 := r7.same s
    replace r8 := r8.same s
    replace r9 := r9.same s
    replace r10 := r10.same s
    replace c2 := cd_gr2 (fun _ h => h.1) D2 (gr_same D2 s) c2
    replace gg := gg.trans (gr_same D2 s)
    replace D2 := (gr_same D2 s).dice
    replace eL := s _ _ eL
    generalize upd (upd G1 M1 _) M2 _ = J5 at r1 r2 r3 r4 r5 r6 r7 r8 r9 r10 c2 gg D2 eL ⊢
    clear s w1 f1 nM1 nM2 nQ1
    refine ⟨_, rfl, L2, rfl, ⟨_, SqL.of eL⟩, fun Q2 nQ2 => lc_bits (ts := List.replicate 10 (bitsT no12)) nQ2 eL (by show 10 ≤ 1000; decide) rfl (fun _ => rfl) (fun j x hj => ?_) fun G2 w2 f2 => ?_⟩
    · match j, hj with
      | 0, hj => cases hj; exact ⟨a1, _, no12, rfl, r1.er, DInvalidWord.X, sInvalidWord, rfl⟩
      | 1, hj => cases hj; exact ⟨a2, _, no12, rfl, r2.er, DInvalidPromise.X, sInvalidPromise, rfl⟩
      | 2, hj => cases hj; exact ⟨a3, _, no12, rfl, r3.er, DInvalidPlace.X, sInvalidPlace, rfl⟩
      | 3, hj => cases hj; exact ⟨a4, _, no12, rfl, r4.er, DInvalidCall.X, sInvalidCall, rfl⟩
      | 4, hj => cases hj; exact ⟨a5, _, no12, rfl, r5.er, DInvalidRun.X, sInvalidRun, rfl⟩
      | 5, hj => cases hj; exact ⟨a6, _, no12, rfl, r6.er, DInvalidWorld.X, sInvalidWorld, rfl⟩
      | 6, hj => cases hj; exact ⟨a7, _, no12, rfl, r7.er, DInvalidPlan.X, sInvalidPlan, rfl⟩
      | 7, hj => cases hj; exact ⟨a8, _, no12, rfl, r8.er, DInvalidBook.X, sInvalidBook, rfl⟩
      | 8, hj => cases hj; exact ⟨a9, _, no12, rfl, r9.er, DInvalidOperation.X, sInvalidOperation, rfl⟩
      | 9, hj => cases hj; exact ⟨a10, _, no12, rfl, r10.er, DPromiseError.X, sPromiseError, rfl⟩
    refine ⟨_, _, rfl, rfl, by decide +kernel, by decide, by decide, lenOk 1, fun M1 nM1 => ⟨M1, 10, _, rfl, rfl, upd_same, by decide, by decide, by show 1 * 10 ≤ sizeLine; decide +kernel, fun M2 nM2 => ?_⟩⟩
    refine ne_strs (zs := List.replicate 10 (bitsT no12)) (by decide +kernel) (((same_new nM1).trans (same_new nM2)) _ _ f2) (by rw [dots12]; exact upd_same) ⟨_, rfl, iteF ?_⟩
    have s := w2.trans ((same_new (o := .lst [V.str (Txt.mul "." 12)]) nM1).trans (same_new (o := .lst (List.replicate (10 : Int).toNat [V.str (Txt.mul "." 12)]).flatten) nM2))
    replace r1 := r1.same s
    replace r2 := r2.same s
    replace r3 := r3.same s
    replace r4 := r4.same s
    replace r5 := r5.same s
    replace r6 := r6.same s
    replace r7 := r7.same s
    replace r8 := r8.same s
    replace r9 := r9.same s
    replace r10 := r10.same s
    replace c2 := cd_gr2 (fun _ h => h.1) D2 (gr_same D2 s) c2
    replace gg := gg.trans (gr_same D2 s)
    replace D2 := (gr_same D2 s).dice
    replace eL := s _ _ eL
    generalize upd (upd G2 M1 _) M2 _ = J6 at r1 r2 r3 r4 r5 r6 r7 r8 r9 r10 c2 gg D2 eL ⊢
    clear s w2 f2 nM1 nM2 nQ2
    refine ⟨_, rfl, ⟨_, _, rfl, rfl, ⟨by decide, by decide, by decide⟩, lenOk 4, fun l3 n3 => ?_⟩⟩
    have t3 := same_new (o := .lst [V.non, .int 0, .int 7, .int (10 ^ 20)]) n3
    refine ⟨d, l3, [V.non, .int 0, .int 7, .int (10 ^ 20)], rfl, (gr_same D2 t3).dice, SqL.of upd_same, D2.ne n3, by decide, by decide, fun y J7 hy D7 k7 => ?_⟩
    have g := (gr_same D2 t3).trans (gr_off D7 k7)
    replace r1 := r1.gr D2 g
    replace r2 := r2.gr D2 g
    replace r3 := r3.gr D2 g
    replace r4 := r4.gr D2 g
    replace r5 := r5.gr D2 g
    replace r6 := r6.gr D2 g
    replace r7 := r7.gr D2 g
    replace r8 := r8.gr D2 g
    replace r9 := r9.gr D2 g
    replace r10 := r10.gr D2 g
    replace c2 := cd_gr2 (fun _ h => h.1) D2 g c2
    replace gg := gg.trans g
    replace eL := g.keep _ _ dL eL
    clear k7 t3 n3 g
    replace D2 := D7
    obtain ⟨da, hda, sda⟩ : ∃ da : PyData, ((y = .non ∧ da = .none) ∨ ∃ i, y = .int i ∧ da = .int i) ∧ (∀ i, y = .int i → i.natAbs.log2 < 1920) := by
      simp only [List.mem_cons, List.not_mem_nil, or_false] at hy
      rcases hy with rfl | rfl | rfl | rfl
      · exact ⟨_, .inl ⟨rfl, rfl⟩, fun i h => by cases h⟩
      · exact ⟨_, .inr ⟨_, rfl, rfl⟩, fun i h => by cases h; decide +kernel⟩
      · exact ⟨_, .inr ⟨_, rfl, rfl⟩, fun i h => by cases h; decide +kernel⟩
      · exact ⟨_, .inr ⟨_, rfl, rfl⟩, fun i h => by cases h; decide +kernel⟩
    clear hy
    have fy : Flat0 y da := hda.imp id fun h => .inr (.inl h)
    refine ⟨_, rfl, ?_⟩
    intro ap nap
    refine kept_at (K := K) nap (fy.any 2) (fun J8 w8 kp0 => ?_)
    have kp := keptF_of hda kp0
    clear kp0 nap
    have s := w8
    replace r1 := r1.same s
    replace r2 := r2.same s
    replace r3 := r3.same s
    replace r4 := r4.same s
    replace r5 := r5.same s
    replace r6 := r6.same s
    replace r7 := r7.same s
    replace r8 := r8.same s
    replace r9 := r9.same s
    replace r10 := r10.same s
    replace c2 := cd_gr2 (fun _ h => h.1) D2 (gr_same D2 s) c2
    replace gg := gg.trans (gr_same D2 s)
    replace D2 := (gr_same D2 s).dice
    replace eL := s _ _ eL
    clear s w8
    refine ⟨_, rfl, L2, _, 9, 9, rfl, rfl, eL, rfl, ?_⟩
    replace r1 := r1.put (o := .lst ([V.ref a1, .ref a2, .ref a3, .ref a4, .ref a5, .ref a6, .ref a7, .ref a8, .ref a9, .ref a10].set 9 (.ref ap))) eL
    replace r2 := r2.put (o := .lst ([V.ref a1, .ref a2, .ref a3, .ref a4, .ref a5, .ref a6, .ref a7, .ref a8, .ref a9, .ref a10].set 9 (.ref ap))) eL
    replace r3 := r3.put (o := .lst ([V.ref a1, .ref a2, .ref a3, .ref a4, .ref a5, .ref a6, .ref a7, .ref a8, .ref a9, .ref a10].set 9 (.ref ap))) eL
    replace r4 := r4.put (o := .lst ([V.ref a1, .ref a2, .ref a3, .ref a4, .ref a5, .ref a6, .ref a7, .ref a8, .ref a9, .ref a10].set 9 (.ref ap))) eL
    replace r5 := r5.put (o := .lst ([V.ref a1, .ref a2, .ref a3, .ref a4, .ref a5, .ref a6, .ref a7, .ref a8, .ref a9, .ref a10].set 9 (.ref ap))) eL
    replace r6 := r6.put (o := .lst ([V.ref a1, .ref a2, .ref a3, .ref a4, .ref a5, .ref a6, .ref a7, .ref a8, .ref a9, .ref a10].set 9 (.ref ap))) eL
    replace r7 := r7.put (o := .lst ([V.ref a1, .ref a2, .ref a3, .ref a4, .ref a5, .ref a6, .ref a7, .ref a8, .ref a9, .ref a10].set 9 (.ref ap))) eL
    replace r8 := r8.put (o := .lst ([V.ref a1, .ref a2, .ref a3, .ref a4, .ref a5, .ref a6, .ref a7, .ref a8, .ref a9, .ref a10].set 9 (.ref ap))) eL
    replace r9 := r9.put (o := .lst ([V.ref a1, .ref a2, .ref a3, .ref a4, .ref a5, .ref a6, .ref a7, .ref a8, .ref a9, .ref a10].set 9 (.ref ap))) eL
    replace kp := kp.put (o := .lst ([V.ref a1, .ref a2, .ref a3, .ref a4, .ref a5, .ref a6, .ref a7, .ref a8, .ref a9, .ref a10].set 9 (.ref ap))) eL
    replace c2 := Cd.put (o' := .lst ([V.ref a1, .ref a2, .ref a3, .ref a4, .ref a5, .ref a6, .ref a7, .ref a8, .ref a9, .ref a10].set 9 (.ref ap))) eL (.inl ⟨_, rfl⟩) (fun h => h.2 rfl) c2
    replace gg := gg.put (o := .lst ([V.ref a1, .ref a2, .ref a3, .ref a4, .ref a5, .ref a6, .ref a7, .ref a8, .ref a9, .ref a10].set 9 (.ref ap))) fL dL
    replace D2 := gg.dice
    clear r10
    have eN : upd J8 L2 (.lst ([V.ref a1, .ref a2, .ref a3, .ref a4, .ref a5, .ref a6, .ref a7, .ref a8, .ref a9, .ref a10].set 9 (.ref ap))) L2 = some (.lst [V.ref a1, .ref a2, .ref a3, .ref a4, .ref a5, .ref a6, .ref a7, .ref a8, .ref a9, .ref ap]) := upd_same
    clear eL
    generalize upd J8 L2 (.lst ([V.ref a1, .ref a2, .ref a3, .ref a4, .ref a5, .ref a6, .ref a7, .ref a8, .ref a9, .ref a10].set 9 (.ref ap))) = J9 at r1 r2 r3 r4 r5 r6 r7 r8 r9 kp c2 gg D2 eN ⊢
    have eL := eN
    clear eN
    refine ⟨10, rfl, by decide, by decide, fun Q3 nQ3 => ?_⟩
    refine lcR (fun j acc H9 => Same J9 H9 ∧ acc = (due10L.take j).map V.str) ⟨same_new nQ3, rfl⟩ (fun j acc H9 hj hl9 e9 h9 => ?_) (fun acc H9 hl9 e9 h9 => ?_)
    · obtain ⟨s9, ea⟩ := h9
      have fin : LcK (fun j acc H9 => Same J9 H9 ∧ acc = (due10L.take j).map V.str) Q3 j (.str (bitsT (rowB j))) H9 := by
        have hj : j < 10 := hj
        have et : due10L[j]? = some (bitsT (rowB j)) := by unfold due10L; rw [List.getElem?_map, List.getElem?_range hj]; rfl
        exact LcK.mk hl9 (by omega) e9 ⟨put_same s9 nQ3, by rw [ea, take_one et, List.map_append]; rfl⟩
      have hj10 : j = 0 ∨ j = 1 ∨ j = 2 ∨ j = 3 ∨ j = 4 ∨ j = 5 ∨ j = 6 ∨ j = 7 ∨ j = 8 ∨ j = 9 := by omega
      rcases hj10 with rfl | rfl | rfl | rfl | rfl | rfl | rfl | rfl | rfl | rfl
      · exact ⟨_, rfl, _, _, rfl, rfl, by decide +kernel, by decide, by decide, _, _, rfl, rfl, by decide +kernel, _, rfl, _, _, rfl, rfl, _, _, rfl, rfl, by decide +kernel, by decide, by decide, _, _, rfl, rfl, by decide +kernel, _, _, rfl, rfl, by decide +kernel, lck_eq (by decide +kernel) fin⟩
      · exact ⟨_, rfl, _, _, rfl, rfl, by decide +kernel, by decide, by decide, _, _, rfl, rfl, by decide +kernel, _, rfl, _, _, rfl, rfl, _, _, rfl, rfl, by decide +kernel, by decide, by decide, _, _, rfl, rfl, by decide +kernel, _, _, rfl, rfl, by decide +kernel, lck_eq (by decide +kernel) fin⟩
      · exact ⟨_, rfl, _, _, rfl, rfl, by decide +kernel, by decide, by decide, _, _, rfl, rfl, by decide +kernel, _, rfl, _, _, rfl, rfl, _, _, rfl, rfl, by decide +kernel, by decide, by decide, _, _, rfl, rfl, by decide +kernel, _, _, rfl, rfl, by decide +kernel, lck_eq (by decide +kernel) fin⟩
      · exact ⟨_, rfl, _, _, rfl, rfl, by decide +kernel, by decide, by decide, _, _, rfl, rfl, by decide +kernel, _, rfl, _, _, rfl, rfl, _, _, rfl, rfl, by decide +kernel, by decide, by decide, _, _, rfl, rfl, by decide +kernel, _, _, rfl, rfl, by decide +kernel, lck_eq (by decide +kernel) fin⟩
      · exact ⟨_, rfl, _, _, rfl, rfl, by decide +kernel, by decide, by decide, _, _, rfl, rfl, by decide +kernel, _, rfl, _, _, rfl, rfl, _, _, rfl, rfl, by decide +kernel, by decide, by decide, _, _, rfl, rfl, by decide +kernel, _, _, rfl, rfl, by decide +kernel, lck_eq (by decide +kernel) fin⟩
      · exact ⟨_, rfl, _, _, rfl, rfl, by decide +kernel, by decide, by decide, _, _, rfl, rfl, by decide +kernel, _, rfl, _, _, rfl, rfl, _, _, rfl, rfl, by decide +kernel, by decide, by decide, _, _, rfl, rfl, by decide +kernel, _, _, rfl, rfl, by decide +kernel, lck_eq (by decide +kernel) fin⟩
      · exact ⟨_, rfl, _, _, rfl, rfl, by decide +kernel, by decide, by decide, _, _, rfl, rfl, by decide +kernel, _, rfl, _, _, rfl, rfl, _, _, rfl, rfl, by decide +kernel, by decide, by decide, _, _, rfl, rfl, by decide +kernel, _, _, rfl, rfl, by decide +kernel, lck_eq (by decide +kernel) fin⟩
      · exact ⟨_, rfl, _, _, rfl, rfl, by decide +kernel, by decide, by decide, _, _, rfl, rfl, by decide +kernel, _, rfl, _, _, rfl, rfl, _, _, rfl, rfl, by decide +kernel, by decide, by decide, _, _, rfl, rfl, by decide +kernel, _, _, rfl, rfl, by decide +kernel, lck_eq (by decide +kernel) fin⟩
      · exact ⟨_, rfl, _, _, rfl, rfl, by decide +kernel, by decide, by decide, _, _, rfl, rfl, by decide +kernel, _, rfl, _, _, rfl, rfl, _, _, rfl, rfl, by decide +kernel, by decide, by decide, _, _, rfl, rfl, by decide +kernel, _, _, rfl, rfl, by decide +kernel, lck_eq (by decide +kernel) fin⟩
      · exact ⟨_, rfl, _, _, rfl, rfl, by decide +kernel, by decide, by decide, _, _, rfl, rfl, by decide +kernel, _, rfl, _, _, rfl, rfl, _, _, rfl, rfl, by decide +kernel, by decide, by decide, _, _, rfl, rfl, by decide +kernel, _, _, rfl, rfl, by decide +kernel, lck_eq (by decide +kernel) fin⟩
    obtain ⟨w9, ea⟩ := h9
    have eQ : H9 Q3 = some (.lst (due10L.map V.str)) := by rw [e9, ea]; rfl
    clear ea e9 hl9
    have s := w9
    replace r1 := r1.same s
    replace r2 := r2.same s
    replace r3 := r3.same s
    replace r4 := r4.same s
    replace r5 := r5.same s
    replace r6 := r6.same s
    replace r7 := r7.same s
    replace r8 := r8.same s
    replace r9 := r9.same s
    replace kp := kp.same s
    replace c2 := cd_gr2 (fun _ h => h.1) D2 (gr_same D2 s) c2
    replace gg := gg.trans (gr_same D2 s)
    replace D2 := (gr_same D2 s).dice
    replace eL := s _ _ eL
    clear s w9 nQ3
    refine ⟨_, rfl, L2, rfl, ⟨_, SqL.of eL⟩, fun Q4 nQ4 => lc_bits (ts := due10L) nQ4 eL (by show 10 ≤ 1000; decide) rfl (fun _ => rfl) (fun j x hj => ?_) fun G4 w4 f4 => ?_⟩
    · match j, hj with
      | 0, hj => cases hj; exact ⟨a1, _, rowB 0, rfl, r1.er, DInvalidWord.X, rInvalidWord, rfl⟩
      | 1, hj => cases hj; exact ⟨a2, _, rowB 1, rfl, r2.er, DInvalidPromise.X, rInvalidPromise, rfl⟩
      | 2, hj => cases hj; exact ⟨a3, _, rowB 2, rfl, r3.er, DInvalidPlace.X, rInvalidPlace, rfl⟩
      | 3, hj => cases hj; exact ⟨a4, _, rowB 3, rfl, r4.er, DInvalidCall.X, rInvalidCall, rfl⟩
      | 4, hj => cases hj; exact ⟨a5, _, rowB 4, rfl, r5.er, DInvalidRun.X, rInvalidRun, rfl⟩
      | 5, hj => cases hj; exact ⟨a6, _, rowB 5, rfl, r6.er, DInvalidWorld.X, rInvalidWorld, rfl⟩
      | 6, hj => cases hj; exact ⟨a7, _, rowB 6, rfl, r7.er, DInvalidPlan.X, rInvalidPlan, rfl⟩
      | 7, hj => cases hj; exact ⟨a8, _, rowB 7, rfl, r8.er, DInvalidBook.X, rInvalidBook, rfl⟩
      | 8, hj => cases hj; exact ⟨a9, _, rowB 8, rfl, r9.er, DInvalidOperation.X, rInvalidOperation, rfl⟩
      | 9, hj => cases hj; exact ⟨ap, _, rowB 9, rfl, kp.er, EParseError.X, rParseError, rfl⟩
    refine ⟨_, rfl, ne_strs (zs := due10L) due_ok f4 (w4 _ _ eQ) ⟨_, rfl, iteF ?_⟩⟩
    have s := w4
    replace r1 := r1.same s
    replace r2 := r2.same s
    replace r3 := r3.same s
    replace r4 := r4.same s
    replace r5 := r5.same s
    replace r6 := r6.same s
    replace r7 := r7.same s
    replace r8 := r8.same s
    replace r9 := r9.same s
    replace kp := kp.same s
    replace c2 := cd_gr2 (fun _ h => h.1) D2 (gr_same D2 s) c2
    replace gg := gg.trans (gr_same D2 s)
    replace D2 := (gr_same D2 s).dice
    replace eL := s _ _ eL
    clear s w4 f4 nQ4 eQ acc
    refine ⟨_, rfl, fun tp aq ntp naq neq => ?_⟩
    obtain ⟨sq, rq⟩ := erT_new (C := O.aPromiseError) (z := z) ntp naq neq
    refine ⟨aq, _, rowB 10, rfl, rq.er, DPromiseError.X, rPromiseError, fun G5 w5 => ?_⟩
    refine ⟨_, _, rfl, rfl, by decide +kernel, by decide, by decide, _, _, rfl, rfl, by decide +kernel, rfl, _, rfl, iteF9 (by rw [row10]; simp) ?_⟩
    have s := sq.trans w5
    replace r1 := r1.same s
    replace r2 := r2.same s
    replace r3 := r3.same s
    replace r4 := r4.same s
    replace r5 := r5.same s
    replace r6 := r6.same s
    replace r7 := r7.same s
    replace r8 := r8.same s
    replace r9 := r9.same s
    replace kp := kp.same s
    replace c2 := cd_gr2 (fun _ h => h.1) D2 (gr_same D2 s) c2
    replace gg := gg.trans (gr_same D2 s)
    replace D2 := (gr_same D2 s).dice
    replace eL := s _ _ eL
    clear s sq w5 rq ntp naq neq
    clear r1 r2 r3 r4 r5 r6 r7 r8 r9
    refine ⟨_, rfl, ?_⟩
    intro b0 nb0
    refine kept_at (K := K) nb0 (c2.same (Same.refl _) (fun _ _ => trivial)) (fun W0 w6 q0 => ?_)
    have s := w6
    replace kp := kp.same s
    replace c2 := cd_gr2 (fun _ h => h.1) D2 (gr_same D2 s) c2
    replace gg := gg.trans (gr_same D2 s)
    replace D2 := (gr_same D2 s).dice
    replace eL := s _ _ eL
    replace q0 := q0.same (Same.refl _) (fun _ _ => trivial : ∀ a, _ → (fun _ : Addr => True) a)
    clear s w6
    refine ⟨_, rfl, ?_⟩
    intro b1 nb1
    refine kept_at (K := K) nb1 (c2.same (Same.refl _) (fun _ _ => trivial)) (fun W1 w6 q1 => ?_)
    have s := w6
    replace kp := kp.same s
    replace q0 := q0.same s (fun _ x => x)
    replace c2 := cd_gr2 (fun _ h => h.1) D2 (gr_same D2 s) c2
    replace gg := gg.trans (gr_same D2 s)
    replace D2 := (gr_same D2 s).dice
    replace eL := s _ _ eL
    replace q1 := q1.same (Same.refl _) (fun _ _ => trivial : ∀ a, _ → (fun _ : Addr => True) a)
    clear s w6
    refine ⟨_, rfl, ?_⟩
    intro b2 nb2
    refine kept_at (K := K) nb2 (c2.same (Same.refl _) (fun _ _ => trivial)) (fun W2 w6 q2 => ?_)
    have s := w6
    replace kp := kp.same s
    replace q0 := q0.same s (fun _ x => x)
    replace q1 := q1.same s (fun _ x => x)
    replace c2 := cd_gr2 (fun _ h => h.1) D2 (gr_same D2 s) c2
    replace gg := gg.trans (gr_same D2 s)
    replace D2 := (gr_same D2 s).dice
    replace eL := s _ _ eL
    replace q2 := q2.same (Same.refl _) (fun _ _ => trivial : ∀ a, _ → (fun _ : Addr => True) a)
    clear s w6
    refine ⟨_, rfl, ?_⟩
    intro b3 nb3
    refine kept_at (K := K) nb3 (c2.same (Same.refl _) (fun _ _ => trivial)) (fun W3 w6 q3 => ?_)
    have s := w6
    replace kp := kp.same s
    replace q0 := q0.same s (fun _ x => x)
    replace q1 := q1.same s (fun _ x => x)
    replace q2 := q2.same s (fun _ x => x)
    replace c2 := cd_gr2 (fun _ h => h.1) D2 (gr_same D2 s) c2
    replace gg := gg.trans (gr_same D2 s)
    replace D2 := (gr_same D2 s).dice
    replace eL := s _ _ eL
    replace q3 := q3.same (Same.refl _) (fun _ _ => trivial : ∀ a, _ → (fun _ : Addr => True) a)
    clear s w6
    refine ⟨_, rfl, ?_⟩
    intro b4 nb4
    refine kept_at (K := K) nb4 (c2.same (Same.refl _) (fun _ _ => trivial)) (fun W4 w6 q4 => ?_)
    have s := w6
    replace kp := kp.same s
    replace q0 := q0.same s (fun _ x => x)
    replace q1 := q1.same s (fun _ x => x)
    replace q2 := q2.same s (fun _ x => x)
    replace q3 := q3.same s (fun _ x => x)
    replace c2 := cd_gr2 (fun _ h => h.1) D2 (gr_same D2 s) c2
    replace gg := gg.trans (gr_same D2 s)
    replace D2 := (gr_same D2 s).dice
    replace eL := s _ _ eL
    replace q4 := q4.same (Same.refl _) (fun _ _ => trivial : ∀ a, _ → (fun _ : Addr => True) a)
    clear s w6
    refine ⟨lenOk 5, fun L3 nL3 => ?_⟩
    have fL3 := gg.free D nL3
    have dL3 := D2.ne nL3
    have x23 : L2 ≠ L3 := ne_of_none eL nL3
    replace q0 := q0.off nL3
    replace q1 := q1.off nL3
    replace q2 := q2.off nL3
    replace q3 := q3.off nL3
    replace q4 := q4.off nL3
    replace c2 := (c2.off nL3).same (N' := fun a => a ≠ d ∧ a ≠ L3) (Same.refl _) (fun _ h => ⟨h.1.1, h.2⟩)
    have s := same_new (o := .lst [V.ref b0, .ref b1, .ref b2, .ref b3, .ref b4]) nL3
    replace kp := kp.same s
    replace q0 := q0.same s (fun _ x => x)
    replace q1 := q1.same s (fun _ x => x)
    replace q2 := q2.same s (fun _ x => x)
    replace q3 := q3.same s (fun _ x => x)
    replace q4 := q4.same s (fun _ x => x)
    replace c2 := cd_gr2 (fun _ h => h.1) D2 (gr_same D2 s) c2
    replace gg := gg.trans (gr_same D2 s)
    replace D2 := (gr_same D2 s).dice
    replace eL := s _ _ eL
    have eL3 : upd W4 L3 (.lst [V.ref b0, .ref b1, .ref b2, .ref b3, .ref b4]) L3 = some (.lst [V.ref b0, .ref b1, .ref b2, .ref b3, .ref b4]) := upd_same
    generalize upd W4 L3 (.lst [V.ref b0, .ref b1, .ref b2, .ref b3, .ref b4]) = W5 at q0 q1 q2 q3 q4 kp c2 gg D2 eL eL3 ⊢
    clear s nL3
    refine ⟨_, rfl, .inl ⟨rfl, _, SqL.of eL3⟩, ?_⟩
    refine ⟨_, rfl, ?_⟩
    intro b5 nb5
    refine kept_at (K := K) nb5 (c2.same (Same.refl _) (fun _ _ => trivial)) (fun W6 w6 q5 => ?_)
    replace q5 := q5.same (N' := fun b => b ≠ L3) (Same.refl _) (fun a na z => by have na : W5 a = none := na; rw [z, eL3] at na; cases na)
    have s := w6
    replace kp := kp.same s
    replace q0 := q0.same s (fun _ x => x)
    replace q1 := q1.same s (fun _ x => x)
    replace q2 := q2.same s (fun _ x => x)
    replace q3 := q3.same s (fun _ x => x)
    replace q4 := q4.same s (fun _ x => x)
    replace eL3 := s _ _ eL3
    replace c2 := cd_gr2 (fun _ h => h.1) D2 (gr_same D2 s) c2
    replace gg := gg.trans (gr_same D2 s)
    replace D2 := (gr_same D2 s).dice
    replace eL := s _ _ eL
    clear s w6
    refine ⟨L3, _, _, rfl, rfl, eL3, small (by show 5 < 1000000; decide), ?_⟩
    replace q0 := q0.put (o := .lst ([V.ref b0, .ref b1, .ref b2, .ref b3, .ref b4] ++ [.ref b5])) eL3
    replace q1 := q1.put (o := .lst ([V.ref b0, .ref b1, .ref b2, .ref b3, .ref b4] ++ [.ref b5])) eL3
    replace q2 := q2.put (o := .lst ([V.ref b0, .ref b1, .ref b2, .ref b3, .ref b4] ++ [.ref b5])) eL3
    replace q3 := q3.put (o := .lst ([V.ref b0, .ref b1, .ref b2, .ref b3, .ref b4] ++ [.ref b5])) eL3
    replace q4 := q4.put (o := .lst ([V.ref b0, .ref b1, .ref b2, .ref b3, .ref b4] ++ [.ref b5])) eL3
    replace q5 := q5.put (o := .lst ([V.ref b0, .ref b1, .ref b2, .ref b3, .ref b4] ++ [.ref b5])) eL3
    replace kp := kp.put (o := .lst ([V.ref b0, .ref b1, .ref b2, .ref b3, .ref b4] ++ [.ref b5])) eL3
    replace c2 := Cd.put (o' := .lst ([V.ref b0, .ref b1, .ref b2, .ref b3, .ref b4] ++ [.ref b5])) eL3 (.inl ⟨_, rfl⟩) (fun h => h.2 rfl) c2
    replace gg := gg.put (o := .lst ([V.ref b0, .ref b1, .ref b2, .ref b3, .ref b4] ++ [.ref b5])) fL3 dL3
    replace D2 := gg.dice
    replace eL : upd W6 L3 (.lst ([V.ref b0, .ref b1, .ref b2, .ref b3, .ref b4] ++ [.ref b5])) L2 = _ := (upd_ne x23).trans eL
    have eN : upd W6 L3 (.lst ([V.ref b0, .ref b1, .ref b2, .ref b3, .ref b4] ++ [.ref b5])) L3 = some (.lst [V.ref b0, .ref b1, .ref b2, .ref b3, .ref b4, .ref b5]) := upd_same
    clear eL3
    generalize upd W6 L3 (.lst ([V.ref b0, .ref b1, .ref b2, .ref b3, .ref b4] ++ [.ref b5])) = W7 at q0 q1 q2 q3 q4 q5 kp c2 gg D2 eL eN ⊢
    have eL3 := eN
    clear eN
    refine ⟨lenOk 6, fun Q5 nQ5 => ?_⟩
    have s := same_new (o := .lst [V.str "x.....x.x...", .str ".x......x...", .str "..x....xx...", .str "...x.....xx.", .str "....x.....x.", .str ".....x.....x"]) nQ5
    replace kp := kp.same s
    replace eL3 := s _ _ eL3
    replace q0 := q0.same s (fun _ x => x)
    replace q1 := q1.same s (fun _ x => x)
    replace q2 := q2.same s (fun _ x => x)
    replace q3 := q3.same s (fun _ x => x)
    replace q4 := q4.same s (fun _ x => x)
    replace q5 := q5.same s (fun _ x => x)
    replace c2 := cd_gr2 (fun _ h => h.1) D2 (gr_same D2 s) c2
    replace gg := gg.trans (gr_same D2 s)
    replace D2 := (gr_same D2 s).dice
    replace eL := s _ _ eL
    have eQ : upd W7 Q5 (.lst [V.str "x.....x.x...", .str ".x......x...", .str "..x....xx...", .str "...x.....xx.", .str "....x.....x.", .str ".....x.....x"]) Q5 = some (.lst (due6L.map V.str)) := by rw [due6_is]; exact upd_same
    generalize upd W7 Q5 (.lst [V.str "x.....x.x...", .str ".x......x...", .str "..x....xx...", .str "...x.....xx.", .str "....x.....x.", .str ".....x.....x"]) = W8 at q0 q1 q2 q3 q4 q5 kp c2 gg D2 eL eL3 eQ ⊢
    clear s nQ5
    refine ⟨_, rfl, L3, rfl, ⟨_, SqL.of eL3⟩, fun Q6 nQ6 => lc_bits (ts := due6L) nQ6 eL3 (by show 6 ≤ 1000; decide) rfl (fun _ => rfl) (fun j x hj => ?_) fun W9 w9 f9 => ?_⟩
    · match j, hj with
      | 0, hj => cases hj; exact ⟨b0, _, _, rfl, q0.er, EUnknownFact.X, sUnknownFact, rfl⟩
      | 1, hj => cases hj; exact ⟨b1, _, _, rfl, q1.er, ENotKept.X, sNotKept, rfl⟩
      | 2, hj => cases hj; exact ⟨b2, _, _, rfl, q2.er, ENothingToUndo.X, sNothingToUndo, rfl⟩
      | 3, hj => cases hj; exact ⟨b3, _, _, rfl, q3.er, ETooMany.X, sTooMany, rfl⟩
      | 4, hj => cases hj; exact ⟨b4, _, _, rfl, q4.er, ERefused.X, sRefused, rfl⟩
      | 5, hj => cases hj; exact ⟨b5, _, _, rfl, q5.er, EInvalidNumber.X, sInvalidNumber, rfl⟩
    refine ⟨_, rfl, ne_strs (zs := due6L) due6_ok f9 (w9 _ _ eQ) ⟨_, rfl, iteF ?_⟩⟩
    have s := w9
    replace kp := kp.same s
    replace eL3 := s _ _ eL3
    replace q0 := q0.same s (fun _ x => x)
    replace q1 := q1.same s (fun _ x => x)
    replace q2 := q2.same s (fun _ x => x)
    replace q3 := q3.same s (fun _ x => x)
    replace q4 := q4.same s (fun _ x => x)
    replace q5 := q5.same s (fun _ x => x)
    replace c2 := cd_gr2 (fun _ h => h.1) D2 (gr_same D2 s) c2
    replace gg := gg.trans (gr_same D2 s)
    replace D2 := (gr_same D2 s).dice
    replace eL := s _ _ eL
    clear s w9 f9 nQ6 eQ
    refine ⟨_, rfl, L3, rfl, ⟨_, SqL.of eL3⟩, fun Q7 nQ7 => lc_bits (ts := List.replicate 6 (bitsT no12)) nQ7 eL3 (by show 6 ≤ 1000; decide) rfl (fun _ => rfl) (fun j x hj => ?_) fun V0 w9 f9 => ?_⟩
    · match j, hj with
      | 0, hj => cases hj; exact ⟨b0, _, _, rfl, q0.er, EUnknownFact.X, rUnknownFact, rfl⟩
      | 1, hj => cases hj; exact ⟨b1, _, _, rfl, q1.er, ENotKept.X, rNotKept, rfl⟩
      | 2, hj => cases hj; exact ⟨b2, _, _, rfl, q2.er, ENothingToUndo.X, rNothingToUndo, rfl⟩
      | 3, hj => cases hj; exact ⟨b3, _, _, rfl, q3.er, ETooMany.X, rTooMany, rfl⟩
      | 4, hj => cases hj; exact ⟨b4, _, _, rfl, q4.er, ERefused.X, rRefused, rfl⟩
      | 5, hj => cases hj; exact ⟨b5, _, _, rfl, q5.er, EInvalidNumber.X, rInvalidNumber, rfl⟩
    refine ⟨_, _, rfl, rfl, by decide +kernel, by decide, by decide, lenOk 1, fun M1 nM1 => ⟨M1, 6, _, rfl, rfl, upd_same, by decide, by decide, by show 1 * 6 ≤ sizeLine; decide +kernel, fun M2 nM2 => ?_⟩⟩
    refine ne_strs (zs := List.replicate 6 (bitsT no12)) (by decide +kernel) (((same_new nM1).trans (same_new nM2)) _ _ f9) (by rw [dots12]; exact upd_same) ⟨_, rfl, iteF ?_⟩
    have s := w9.trans ((same_new (o := .lst [V.str (Txt.mul "." 12)]) nM1).trans (same_new (o := .lst (List.replicate (6 : Int).toNat [V.str (Txt.mul "." 12)]).flatten) nM2))
    replace kp := kp.same s
    replace eL3 := s _ _ eL3
    replace q0 := q0.same s (fun _ x => x)
    replace q1 := q1.same s (fun _ x => x)
    replace q2 := q2.same s (fun _ x => x)
    replace q3 := q3.same s (fun _ x => x)
    replace q4 := q4.same s (fun _ x => x)
    replace q5 := q5.same s (fun _ x => x)
    replace c2 := cd_gr2 (fun _ h => h.1) D2 (gr_same D2 s) c2
    replace gg := gg.trans (gr_same D2 s)
    replace D2 := (gr_same D2 s).dice
    replace eL := s _ _ eL
    generalize upd (upd V0 M1 _) M2 _ = V1 at q0 q1 q2 q3 q4 q5 kp c2 gg D2 eL eL3 ⊢
    clear s w9 f9 nM1 nM2 nQ7
    refine ⟨_, rfl, L2, _, 9, _, rfl, rfl, SqL.of eL, rfl, ap, _, no12, rfl, kp.er, EParseError.X, sParseError, fun V2 w9 => ?_⟩
    refine ⟨_, _, rfl, rfl, by decide +kernel, by decide, by decide, rfl, _, rfl, iteF9 (by rw [dots12]; simp) ?_⟩
    have s := w9
    replace kp := kp.same s
    replace eL3 := s _ _ eL3
    replace q0 := q0.same s (fun _ x => x)
    replace q1 := q1.same s (fun _ x => x)
    replace q2 := q2.same s (fun _ x => x)
    replace q3 := q3.same s (fun _ x => x)
    replace q4 := q4.same s (fun _ x => x)
    replace q5 := q5.same s (fun _ x => x)
    replace c2 := cd_gr2 (fun _ h => h.1) D2 (gr_same D2 s) c2
    replace gg := gg.trans (gr_same D2 s)
    replace D2 := (gr_same D2 s).dice
    replace eL := s _ _ eL
    clear s w9
    obtain ⟨dp, kp1, kp2⟩ := kp
    obtain ⟨t, ht⟩ : ∃ t : Str, ∀ Q : VK, Q (.str t) V2 → rReprS [y] V2 Q := by
      rcases hda with ⟨e, _⟩ | ⟨i, e, _⟩
      · exact ⟨"None", fun Q h => .inl ⟨by rw [e], h⟩⟩
      · exact ⟨toString i, fun Q h => .inr ⟨i, by rw [e], sda i e, h⟩⟩
    refine ⟨_, rfl, L2, _, 9, _, rfl, rfl, SqL.of eL, rfl, ap, _, dp, _, y, rfl, kp1, kp2, EParseError.xf, EParseError.no, rfl, ?_⟩
    dsimp only [tNil]
    refine ht _ ?_
    refine ⟨_, rfl, ?_⟩
    dsimp only [tNil]
    refine ht _ ?_
    refine ⟨rfl, _, rfl, iteF9 (by simp) ?_⟩
    clear ht t kp1 kp2 sda hda fy eL x23
    obtain ⟨x0, v0, f0, h0, k0⟩ := q0
    obtain ⟨x1, v1, f1, h1, k1⟩ := q1
    obtain ⟨x2, v2, f2, h2, k2⟩ := q2
    obtain ⟨x3, v3, f3, h3, k3⟩ := q3
    obtain ⟨x4, v4, f4, h4, k4⟩ := q4
    obtain ⟨x5, v5, f5, h5, k5⟩ := q5
    refine ⟨_, rfl, L3, _, 0, _, rfl, rfl, SqL.of eL3, rfl, b0, _, x0, _, v0, rfl, f0, h0, EUnknownFact.xf, EUnknownFact.no, rfl, _, rfl, L3, _, 1, _, rfl, rfl, SqL.of eL3, rfl, b1, _, x1, _, v1, rfl, f1, h1, ENotKept.xf, ENotKept.no, rfl, _, rfl, L3, _, 2, _, rfl, rfl, SqL.of eL3, rfl, b2, _, x2, _, v2, rfl, f2, h2, ENothingToUndo.xf, ENothingToUndo.no, rfl, _, rfl, L3, _, 3, _, rfl, rfl, SqL.of eL3, rfl, b3, _, x3, _, v3, rfl, f3, h3, ETooMany.xf, ETooMany.no, rfl, _, rfl, L3, _, 4, _, rfl, rfl, SqL.of eL3, rfl, b4, _, x4, _, v4, rfl, f4, h4, ERefused.xf, ERefused.no, rfl, _, rfl, L3, _, 5, _, rfl, rfl, SqL.of eL3, rfl, b5, _, x5, _, v5, rfl, f5, h5, EInvalidNumber.xf, EInvalidNumber.no, rfl, lenOk 6, fun L4 nL4 sL4 => ?_⟩
    have s := same_new (o := .lst [v0, v1, v2, v3, v4, v5]) nL4
    have pk : Paired (Cd K (fun _ => True) _ 2) [v0, v1, v2, v3, v4, v5] (List.replicate 6 dd) := .cons (k0.same s (fun _ _ => trivial)) (.cons (k1.same s (fun _ _ => trivial)) (.cons (k2.same s (fun _ _ => trivial)) (.cons (k3.same s (fun _ _ => trivial)) (.cons (k4.same s (fun _ _ => trivial)) (.cons (k5.same s (fun _ _ => trivial)) .nil)))))
    replace c2 := cd_gr2 (fun _ h => h.1) D2 (gr_same D2 s) c2
    replace gg := gg.trans (gr_same D2 s)
    replace D2 := (gr_same D2 s).dice
    refine ⟨_, rfl, repr6 hd sL4 upd_same (by show 6 ≤ 1000; decide) pk ?_⟩
    refine ⟨_, rfl, lenOk 1, fun M1 nM1 => ⟨M1, 6, _, rfl, rfl, upd_same, by decide, by decide, by show 1 ≤ 1000; decide, fun M2 nM2 sM2 => ?_⟩⟩
    have s2 := (same_new (o := .lst [x]) nM1).trans (same_new (o := .lst (List.replicate (6 : Int).toNat [x]).flatten) nM2)
    have cx := c2.same s2 (fun _ _ => trivial : ∀ a, _ → (fun _ : Addr => True) a)
    refine repr6 hd sM2 upd_same (by show 6 ≤ 1000; decide) (show Paired _ [x, x, x, x, x, x] _ from .cons cx (.cons cx (.cons cx (.cons cx (.cons cx (.cons cx .nil)))))) ⟨rfl, ?_⟩
    rw [decide_eq_true rfl]
    exact q _ (gg.trans (gr_same D2 s2))
end
end Eh

set_option Elab.async false
set_option linter.all false
set_option maxRecDepth 100000
set_option maxHeartbeats 8000000
set_option pp.maxSteps 150
namespace Eh
open PySem PySem.Spec PyProof.Rows L2
section
variable {P : Program} {w : World} {K : PySem.W.Frag} {mg : Str → Option Value} {base : Heap}
def told00 : PyData := .list [.none, .int 3, .int 20000]
theorem same_dice {d : Addr} {H H3 H5 : Hp} (n : H d = none) (s : Same H H3) (g : Gr d H3 H5) : Same H H5 := fun b o e => g.keep b o (fun z => by rw [z, n] at e; cases e) (s b o e)
def spLaw0 (K : PySem.W.Frag) : Sp := fun vs H Q _ => ∃ (a : Addr) (ns : List Int), vs = [.ref a] ∧ SqL K H a (ns.map V.int) ∧ ns.length ≤ 63 ∧ ∀ H', Q (.bl true) H'
theorem ok_law {f fD fR aP aT : Addr} {fd fdD fdR : FuncData} (F : Fun K "law" "law" s_law f fd) (T : Txt mg) (C__law_dice : Cal P w K mg base 1 "_law_dice" fD fdD ["script", "spot"] (spDice K)) (GR : FnG P w K mg base 6 fR fdR ["dice"] (spRight0 K)) (mR : mg "_law_right" = some (.ref fR)) (kR : PySem.W.keepIn K (.ref fR) = true) (bR : Binds K fdR ["dice"] [])
    (EP : KeepC P w K mg base aP "ParseError" "line") (ET : KeepC P w K mg base aT "TooMany" "limit") : FnG P w K mg base 7 f fd ["script"] (spLaw0 K) := by
  refine funG F sc_law (fun vs H Q E h => ?_) (fun cdv A outer s H vs Q E hgd hr h => ?_)
  · obtain ⟨a, ns, rfl, _⟩ := h
    rfl
  · obtain ⟨a, ns, rfl, hS, hl, q⟩ := h
    have hu := hr.units
    have hr6 := hr.mono (j := 6) (by omega)
    have hr5 := hr.mono (j := 5) (by omega)
    have hr1 := hr.mono (j := 1) (by omega)
    refine ⟨_, (pss_cons (ps_for PassesOwn.never (by rfl) (pi_range1 (by rfl) T.range_ (pa_cons (pe_callB (call_max2 (by rfl)) (by rfl) T.max_ (by decide +kernel) (pa_cons pe_int (pa_cons (pe_callB (call_min2 (by rfl)) (by rfl) T.min_ (by decide +kernel) (pa_cons pe_int (pa_cons (pe_callB (lenQ (K := K) rfl) (by rfl) T.len_ (by decide +kernel) (pa_cons (pv 0) pa_nil)) pa_nil))) pa_nil))) pa_nil)) (pg_name (i := 1) sc_law.nd rfl (.inl rfl))
  (pss_cons (ps_set (i := 2) sc_law.nd rfl (.inl rfl) (pe_call C__law_dice.G hr1 (by rfl) C__law_dice.m C__law_dice.k C__law_dice.b .nil pass0 (pa_cons (pv 0) (pa_cons (pv 1) pa_nil))))
  (pss_one (ps_for PassesOwn.never (by rfl) (pi_range1 (by rfl) T.range_ (pa_cons pe_int pa_nil)) (pg_name (i := 3) sc_law.nd rfl (.inl rfl))
  (pss_one (ps_if (pt_not (pt_val (pe_callG GR hgd hr6 (by rfl) mR kR bR (pa_cons (pv 2) pa_nil))))
  (pss_one (ps_ret pe_bl))
  pss_nil))))))
  (pss_one (ps_ret (pe_cmpR (eqD (K := K) rfl hu) (pe_lst (pa_cons (pe_xf2 (K := K) rfl (pe_keepE EP hr5 (by rfl) pe_non)) (pa_cons (pe_xf2 (K := K) rfl (pe_keepE EP hr5 (by rfl) pe_int)) (pa_cons (pe_xf2 (K := K) rfl (pe_keepE ET hr5 (by rfl) pe_int)) pa_nil)))) (pe_lst (pa_cons pe_non (pa_cons pe_int (pa_cons pe_int pa_nil)))) (nomark _))))), ?_⟩
    refine ⟨_, rfl, .inl ⟨a, _, rfl, .inl hS, _, _, rfl, _, _, rfl, ?_⟩⟩
    obtain ⟨mm, em, hm⟩ : ∃ m : Int, (if (if ((ns.map V.int).length : Int) < 8 then ((ns.map V.int).length : Int) else 8) > 1 then (if ((ns.map V.int).length : Int) < 8 then ((ns.map V.int).length : Int) else 8) else 1) = m ∧ 0 ≤ m ∧ m ≤ 8 := by
      refine ⟨_, rfl, ?_⟩
      split <;> (try split) <;> omega
    rw [em]
    refine ⟨mm, rfl, by omega, by omega, ?_⟩
    refine for_range (lo := 0) (n := mm.toNat) (fun i σ H2 => (∃ x1 x2 x3, σ = [some (.ref a), x1, x2, x3]) ∧ Same H H2) ⟨⟨none, none, none, rfl⟩, Same.refl H⟩ ?_ ?_
    · rintro i σ H2 hi ⟨⟨x1, x2, x3, rfl⟩, s2⟩
      refine ⟨_, rfl, _, rfl, a, ns, i, by rw [Int.zero_add]; rfl, s2.seq hS, fun d H3 s3 n3 D3' => ?_⟩
      have nd : H d = none := s2.free n3
      refine ⟨4, rfl, by decide, by decide, ?_⟩
      refine for_range (lo := 0) (n := 4) (fun j σ H4 => (∃ x1 x3, σ = [some (.ref a), x1, some (.ref d), x3]) ∧ Same H H4 ∧ D3 H4 d) ⟨⟨_, _, rfl⟩, s2.trans s3, D3'⟩ ?_ ?_
      · rintro j σ H4 hj ⟨⟨x1, x3, rfl⟩, s4, D4⟩
        refine ⟨_, rfl, d, rfl, D4, fun H5 g5 => ⟨_, rfl, iteF ?_⟩⟩
        exact ⟨⟨_, _, rfl⟩, same_dice nd s4 g5, g5.dice⟩
      · rintro σ H4 ⟨⟨x1, x3, rfl⟩, s4, D4⟩
        exact ⟨⟨_, _, _, rfl⟩, s4⟩
    · rintro σ H2 ⟨⟨x1, x2, x3, rfl⟩, s2⟩
      intro b1 nb1
      refine kept_at (K := K) nb1 (Flat0.any (d := .none) (.inl ⟨rfl, rfl⟩) 2) (fun H3 s3 k1 => ?_)
      obtain ⟨y1, e1, e2⟩ := keptF_of (.inl ⟨rfl, rfl⟩) k1
      refine ⟨b1, _, y1, _, _, rfl, e1, e2, EP.xf, EP.no, rfl, ?_⟩
      intro b2 nb2
      refine kept_at (K := K) nb2 (Flat0.any (d := .int 3) (.inr (.inr (.inl ⟨_, rfl, rfl⟩))) 2) (fun H4 s4 k2 => ?_)
      obtain ⟨y2, e3, e4⟩ := keptF_of (.inr ⟨_, rfl, rfl⟩) k2
      refine ⟨b2, _, y2, _, _, rfl, e3, e4, EP.xf, EP.no, rfl, ?_⟩
      intro b3 nb3
      refine kept_at (K := K) nb3 (Flat0.any (d := .int 20000) (.inr (.inr (.inl ⟨_, rfl, rfl⟩))) 2) (fun H5 s5 k3 => ?_)
      obtain ⟨y3, e5, e6⟩ := keptF_of (.inr ⟨_, rfl, rfl⟩) k3
      refine ⟨b3, _, y3, _, _, rfl, e5, e6, ET.xf, ET.no, rfl, ?_⟩
      refine ⟨lenOk 3, fun l1 n1 => ?_⟩
      refine ⟨lenOk 3, fun l2 n2 => ?_⟩
      have dd : ∀ H' : Hp, DpAll K H' [.non, .int 3, .int 20000] [.none, .int 3, .int 20000] := fun _ => .cons .non (.cons (.int _) (.cons (.int _) .nil))
      refine ⟨told00, told00, .lst (SqL.of (same_new n2 _ _ upd_same)) (dd _), .lst (SqL.of upd_same) (dd _), by decide +kernel, by decide +kernel, ?_⟩
      rw [show PyData.eqv told00 told00 = true from by decide +kernel]
      exact q _
end
end Eh

set_option Elab.async false
set_option linter.all false
set_option maxRecDepth 100000
set_option maxHeartbeats 8000000
set_option pp.deepTerms false
set_option pp.maxSteps 30
namespace Eh
open PySem PySem.Spec PyProof.Rows L2
theorem row_of {K : PySem.W.Frag} {C : Addr} : ∀ {ks : List Value} {bs : List Bool}, ks.map (fun c => PySem.W.kitOne K (.ref C) c) = bs.map some → Row K ks C bs
  | [], [], _ => .nil
  | k :: ks, b :: bs, h => by
    rw [List.map_cons, List.map_cons] at h
    injection h with h1 h2
    exact .cons h1 (row_of h2)
  | [], _ :: _, h => by cases h
  | _ :: _, [], h => by cases h
theorem all_mk {l : PySem.W.OpenLaw} {w : World} {K : PySem.W.Frag} {h : Heap} {mg : Str → Option Value} {fa : Addr} (X : K.In h) (G : h.Ns mainGlobals mg) (hfa : mg "law" = some (.ref fa))
    (cc2 : PySem.W.specialIn K (.builtin "object.__class__") "__get__" = some (some (.builtin "getset_descriptor.__get__"))) (cc3 : PySem.W.takesIn K (.builtin "object.__class__") = some true)
    (zb_ValueError : PySem.W.nsIn K mainGlobals "ValueError" = some none)
    (zb_KeyError : PySem.W.nsIn K mainGlobals "KeyError" = some none)
    (zb_IndexError : PySem.W.nsIn K mainGlobals "IndexError" = some none)
    (zb_LookupError : PySem.W.nsIn K mainGlobals "LookupError" = some none)
    (zb_OverflowError : PySem.W.nsIn K mainGlobals "OverflowError" = some none)
    (zb_ArithmeticError : PySem.W.nsIn K mainGlobals "ArithmeticError" = some none)
    (zb_RuntimeError : PySem.W.nsIn K mainGlobals "RuntimeError" = some none)
    {E_InvalidWord : Addr} (x1_InvalidWord : PySem.W.nsIn K mainGlobals "InvalidWord" = some (some (.ref E_InvalidWord)))
    (x2_InvalidWord : PySem.W.excIn K E_InvalidWord veB "ValueError.__new__" = true)
    (x3_InvalidWord : PySem.W.keepIn K (.ref E_InvalidWord) = true) (x4_InvalidWord : PySem.W.subIn K (.ref E_InvalidWord) (.type "BaseException") = some true) (kh_InvalidWord : PySem.W.hasDictIn K E_InvalidWord = true) (kg_InvalidWord : PySem.W.findIn K (.ref E_InvalidWord) "__getattribute__" = some (some (.builtin "BaseException.__getattribute__"))) (kgg_InvalidWord : PySem.W.findIn K (.ref E_InvalidWord) "__getattr__" = some none) (st_InvalidWord : PySem.W.findIn K (.ref E_InvalidWord) "__str__" = some (some (.builtin "BaseException.__str__")))
    {E_InvalidPromise : Addr} (x1_InvalidPromise : PySem.W.nsIn K mainGlobals "InvalidPromise" = some (some (.ref E_InvalidPromise)))
    (x2_InvalidPromise : PySem.W.excIn K E_InvalidPromise veB "ValueError.__new__" = true)
    (x3_InvalidPromise : PySem.W.keepIn K (.ref E_InvalidPromise) = true) (x4_InvalidPromise : PySem.W.subIn K (.ref E_InvalidPromise) (.type "BaseException") = some true) (kh_InvalidPromise : PySem.W.hasDictIn K E_InvalidPromise = true) (kg_InvalidPromise : PySem.W.findIn K (.ref E_InvalidPromise) "__getattribute__" = some (some (.builtin "BaseException.__getattribute__"))) (kgg_InvalidPromise : PySem.W.findIn K (.ref E_InvalidPromise) "__getattr__" = some none) (st_InvalidPromise : PySem.W.findIn K (.ref E_InvalidPromise) "__str__" = some (some (.builtin "BaseException.__str__")))
    {E_InvalidPlace : Addr} (x1_InvalidPlace : PySem.W.nsIn K mainGlobals "InvalidPlace" = some (some (.ref E_InvalidPlace)))
    (x2_InvalidPlace : PySem.W.excIn K E_InvalidPlace veB "ValueError.__new__" = true)
    (x3_InvalidPlace : PySem.W.keepIn K (.ref E_InvalidPlace) = true) (x4_InvalidPlace : PySem.W.subIn K (.ref E_InvalidPlace) (.type "BaseException") = some true) (kh_InvalidPlace : PySem.W.hasDictIn K E_InvalidPlace = true) (kg_InvalidPlace : PySem.W.findIn K (.ref E_InvalidPlace) "__getattribute__" = some (some (.builtin "BaseException.__getattribute__"))) (kgg_InvalidPlace : PySem.W.findIn K (.ref E_InvalidPlace) "__getattr__" = some none) (st_InvalidPlace : PySem.W.findIn K (.ref E_InvalidPlace) "__str__" = some (some (.builtin "BaseException.__str__")))
    {E_InvalidCall : Addr} (x1_InvalidCall : PySem.W.nsIn K mainGlobals "InvalidCall" = some (some (.ref E_InvalidCall)))
    (x2_InvalidCall : PySem.W.excIn K E_InvalidCall veB "ValueError.__new__" = true)
    (x3_InvalidCall : PySem.W.keepIn K (.ref E_InvalidCall) = true) (x4_InvalidCall : PySem.W.subIn K (.ref E_InvalidCall) (.type "BaseException") = some true) (kh_InvalidCall : PySem.W.hasDictIn K E_InvalidCall = true) (kg_InvalidCall : PySem.W.findIn K (.ref E_InvalidCall) "__getattribute__" = some (some (.builtin "BaseException.__getattribute__"))) (kgg_InvalidCall : PySem.W.findIn K (.ref E_InvalidCall) "__getattr__" = some none) (st_InvalidCall : PySem.W.findIn K (.ref E_InvalidCall) "__str__" = some (some (.builtin "BaseException.__str__")))
    {E_InvalidRun : Addr} (x1_InvalidRun : PySem.W.nsIn K mainGlobals "InvalidRun" = some (some (.ref E_InvalidRun)))
    (x2_InvalidRun : PySem.W.excIn K E_InvalidRun veB "ValueError.__new__" = true)
    (x3_InvalidRun : PySem.W.keepIn K (.ref E_InvalidRun) = true) (x4_InvalidRun : PySem.W.subIn K (.ref E_InvalidRun) (.type "BaseException") = some true) (kh_InvalidRun : PySem.W.hasDictIn K E_InvalidRun = true) (kg_InvalidRun : PySem.W.findIn K (.ref E_InvalidRun) "__getattribute__" = some (some (.builtin "BaseException.__getattribute__"))) (kgg_InvalidRun : PySem.W.findIn K (.ref E_InvalidRun) "__getattr__" = some none) (st_InvalidRun : PySem.W.findIn K (.ref E_InvalidRun) "__str__" = some (some (.builtin "BaseException.__str__")))
    {E_InvalidWorld : Addr} (x1_InvalidWorld : PySem.W.nsIn K mainGlobals "InvalidWorld" = some (some (.ref E_InvalidWorld)))
    (x2_InvalidWorld : PySem.W.excIn K E_InvalidWorld veB "ValueError.__new__" = true)
    (x3_InvalidWorld : PySem.W.keepIn K (.ref E_InvalidWorld) = true) (x4_InvalidWorld : PySem.W.subIn K (.ref E_InvalidWorld) (.type "BaseException") = some true) (kh_InvalidWorld : PySem.W.hasDictIn K E_InvalidWorld = true) (kg_InvalidWorld : PySem.W.findIn K (.ref E_InvalidWorld) "__getattribute__" = some (some (.builtin "BaseException.__getattribute__"))) (kgg_InvalidWorld : PySem.W.findIn K (.ref E_InvalidWorld) "__getattr__" = some none) (st_InvalidWorld : PySem.W.findIn K (.ref E_InvalidWorld) "__str__" = some (some (.builtin "BaseException.__str__")))
    {E_InvalidPlan : Addr} (x1_InvalidPlan : PySem.W.nsIn K mainGlobals "InvalidPlan" = some (some (.ref E_InvalidPlan)))
    (x2_InvalidPlan : PySem.W.excIn K E_InvalidPlan veB "ValueError.__new__" = true)
    (x3_InvalidPlan : PySem.W.keepIn K (.ref E_InvalidPlan) = true) (x4_InvalidPlan : PySem.W.subIn K (.ref E_InvalidPlan) (.type "BaseException") = some true) (kh_InvalidPlan : PySem.W.hasDictIn K E_InvalidPlan = true) (kg_InvalidPlan : PySem.W.findIn K (.ref E_InvalidPlan) "__getattribute__" = some (some (.builtin "BaseException.__getattribute__"))) (kgg_InvalidPlan : PySem.W.findIn K (.ref E_InvalidPlan) "__getattr__" = some none) (st_InvalidPlan : PySem.W.findIn K (.ref E_InvalidPlan) "__str__" = some (some (.builtin "BaseException.__str__")))
    {E_InvalidBook : Addr} (x1_InvalidBook : PySem.W.nsIn K mainGlobals "InvalidBook" = some (some (.ref E_InvalidBook)))
    (x2_InvalidBook : PySem.W.excIn K E_InvalidBook veB "ValueError.__new__" = true)
    (x3_InvalidBook : PySem.W.keepIn K (.ref E_InvalidBook) = true) (x4_InvalidBook : PySem.W.subIn K (.ref E_InvalidBook) (.type "BaseException") = some true) (kh_InvalidBook : PySem.W.hasDictIn K E_InvalidBook = true) (kg_InvalidBook : PySem.W.findIn K (.ref E_InvalidBook) "__getattribute__" = some (some (.builtin "BaseException.__getattribute__"))) (kgg_InvalidBook : PySem.W.findIn K (.ref E_InvalidBook) "__getattr__" = some none) (st_InvalidBook : PySem.W.findIn K (.ref E_InvalidBook) "__str__" = some (some (.builtin "BaseException.__str__")))
    {E_InvalidOperation : Addr} (x1_InvalidOperation : PySem.W.nsIn K mainGlobals "InvalidOperation" = some (some (.ref E_InvalidOperation)))
    (x2_InvalidOperation : PySem.W.excIn K E_InvalidOperation veB "ValueError.__new__" = true)
    (x3_InvalidOperation : PySem.W.keepIn K (.ref E_InvalidOperation) = true) (x4_InvalidOperation : PySem.W.subIn K (.ref E_InvalidOperation) (.type "BaseException") = some true) (kh_InvalidOperation : PySem.W.hasDictIn K E_InvalidOperation = true) (kg_InvalidOperation : PySem.W.findIn K (.ref E_InvalidOperation) "__getattribute__" = some (some (.builtin "BaseException.__getattribute__"))) (kgg_InvalidOperation : PySem.W.findIn K (.ref E_InvalidOperation) "__getattr__" = some none) (st_InvalidOperation : PySem.W.findIn K (.ref E_InvalidOperation) "__str__" = some (some (.builtin "BaseException.__str__")))
    {E_PromiseError : Addr} (x1_PromiseError : PySem.W.nsIn K mainGlobals "PromiseError" = some (some (.ref E_PromiseError)))
    (x2_PromiseError : PySem.W.excIn K E_PromiseError veB "ValueError.__new__" = true)
    (x3_PromiseError : PySem.W.keepIn K (.ref E_PromiseError) = true) (x4_PromiseError : PySem.W.subIn K (.ref E_PromiseError) (.type "BaseException") = some true) (kh_PromiseError : PySem.W.hasDictIn K E_PromiseError = true) (kg_PromiseError : PySem.W.findIn K (.ref E_PromiseError) "__getattribute__" = some (some (.builtin "BaseException.__getattribute__"))) (kgg_PromiseError : PySem.W.findIn K (.ref E_PromiseError) "__getattr__" = some none) (st_PromiseError : PySem.W.findIn K (.ref E_PromiseError) "__str__" = some (some (.builtin "BaseException.__str__")))
    (c1_InvalidWord : PySem.W.findIn K (.ref E_InvalidWord) "__class__" = some (some (.builtin "object.__class__"))) (mo_InvalidWord : PySem.W.mroIn K E_InvalidWord (.type "object") = some true)
    (c1_InvalidPromise : PySem.W.findIn K (.ref E_InvalidPromise) "__class__" = some (some (.builtin "object.__class__"))) (mo_InvalidPromise : PySem.W.mroIn K E_InvalidPromise (.type "object") = some true)
    (c1_InvalidPlace : PySem.W.findIn K (.ref E_InvalidPlace) "__class__" = some (some (.builtin "object.__class__"))) (mo_InvalidPlace : PySem.W.mroIn K E_InvalidPlace (.type "object") = some true)
    (c1_InvalidCall : PySem.W.findIn K (.ref E_InvalidCall) "__class__" = some (some (.builtin "object.__class__"))) (mo_InvalidCall : PySem.W.mroIn K E_InvalidCall (.type "object") = some true)
    (c1_InvalidRun : PySem.W.findIn K (.ref E_InvalidRun) "__class__" = some (some (.builtin "object.__class__"))) (mo_InvalidRun : PySem.W.mroIn K E_InvalidRun (.type "object") = some true)
    (c1_InvalidWorld : PySem.W.findIn K (.ref E_InvalidWorld) "__class__" = some (some (.builtin "object.__class__"))) (mo_InvalidWorld : PySem.W.mroIn K E_InvalidWorld (.type "object") = some true)
    (c1_InvalidPlan : PySem.W.findIn K (.ref E_InvalidPlan) "__class__" = some (some (.builtin "object.__class__"))) (mo_InvalidPlan : PySem.W.mroIn K E_InvalidPlan (.type "object") = some true)
    (c1_InvalidBook : PySem.W.findIn K (.ref E_InvalidBook) "__class__" = some (some (.builtin "object.__class__"))) (mo_InvalidBook : PySem.W.mroIn K E_InvalidBook (.type "object") = some true)
    (c1_InvalidOperation : PySem.W.findIn K (.ref E_InvalidOperation) "__class__" = some (some (.builtin "object.__class__"))) (mo_InvalidOperation : PySem.W.mroIn K E_InvalidOperation (.type "object") = some true)
    (c1_PromiseError : PySem.W.findIn K (.ref E_PromiseError) "__class__" = some (some (.builtin "object.__class__"))) (mo_PromiseError : PySem.W.mroIn K E_PromiseError (.type "object") = some true)
    {f__law_roll : Addr} (a__law_roll : PySem.W.nsIn K mainGlobals "_law_roll" = some (some (.ref f__law_roll)))
    {od__law_roll an__law_roll : Option Addr} {sl__law_roll : Array (Option Value)} {oc__law_roll kV__law_roll dc__law_roll pm__law_roll ct__law_roll : Value} {cd__law_roll : Value} (l__law_roll : K.lookup f__law_roll = some ⟨oc__law_roll, od__law_roll, .func (PySem.W.fnOf "_law_roll" "_law_roll" (defArgs s__law_roll) (defBody s__law_roll) (defScope s__law_roll) .none kV__law_roll dc__law_roll pm__law_roll an__law_roll cd__law_roll ct__law_roll), sl__law_roll⟩) (c__law_roll : PySem.W.codeIn K cd__law_roll "_law_roll" = true) (k__law_roll : PySem.W.keepIn K (.ref f__law_roll) = true)
    {f__law_pick : Addr} (a__law_pick : PySem.W.nsIn K mainGlobals "_law_pick" = some (some (.ref f__law_pick)))
    {od__law_pick an__law_pick : Option Addr} {sl__law_pick : Array (Option Value)} {oc__law_pick kV__law_pick dc__law_pick pm__law_pick ct__law_pick : Value} {cd__law_pick : Value} (l__law_pick : K.lookup f__law_pick = some ⟨oc__law_pick, od__law_pick, .func (PySem.W.fnOf "_law_pick" "_law_pick" (defArgs s__law_pick) (defBody s__law_pick) (defScope s__law_pick) .none kV__law_pick dc__law_pick pm__law_pick an__law_pick cd__law_pick ct__law_pick), sl__law_pick⟩) (c__law_pick : PySem.W.codeIn K cd__law_pick "_law_pick" = true) (k__law_pick : PySem.W.keepIn K (.ref f__law_pick) = true)
    {f__law_dice : Addr} (a__law_dice : PySem.W.nsIn K mainGlobals "_law_dice" = some (some (.ref f__law_dice)))
    {od__law_dice an__law_dice : Option Addr} {sl__law_dice : Array (Option Value)} {oc__law_dice kV__law_dice dc__law_dice pm__law_dice ct__law_dice : Value} {cd__law_dice : Value} (l__law_dice : K.lookup f__law_dice = some ⟨oc__law_dice, od__law_dice, .func (PySem.W.fnOf "_law_dice" "_law_dice" (defArgs s__law_dice) (defBody s__law_dice) (defScope s__law_dice) .none kV__law_dice dc__law_dice pm__law_dice an__law_dice cd__law_dice ct__law_dice), sl__law_dice⟩) (c__law_dice : PySem.W.codeIn K cd__law_dice "_law_dice" = true) (k__law_dice : PySem.W.keepIn K (.ref f__law_dice) = true)
    {f__copied : Addr} (a__copied : PySem.W.nsIn K mainGlobals "_copied" = some (some (.ref f__copied)))
    {od__copied an__copied : Option Addr} {sl__copied : Array (Option Value)} {oc__copied kV__copied dc__copied pm__copied ct__copied : Value} {cd__copied : Value} (l__copied : K.lookup f__copied = some ⟨oc__copied, od__copied, .func (PySem.W.fnOf "_copied" "_copied" (defArgs s__copied) (defBody s__copied) (defScope s__copied) .none kV__copied dc__copied pm__copied an__copied cd__copied ct__copied), sl__copied⟩) (c__copied : PySem.W.codeIn K cd__copied "_copied" = true) (k__copied : PySem.W.keepIn K (.ref f__copied) = true)
    {E_ParseError : Addr} (x1_ParseError : PySem.W.nsIn K mainGlobals "ParseError" = some (some (.ref E_ParseError)))
    (kq_ParseError : PySem.W.excInitIn K E_ParseError veB "ValueError.__new__" = true) (kv_ParseError : PySem.W.excOver K E_ParseError veB = true)
    (kh_ParseError : PySem.W.hasDictIn K E_ParseError = true) (ks_ParseError : PySem.W.findIn K (.ref E_ParseError) "__setattr__" = some (some (.builtin "object.__setattr__"))) (x4_ParseError : PySem.W.subIn K (.ref E_ParseError) (.type "BaseException") = some true) (kb_ParseError : PySem.W.subIn K (.ref E_ParseError) (.type "ValueError") = some true) (x5_ParseError : PySem.W.typeIn K (.ref E_ParseError) = some (.type "type")) (x3_ParseError : PySem.W.keepIn K (.ref E_ParseError) = true) (kt_ParseError : PySem.W.nsIn K cStatics "thirdparty.any" = some none) (x6_ParseError : PySem.W.isClsIn K E_ParseError = true) (x7_ParseError : PySem.W.subIn K (.ref E_ParseError) (.ref E_ParseError) = some true) (km_ParseError : PySem.W.mroIn K E_ParseError (.ref E_ParseError) = some true)
    (ku_ParseError : PySem.W.ks_superIn K E_ParseError E_ParseError "__init__" = some (some (.builtin "ValueError.__init__")))
    (kn_ParseError : PySem.W.findIn K (.ref E_ParseError) "line" = some none) (kg_ParseError : PySem.W.findIn K (.ref E_ParseError) "__getattribute__" = some (some (.builtin "BaseException.__getattribute__"))) (kgg_ParseError : PySem.W.findIn K (.ref E_ParseError) "__getattr__" = some none)
    {g_ParseError___init__ : Addr} (a_ParseError___init__ : PySem.W.findIn K (.ref E_ParseError) "__init__" = some (some (.ref g_ParseError___init__))) (y_ParseError___init__ : PySem.W.typeIn K (.ref g_ParseError___init__) = some (.type "function"))
    {od_ParseError___init__ an_ParseError___init__ : Option Addr} {sl_ParseError___init__ : Array (Option Value)} {oc_ParseError___init__ kV_ParseError___init__ dc_ParseError___init__ pm_ParseError___init__ ct_ParseError___init__ : Value} {cc_ParseError___init__ ce_ParseError___init__ : Addr} (l_ParseError___init__ : K.lookup g_ParseError___init__ = some ⟨oc_ParseError___init__, od_ParseError___init__, .func (PySem.W.fnX "__init__" "ParseError.__init__" (defArgs s_ParseError___init__) (defBody s_ParseError___init__) (defScope s_ParseError___init__) [("__class__", ce_ParseError___init__)] .none kV_ParseError___init__ dc_ParseError___init__ pm_ParseError___init__ an_ParseError___init__ (.ref cc_ParseError___init__) ct_ParseError___init__), sl_ParseError___init__⟩) (c_ParseError___init__ : PySem.W.codeIn K (.ref cc_ParseError___init__) "ParseError.__init__" = true)
    {xc_ParseError___init__ : Value} {xd_ParseError___init__ : Option Addr} {xv_ParseError___init__ : Array Value} {xs_ParseError___init__ : Array (Option Value)} (lc_ParseError___init__ : K.lookup cc_ParseError___init__ = some ⟨xc_ParseError___init__, xd_ParseError___init__, .fields xv_ParseError___init__, xs_ParseError___init__⟩)
    {fl_ParseError___init__ : Str} {ft_ParseError___init__ : Tok} (lv_ParseError___init__ : xv_ParseError___init__[2]? = some (.str fl_ParseError___init__ ft_ParseError___init__))
    (lf_ParseError___init__ : ((l.prog.main.file : Str) == fl_ParseError___init__) = true)
    {zc_ParseError___init__ : Value} {zd_ParseError___init__ : Option Addr} {zs_ParseError___init__ : Array (Option Value)} (le_ParseError___init__ : K.lookup ce_ParseError___init__ = some ⟨zc_ParseError___init__, zd_ParseError___init__, .cell (some (.ref E_ParseError)), zs_ParseError___init__⟩)
    (ln_ParseError___init__ : (l.prog.main.scope.names.lookup ("super" : Str)).isSome = false)
    (c1_ParseError : PySem.W.findIn K (.ref E_ParseError) "__class__" = some (some (.builtin "object.__class__"))) (mo_ParseError : PySem.W.mroIn K E_ParseError (.type "object") = some true)
    {E_UnknownFact : Addr} (x1_UnknownFact : PySem.W.nsIn K mainGlobals "UnknownFact" = some (some (.ref E_UnknownFact)))
    (kq_UnknownFact : PySem.W.excInitIn K E_UnknownFact keB "LookupError.__new__" = true) (kv_UnknownFact : PySem.W.excOver K E_UnknownFact keB = true)
    (kh_UnknownFact : PySem.W.hasDictIn K E_UnknownFact = true) (ks_UnknownFact : PySem.W.findIn K (.ref E_UnknownFact) "__setattr__" = some (some (.builtin "object.__setattr__"))) (x4_UnknownFact : PySem.W.subIn K (.ref E_UnknownFact) (.type "BaseException") = some true) (kb_UnknownFact : PySem.W.subIn K (.ref E_UnknownFact) (.type "KeyError") = some true) (x5_UnknownFact : PySem.W.typeIn K (.ref E_UnknownFact) = some (.type "type")) (x3_UnknownFact : PySem.W.keepIn K (.ref E_UnknownFact) = true) (kt_UnknownFact : PySem.W.nsIn K cStatics "thirdparty.any" = some none) (x6_UnknownFact : PySem.W.isClsIn K E_UnknownFact = true) (x7_UnknownFact : PySem.W.subIn K (.ref E_UnknownFact) (.ref E_UnknownFact) = some true) (km_UnknownFact : PySem.W.mroIn K E_UnknownFact (.ref E_UnknownFact) = some true)
    (ku_UnknownFact : PySem.W.ks_superIn K E_UnknownFact E_UnknownFact "__init__" = some (some (.builtin "KeyError.__init__")))
    (kn_UnknownFact : PySem.W.findIn K (.ref E_UnknownFact) "asked" = some none) (kg_UnknownFact : PySem.W.findIn K (.ref E_UnknownFact) "__getattribute__" = some (some (.builtin "BaseException.__getattribute__"))) (kgg_UnknownFact : PySem.W.findIn K (.ref E_UnknownFact) "__getattr__" = some none)
    {g_UnknownFact___init__ : Addr} (a_UnknownFact___init__ : PySem.W.findIn K (.ref E_UnknownFact) "__init__" = some (some (.ref g_UnknownFact___init__))) (y_UnknownFact___init__ : PySem.W.typeIn K (.ref g_UnknownFact___init__) = some (.type "function"))
    {od_UnknownFact___init__ an_UnknownFact___init__ : Option Addr} {sl_UnknownFact___init__ : Array (Option Value)} {oc_UnknownFact___init__ kV_UnknownFact___init__ dc_UnknownFact___init__ pm_UnknownFact___init__ ct_UnknownFact___init__ : Value} {cc_UnknownFact___init__ ce_UnknownFact___init__ : Addr} (l_UnknownFact___init__ : K.lookup g_UnknownFact___init__ = some ⟨oc_UnknownFact___init__, od_UnknownFact___init__, .func (PySem.W.fnX "__init__" "UnknownFact.__init__" (defArgs s_UnknownFact___init__) (defBody s_UnknownFact___init__) (defScope s_UnknownFact___init__) [("__class__", ce_UnknownFact___init__)] .none kV_UnknownFact___init__ dc_UnknownFact___init__ pm_UnknownFact___init__ an_UnknownFact___init__ (.ref cc_UnknownFact___init__) ct_UnknownFact___init__), sl_UnknownFact___init__⟩) (c_UnknownFact___init__ : PySem.W.codeIn K (.ref cc_UnknownFact___init__) "UnknownFact.__init__" = true)
    {xc_UnknownFact___init__ : Value} {xd_UnknownFact___init__ : Option Addr} {xv_UnknownFact___init__ : Array Value} {xs_UnknownFact___init__ : Array (Option Value)} (lc_UnknownFact___init__ : K.lookup cc_UnknownFact___init__ = some ⟨xc_UnknownFact___init__, xd_UnknownFact___init__, .fields xv_UnknownFact___init__, xs_UnknownFact___init__⟩)
    {fl_UnknownFact___init__ : Str} {ft_UnknownFact___init__ : Tok} (lv_UnknownFact___init__ : xv_UnknownFact___init__[2]? = some (.str fl_UnknownFact___init__ ft_UnknownFact___init__))
    (lf_UnknownFact___init__ : ((l.prog.main.file : Str) == fl_UnknownFact___init__) = true)
    {zc_UnknownFact___init__ : Value} {zd_UnknownFact___init__ : Option Addr} {zs_UnknownFact___init__ : Array (Option Value)} (le_UnknownFact___init__ : K.lookup ce_UnknownFact___init__ = some ⟨zc_UnknownFact___init__, zd_UnknownFact___init__, .cell (some (.ref E_UnknownFact)), zs_UnknownFact___init__⟩)
    (ln_UnknownFact___init__ : (l.prog.main.scope.names.lookup ("super" : Str)).isSome = false)
    (c1_UnknownFact : PySem.W.findIn K (.ref E_UnknownFact) "__class__" = some (some (.builtin "object.__class__"))) (mo_UnknownFact : PySem.W.mroIn K E_UnknownFact (.type "object") = some true)
    {E_NotKept : Addr} (x1_NotKept : PySem.W.nsIn K mainGlobals "NotKept" = some (some (.ref E_NotKept)))
    (kq_NotKept : PySem.W.excInitIn K E_NotKept leB "LookupError.__new__" = true) (kv_NotKept : PySem.W.excOver K E_NotKept leB = true)
    (kh_NotKept : PySem.W.hasDictIn K E_NotKept = true) (ks_NotKept : PySem.W.findIn K (.ref E_NotKept) "__setattr__" = some (some (.builtin "object.__setattr__"))) (x4_NotKept : PySem.W.subIn K (.ref E_NotKept) (.type "BaseException") = some true) (kb_NotKept : PySem.W.subIn K (.ref E_NotKept) (.type "LookupError") = some true) (x5_NotKept : PySem.W.typeIn K (.ref E_NotKept) = some (.type "type")) (x3_NotKept : PySem.W.keepIn K (.ref E_NotKept) = true) (kt_NotKept : PySem.W.nsIn K cStatics "thirdparty.any" = some none) (x6_NotKept : PySem.W.isClsIn K E_NotKept = true) (x7_NotKept : PySem.W.subIn K (.ref E_NotKept) (.ref E_NotKept) = some true) (km_NotKept : PySem.W.mroIn K E_NotKept (.ref E_NotKept) = some true)
    (ku_NotKept : PySem.W.ks_superIn K E_NotKept E_NotKept "__init__" = some (some (.builtin "LookupError.__init__")))
    (kn_NotKept : PySem.W.findIn K (.ref E_NotKept) "wanted" = some none) (kg_NotKept : PySem.W.findIn K (.ref E_NotKept) "__getattribute__" = some (some (.builtin "BaseException.__getattribute__"))) (kgg_NotKept : PySem.W.findIn K (.ref E_NotKept) "__getattr__" = some none)
    {g_NotKept___init__ : Addr} (a_NotKept___init__ : PySem.W.findIn K (.ref E_NotKept) "__init__" = some (some (.ref g_NotKept___init__))) (y_NotKept___init__ : PySem.W.typeIn K (.ref g_NotKept___init__) = some (.type "function"))
    {od_NotKept___init__ an_NotKept___init__ : Option Addr} {sl_NotKept___init__ : Array (Option Value)} {oc_NotKept___init__ kV_NotKept___init__ dc_NotKept___init__ pm_NotKept___init__ ct_NotKept___init__ : Value} {cc_NotKept___init__ ce_NotKept___init__ : Addr} (l_NotKept___init__ : K.lookup g_NotKept___init__ = some ⟨oc_NotKept___init__, od_NotKept___init__, .func (PySem.W.fnX "__init__" "NotKept.__init__" (defArgs s_NotKept___init__) (defBody s_NotKept___init__) (defScope s_NotKept___init__) [("__class__", ce_NotKept___init__)] .none kV_NotKept___init__ dc_NotKept___init__ pm_NotKept___init__ an_NotKept___init__ (.ref cc_NotKept___init__) ct_NotKept___init__), sl_NotKept___init__⟩) (c_NotKept___init__ : PySem.W.codeIn K (.ref cc_NotKept___init__) "NotKept.__init__" = true)
    {xc_NotKept___init__ : Value} {xd_NotKept___init__ : Option Addr} {xv_NotKept___init__ : Array Value} {xs_NotKept___init__ : Array (Option Value)} (lc_NotKept___init__ : K.lookup cc_NotKept___init__ = some ⟨xc_NotKept___init__, xd_NotKept___init__, .fields xv_NotKept___init__, xs_NotKept___init__⟩)
    {fl_NotKept___init__ : Str} {ft_NotKept___init__ : Tok} (lv_NotKept___init__ : xv_NotKept___init__[2]? = some (.str fl_NotKept___init__ ft_NotKept___init__))
    (lf_NotKept___init__ : ((l.prog.main.file : Str) == fl_NotKept___init__) = true)
    {zc_NotKept___init__ : Value} {zd_NotKept___init__ : Option Addr} {zs_NotKept___init__ : Array (Option Value)} (le_NotKept___init__ : K.lookup ce_NotKept___init__ = some ⟨zc_NotKept___init__, zd_NotKept___init__, .cell (some (.ref E_NotKept)), zs_NotKept___init__⟩)
    (ln_NotKept___init__ : (l.prog.main.scope.names.lookup ("super" : Str)).isSome = false)
    (c1_NotKept : PySem.W.findIn K (.ref E_NotKept) "__class__" = some (some (.builtin "object.__class__"))) (mo_NotKept : PySem.W.mroIn K E_NotKept (.type "object") = some true)
    {E_NothingToUndo : Addr} (x1_NothingToUndo : PySem.W.nsIn K mainGlobals "NothingToUndo" = some (some (.ref E_NothingToUndo)))
    (kq_NothingToUndo : PySem.W.excInitIn K E_NothingToUndo ieB "IndexError.__new__" = true) (kv_NothingToUndo : PySem.W.excOver K E_NothingToUndo ieB = true)
    (kh_NothingToUndo : PySem.W.hasDictIn K E_NothingToUndo = true) (ks_NothingToUndo : PySem.W.findIn K (.ref E_NothingToUndo) "__setattr__" = some (some (.builtin "object.__setattr__"))) (x4_NothingToUndo : PySem.W.subIn K (.ref E_NothingToUndo) (.type "BaseException") = some true) (kb_NothingToUndo : PySem.W.subIn K (.ref E_NothingToUndo) (.type "IndexError") = some true) (x5_NothingToUndo : PySem.W.typeIn K (.ref E_NothingToUndo) = some (.type "type")) (x3_NothingToUndo : PySem.W.keepIn K (.ref E_NothingToUndo) = true) (kt_NothingToUndo : PySem.W.nsIn K cStatics "thirdparty.any" = some none) (x6_NothingToUndo : PySem.W.isClsIn K E_NothingToUndo = true) (x7_NothingToUndo : PySem.W.subIn K (.ref E_NothingToUndo) (.ref E_NothingToUndo) = some true) (km_NothingToUndo : PySem.W.mroIn K E_NothingToUndo (.ref E_NothingToUndo) = some true)
    (ku_NothingToUndo : PySem.W.ks_superIn K E_NothingToUndo E_NothingToUndo "__init__" = some (some (.builtin "IndexError.__init__")))
    (kn_NothingToUndo : PySem.W.findIn K (.ref E_NothingToUndo) "amount" = some none) (kg_NothingToUndo : PySem.W.findIn K (.ref E_NothingToUndo) "__getattribute__" = some (some (.builtin "BaseException.__getattribute__"))) (kgg_NothingToUndo : PySem.W.findIn K (.ref E_NothingToUndo) "__getattr__" = some none)
    {g_NothingToUndo___init__ : Addr} (a_NothingToUndo___init__ : PySem.W.findIn K (.ref E_NothingToUndo) "__init__" = some (some (.ref g_NothingToUndo___init__))) (y_NothingToUndo___init__ : PySem.W.typeIn K (.ref g_NothingToUndo___init__) = some (.type "function"))
    {od_NothingToUndo___init__ an_NothingToUndo___init__ : Option Addr} {sl_NothingToUndo___init__ : Array (Option Value)} {oc_NothingToUndo___init__ kV_NothingToUndo___init__ dc_NothingToUndo___init__ pm_NothingToUndo___init__ ct_NothingToUndo___init__ : Value} {cc_NothingToUndo___init__ ce_NothingToUndo___init__ : Addr} (l_NothingToUndo___init__ : K.lookup g_NothingToUndo___init__ = some ⟨oc_NothingToUndo___init__, od_NothingToUndo___init__, .func (PySem.W.fnX "__init__" "NothingToUndo.__init__" (defArgs s_NothingToUndo___init__) (defBody s_NothingToUndo___init__) (defScope s_NothingToUndo___init__) [("__class__", ce_NothingToUndo___init__)] .none kV_NothingToUndo___init__ dc_NothingToUndo___init__ pm_NothingToUndo___init__ an_NothingToUndo___init__ (.ref cc_NothingToUndo___init__) ct_NothingToUndo___init__), sl_NothingToUndo___init__⟩) (c_NothingToUndo___init__ : PySem.W.codeIn K (.ref cc_NothingToUndo___init__) "NothingToUndo.__init__" = true)
    {xc_NothingToUndo___init__ : Value} {xd_NothingToUndo___init__ : Option Addr} {xv_NothingToUndo___init__ : Array Value} {xs_NothingToUndo___init__ : Array (Option Value)} (lc_NothingToUndo___init__ : K.lookup cc_NothingToUndo___init__ = some ⟨xc_NothingToUndo___init__, xd_NothingToUndo___init__, .fields xv_NothingToUndo___init__, xs_NothingToUndo___init__⟩)
    {fl_NothingToUndo___init__ : Str} {ft_NothingToUndo___init__ : Tok} (lv_NothingToUndo___init__ : xv_NothingToUndo___init__[2]? = some (.str fl_NothingToUndo___init__ ft_NothingToUndo___init__))
    (lf_NothingToUndo___init__ : ((l.prog.main.file : Str) == fl_NothingToUndo___init__) = true)
    {zc_NothingToUndo___init__ : Value} {zd_NothingToUndo___init__ : Option Addr} {zs_NothingToUndo___init__ : Array (Option Value)} (le_NothingToUndo___init__ : K.lookup ce_NothingToUndo___init__ = some ⟨zc_NothingToUndo___init__, zd_NothingToUndo___init__, .cell (some (.ref E_NothingToUndo)), zs_NothingToUndo___init__⟩)
    (ln_NothingToUndo___init__ : (l.prog.main.scope.names.lookup ("super" : Str)).isSome = false)
    (c1_NothingToUndo : PySem.W.findIn K (.ref E_NothingToUndo) "__class__" = some (some (.builtin "object.__class__"))) (mo_NothingToUndo : PySem.W.mroIn K E_NothingToUndo (.type "object") = some true)
    {E_TooMany : Addr} (x1_TooMany : PySem.W.nsIn K mainGlobals "TooMany" = some (some (.ref E_TooMany)))
    (kq_TooMany : PySem.W.excInitIn K E_TooMany oeB "OverflowError.__new__" = true) (kv_TooMany : PySem.W.excOver K E_TooMany oeB = true)
    (kh_TooMany : PySem.W.hasDictIn K E_TooMany = true) (ks_TooMany : PySem.W.findIn K (.ref E_TooMany) "__setattr__" = some (some (.builtin "object.__setattr__"))) (x4_TooMany : PySem.W.subIn K (.ref E_TooMany) (.type "BaseException") = some true) (kb_TooMany : PySem.W.subIn K (.ref E_TooMany) (.type "OverflowError") = some true) (x5_TooMany : PySem.W.typeIn K (.ref E_TooMany) = some (.type "type")) (x3_TooMany : PySem.W.keepIn K (.ref E_TooMany) = true) (kt_TooMany : PySem.W.nsIn K cStatics "thirdparty.any" = some none) (x6_TooMany : PySem.W.isClsIn K E_TooMany = true) (x7_TooMany : PySem.W.subIn K (.ref E_TooMany) (.ref E_TooMany) = some true) (km_TooMany : PySem.W.mroIn K E_TooMany (.ref E_TooMany) = some true)
    (ku_TooMany : PySem.W.ks_superIn K E_TooMany E_TooMany "__init__" = some (some (.builtin "OverflowError.__init__")))
    (kn_TooMany : PySem.W.findIn K (.ref E_TooMany) "limit" = some none) (kg_TooMany : PySem.W.findIn K (.ref E_TooMany) "__getattribute__" = some (some (.builtin "BaseException.__getattribute__"))) (kgg_TooMany : PySem.W.findIn K (.ref E_TooMany) "__getattr__" = some none)
    {g_TooMany___init__ : Addr} (a_TooMany___init__ : PySem.W.findIn K (.ref E_TooMany) "__init__" = some (some (.ref g_TooMany___init__))) (y_TooMany___init__ : PySem.W.typeIn K (.ref g_TooMany___init__) = some (.type "function"))
    {od_TooMany___init__ an_TooMany___init__ : Option Addr} {sl_TooMany___init__ : Array (Option Value)} {oc_TooMany___init__ kV_TooMany___init__ dc_TooMany___init__ pm_TooMany___init__ ct_TooMany___init__ : Value} {cc_TooMany___init__ ce_TooMany___init__ : Addr} (l_TooMany___init__ : K.lookup g_TooMany___init__ = some ⟨oc_TooMany___init__, od_TooMany___init__, .func (PySem.W.fnX "__init__" "TooMany.__init__" (defArgs s_TooMany___init__) (defBody s_TooMany___init__) (defScope s_TooMany___init__) [("__class__", ce_TooMany___init__)] .none kV_TooMany___init__ dc_TooMany___init__ pm_TooMany___init__ an_TooMany___init__ (.ref cc_TooMany___init__) ct_TooMany___init__), sl_TooMany___init__⟩) (c_TooMany___init__ : PySem.W.codeIn K (.ref cc_TooMany___init__) "TooMany.__init__" = true)
    {xc_TooMany___init__ : Value} {xd_TooMany___init__ : Option Addr} {xv_TooMany___init__ : Array Value} {xs_TooMany___init__ : Array (Option Value)} (lc_TooMany___init__ : K.lookup cc_TooMany___init__ = some ⟨xc_TooMany___init__, xd_TooMany___init__, .fields xv_TooMany___init__, xs_TooMany___init__⟩)
    {fl_TooMany___init__ : Str} {ft_TooMany___init__ : Tok} (lv_TooMany___init__ : xv_TooMany___init__[2]? = some (.str fl_TooMany___init__ ft_TooMany___init__))
    (lf_TooMany___init__ : ((l.prog.main.file : Str) == fl_TooMany___init__) = true)
    {zc_TooMany___init__ : Value} {zd_TooMany___init__ : Option Addr} {zs_TooMany___init__ : Array (Option Value)} (le_TooMany___init__ : K.lookup ce_TooMany___init__ = some ⟨zc_TooMany___init__, zd_TooMany___init__, .cell (some (.ref E_TooMany)), zs_TooMany___init__⟩)
    (ln_TooMany___init__ : (l.prog.main.scope.names.lookup ("super" : Str)).isSome = false)
    (c1_TooMany : PySem.W.findIn K (.ref E_TooMany) "__class__" = some (some (.builtin "object.__class__"))) (mo_TooMany : PySem.W.mroIn K E_TooMany (.type "object") = some true)
    {E_Refused : Addr} (x1_Refused : PySem.W.nsIn K mainGlobals "Refused" = some (some (.ref E_Refused)))
    (kq_Refused : PySem.W.excInitIn K E_Refused aeB "ArithmeticError.__new__" = true) (kv_Refused : PySem.W.excOver K E_Refused aeB = true)
    (kh_Refused : PySem.W.hasDictIn K E_Refused = true) (ks_Refused : PySem.W.findIn K (.ref E_Refused) "__setattr__" = some (some (.builtin "object.__setattr__"))) (x4_Refused : PySem.W.subIn K (.ref E_Refused) (.type "BaseException") = some true) (kb_Refused : PySem.W.subIn K (.ref E_Refused) (.type "ArithmeticError") = some true) (x5_Refused : PySem.W.typeIn K (.ref E_Refused) = some (.type "type")) (x3_Refused : PySem.W.keepIn K (.ref E_Refused) = true) (kt_Refused : PySem.W.nsIn K cStatics "thirdparty.any" = some none) (x6_Refused : PySem.W.isClsIn K E_Refused = true) (x7_Refused : PySem.W.subIn K (.ref E_Refused) (.ref E_Refused) = some true) (km_Refused : PySem.W.mroIn K E_Refused (.ref E_Refused) = some true)
    (ku_Refused : PySem.W.ks_superIn K E_Refused E_Refused "__init__" = some (some (.builtin "ArithmeticError.__init__")))
    (kn_Refused : PySem.W.findIn K (.ref E_Refused) "cause" = some none) (kg_Refused : PySem.W.findIn K (.ref E_Refused) "__getattribute__" = some (some (.builtin "BaseException.__getattribute__"))) (kgg_Refused : PySem.W.findIn K (.ref E_Refused) "__getattr__" = some none)
    {g_Refused___init__ : Addr} (a_Refused___init__ : PySem.W.findIn K (.ref E_Refused) "__init__" = some (some (.ref g_Refused___init__))) (y_Refused___init__ : PySem.W.typeIn K (.ref g_Refused___init__) = some (.type "function"))
    {od_Refused___init__ an_Refused___init__ : Option Addr} {sl_Refused___init__ : Array (Option Value)} {oc_Refused___init__ kV_Refused___init__ dc_Refused___init__ pm_Refused___init__ ct_Refused___init__ : Value} {cc_Refused___init__ ce_Refused___init__ : Addr} (l_Refused___init__ : K.lookup g_Refused___init__ = some ⟨oc_Refused___init__, od_Refused___init__, .func (PySem.W.fnX "__init__" "Refused.__init__" (defArgs s_Refused___init__) (defBody s_Refused___init__) (defScope s_Refused___init__) [("__class__", ce_Refused___init__)] .none kV_Refused___init__ dc_Refused___init__ pm_Refused___init__ an_Refused___init__ (.ref cc_Refused___init__) ct_Refused___init__), sl_Refused___init__⟩) (c_Refused___init__ : PySem.W.codeIn K (.ref cc_Refused___init__) "Refused.__init__" = true)
    {xc_Refused___init__ : Value} {xd_Refused___init__ : Option Addr} {xv_Refused___init__ : Array Value} {xs_Refused___init__ : Array (Option Value)} (lc_Refused___init__ : K.lookup cc_Refused___init__ = some ⟨xc_Refused___init__, xd_Refused___init__, .fields xv_Refused___init__, xs_Refused___init__⟩)
    {fl_Refused___init__ : Str} {ft_Refused___init__ : Tok} (lv_Refused___init__ : xv_Refused___init__[2]? = some (.str fl_Refused___init__ ft_Refused___init__))
    (lf_Refused___init__ : ((l.prog.main.file : Str) == fl_Refused___init__) = true)
    {zc_Refused___init__ : Value} {zd_Refused___init__ : Option Addr} {zs_Refused___init__ : Array (Option Value)} (le_Refused___init__ : K.lookup ce_Refused___init__ = some ⟨zc_Refused___init__, zd_Refused___init__, .cell (some (.ref E_Refused)), zs_Refused___init__⟩)
    (ln_Refused___init__ : (l.prog.main.scope.names.lookup ("super" : Str)).isSome = false)
    (c1_Refused : PySem.W.findIn K (.ref E_Refused) "__class__" = some (some (.builtin "object.__class__"))) (mo_Refused : PySem.W.mroIn K E_Refused (.type "object") = some true)
    {E_InvalidNumber : Addr} (x1_InvalidNumber : PySem.W.nsIn K mainGlobals "InvalidNumber" = some (some (.ref E_InvalidNumber)))
    (kq_InvalidNumber : PySem.W.excInitIn K E_InvalidNumber reB "RuntimeError.__new__" = true) (kv_InvalidNumber : PySem.W.excOver K E_InvalidNumber reB = true)
    (kh_InvalidNumber : PySem.W.hasDictIn K E_InvalidNumber = true) (ks_InvalidNumber : PySem.W.findIn K (.ref E_InvalidNumber) "__setattr__" = some (some (.builtin "object.__setattr__"))) (x4_InvalidNumber : PySem.W.subIn K (.ref E_InvalidNumber) (.type "BaseException") = some true) (kb_InvalidNumber : PySem.W.subIn K (.ref E_InvalidNumber) (.type "RuntimeError") = some true) (x5_InvalidNumber : PySem.W.typeIn K (.ref E_InvalidNumber) = some (.type "type")) (x3_InvalidNumber : PySem.W.keepIn K (.ref E_InvalidNumber) = true) (kt_InvalidNumber : PySem.W.nsIn K cStatics "thirdparty.any" = some none) (x6_InvalidNumber : PySem.W.isClsIn K E_InvalidNumber = true) (x7_InvalidNumber : PySem.W.subIn K (.ref E_InvalidNumber) (.ref E_InvalidNumber) = some true) (km_InvalidNumber : PySem.W.mroIn K E_InvalidNumber (.ref E_InvalidNumber) = some true)
    (ku_InvalidNumber : PySem.W.ks_superIn K E_InvalidNumber E_InvalidNumber "__init__" = some (some (.builtin "RuntimeError.__init__")))
    (kn_InvalidNumber : PySem.W.findIn K (.ref E_InvalidNumber) "number" = some none) (kg_InvalidNumber : PySem.W.findIn K (.ref E_InvalidNumber) "__getattribute__" = some (some (.builtin "BaseException.__getattribute__"))) (kgg_InvalidNumber : PySem.W.findIn K (.ref E_InvalidNumber) "__getattr__" = some none)
    {g_InvalidNumber___init__ : Addr} (a_InvalidNumber___init__ : PySem.W.findIn K (.ref E_InvalidNumber) "__init__" = some (some (.ref g_InvalidNumber___init__))) (y_InvalidNumber___init__ : PySem.W.typeIn K (.ref g_InvalidNumber___init__) = some (.type "function"))
    {od_InvalidNumber___init__ an_InvalidNumber___init__ : Option Addr} {sl_InvalidNumber___init__ : Array (Option Value)} {oc_InvalidNumber___init__ kV_InvalidNumber___init__ dc_InvalidNumber___init__ pm_InvalidNumber___init__ ct_InvalidNumber___init__ : Value} {cc_InvalidNumber___init__ ce_InvalidNumber___init__ : Addr} (l_InvalidNumber___init__ : K.lookup g_InvalidNumber___init__ = some ⟨oc_InvalidNumber___init__, od_InvalidNumber___init__, .func (PySem.W.fnX "__init__" "InvalidNumber.__init__" (defArgs s_InvalidNumber___init__) (defBody s_InvalidNumber___init__) (defScope s_InvalidNumber___init__) [("__class__", ce_InvalidNumber___init__)] .none kV_InvalidNumber___init__ dc_InvalidNumber___init__ pm_InvalidNumber___init__ an_InvalidNumber___init__ (.ref cc_InvalidNumber___init__) ct_InvalidNumber___init__), sl_InvalidNumber___init__⟩) (c_InvalidNumber___init__ : PySem.W.codeIn K (.ref cc_InvalidNumber___init__) "InvalidNumber.__init__" = true)
    {xc_InvalidNumber___init__ : Value} {xd_InvalidNumber___init__ : Option Addr} {xv_InvalidNumber___init__ : Array Value} {xs_InvalidNumber___init__ : Array (Option Value)} (lc_InvalidNumber___init__ : K.lookup cc_InvalidNumber___init__ = some ⟨xc_InvalidNumber___init__, xd_InvalidNumber___init__, .fields xv_InvalidNumber___init__, xs_InvalidNumber___init__⟩)
    {fl_InvalidNumber___init__ : Str} {ft_InvalidNumber___init__ : Tok} (lv_InvalidNumber___init__ : xv_InvalidNumber___init__[2]? = some (.str fl_InvalidNumber___init__ ft_InvalidNumber___init__))
    (lf_InvalidNumber___init__ : ((l.prog.main.file : Str) == fl_InvalidNumber___init__) = true)
    {zc_InvalidNumber___init__ : Value} {zd_InvalidNumber___init__ : Option Addr} {zs_InvalidNumber___init__ : Array (Option Value)} (le_InvalidNumber___init__ : K.lookup ce_InvalidNumber___init__ = some ⟨zc_InvalidNumber___init__, zd_InvalidNumber___init__, .cell (some (.ref E_InvalidNumber)), zs_InvalidNumber___init__⟩)
    (ln_InvalidNumber___init__ : (l.prog.main.scope.names.lookup ("super" : Str)).isSome = false)
    (c1_InvalidNumber : PySem.W.findIn K (.ref E_InvalidNumber) "__class__" = some (some (.builtin "object.__class__"))) (mo_InvalidNumber : PySem.W.mroIn K E_InvalidNumber (.type "object") = some true)
    (rk_InvalidWord : ([.ref E_InvalidWord, .ref E_InvalidPromise, .ref E_InvalidPlace, .ref E_InvalidCall, .ref E_InvalidRun, .ref E_InvalidWorld, .ref E_InvalidPlan, .ref E_InvalidBook, .ref E_InvalidOperation, .ref E_ParseError, .ref E_PromiseError, .type "ValueError"] : List Value).map (fun c => PySem.W.kitOne K (.ref E_InvalidWord) c) = (rowB 0).map some)
    (ro_InvalidWord : ([.ref E_UnknownFact, .ref E_NotKept, .ref E_NothingToUndo, .ref E_TooMany, .ref E_Refused, .ref E_InvalidNumber, .type "KeyError", .type "IndexError", .type "LookupError", .type "OverflowError", .type "ArithmeticError", .type "RuntimeError"] : List Value).map (fun c => PySem.W.kitOne K (.ref E_InvalidWord) c) = (no12).map some)
    (rk_InvalidPromise : ([.ref E_InvalidWord, .ref E_InvalidPromise, .ref E_InvalidPlace, .ref E_InvalidCall, .ref E_InvalidRun, .ref E_InvalidWorld, .ref E_InvalidPlan, .ref E_InvalidBook, .ref E_InvalidOperation, .ref E_ParseError, .ref E_PromiseError, .type "ValueError"] : List Value).map (fun c => PySem.W.kitOne K (.ref E_InvalidPromise) c) = (rowB 1).map some)
    (ro_InvalidPromise : ([.ref E_UnknownFact, .ref E_NotKept, .ref E_NothingToUndo, .ref E_TooMany, .ref E_Refused, .ref E_InvalidNumber, .type "KeyError", .type "IndexError", .type "LookupError", .type "OverflowError", .type "ArithmeticError", .type "RuntimeError"] : List Value).map (fun c => PySem.W.kitOne K (.ref E_InvalidPromise) c) = (no12).map some)
    (rk_InvalidPlace : ([.ref E_InvalidWord, .ref E_InvalidPromise, .ref E_InvalidPlace, .ref E_InvalidCall, .ref E_InvalidRun, .ref E_InvalidWorld, .ref E_InvalidPlan, .ref E_InvalidBook, .ref E_InvalidOperation, .ref E_ParseError, .ref E_PromiseError, .type "ValueError"] : List Value).map (fun c => PySem.W.kitOne K (.ref E_InvalidPlace) c) = (rowB 2).map some)
    (ro_InvalidPlace : ([.ref E_UnknownFact, .ref E_NotKept, .ref E_NothingToUndo, .ref E_TooMany, .ref E_Refused, .ref E_InvalidNumber, .type "KeyError", .type "IndexError", .type "LookupError", .type "OverflowError", .type "ArithmeticError", .type "RuntimeError"] : List Value).map (fun c => PySem.W.kitOne K (.ref E_InvalidPlace) c) = (no12).map some)
    (rk_InvalidCall : ([.ref E_InvalidWord, .ref E_InvalidPromise, .ref E_InvalidPlace, .ref E_InvalidCall, .ref E_InvalidRun, .ref E_InvalidWorld, .ref E_InvalidPlan, .ref E_InvalidBook, .ref E_InvalidOperation, .ref E_ParseError, .ref E_PromiseError, .type "ValueError"] : List Value).map (fun c => PySem.W.kitOne K (.ref E_InvalidCall) c) = (rowB 3).map some)
    (ro_InvalidCall : ([.ref E_UnknownFact, .ref E_NotKept, .ref E_NothingToUndo, .ref E_TooMany, .ref E_Refused, .ref E_InvalidNumber, .type "KeyError", .type "IndexError", .type "LookupError", .type "OverflowError", .type "ArithmeticError", .type "RuntimeError"] : List Value).map (fun c => PySem.W.kitOne K (.ref E_InvalidCall) c) = (no12).map some)
    (rk_InvalidRun : ([.ref E_InvalidWord, .ref E_InvalidPromise, .ref E_InvalidPlace, .ref E_InvalidCall, .ref E_InvalidRun, .ref E_InvalidWorld, .ref E_InvalidPlan, .ref E_InvalidBook, .ref E_InvalidOperation, .ref E_ParseError, .ref E_PromiseError, .type "ValueError"] : List Value).map (fun c => PySem.W.kitOne K (.ref E_InvalidRun) c) = (rowB 4).map some)
    (ro_InvalidRun : ([.ref E_UnknownFact, .ref E_NotKept, .ref E_NothingToUndo, .ref E_TooMany, .ref E_Refused, .ref E_InvalidNumber, .type "KeyError", .type "IndexError", .type "LookupError", .type "OverflowError", .type "ArithmeticError", .type "RuntimeError"] : List Value).map (fun c => PySem.W.kitOne K (.ref E_InvalidRun) c) = (no12).map some)
    (rk_InvalidWorld : ([.ref E_InvalidWord, .ref E_InvalidPromise, .ref E_InvalidPlace, .ref E_InvalidCall, .ref E_InvalidRun, .ref E_InvalidWorld, .ref E_InvalidPlan, .ref E_InvalidBook, .ref E_InvalidOperation, .ref E_ParseError, .ref E_PromiseError, .type "ValueError"] : List Value).map (fun c => PySem.W.kitOne K (.ref E_InvalidWorld) c) = (rowB 5).map some)
    (ro_InvalidWorld : ([.ref E_UnknownFact, .ref E_NotKept, .ref E_NothingToUndo, .ref E_TooMany, .ref E_Refused, .ref E_InvalidNumber, .type "KeyError", .type "IndexError", .type "LookupError", .type "OverflowError", .type "ArithmeticError", .type "RuntimeError"] : List Value).map (fun c => PySem.W.kitOne K (.ref E_InvalidWorld) c) = (no12).map some)
    (rk_InvalidPlan : ([.ref E_InvalidWord, .ref E_InvalidPromise, .ref E_InvalidPlace, .ref E_InvalidCall, .ref E_InvalidRun, .ref E_InvalidWorld, .ref E_InvalidPlan, .ref E_InvalidBook, .ref E_InvalidOperation, .ref E_ParseError, .ref E_PromiseError, .type "ValueError"] : List Value).map (fun c => PySem.W.kitOne K (.ref E_InvalidPlan) c) = (rowB 6).map some)
    (ro_InvalidPlan : ([.ref E_UnknownFact, .ref E_NotKept, .ref E_NothingToUndo, .ref E_TooMany, .ref E_Refused, .ref E_InvalidNumber, .type "KeyError", .type "IndexError", .type "LookupError", .type "OverflowError", .type "ArithmeticError", .type "RuntimeError"] : List Value).map (fun c => PySem.W.kitOne K (.ref E_InvalidPlan) c) = (no12).map some)
    (rk_InvalidBook : ([.ref E_InvalidWord, .ref E_InvalidPromise, .ref E_InvalidPlace, .ref E_InvalidCall, .ref E_InvalidRun, .ref E_InvalidWorld, .ref E_InvalidPlan, .ref E_InvalidBook, .ref E_InvalidOperation, .ref E_ParseError, .ref E_PromiseError, .type "ValueError"] : List Value).map (fun c => PySem.W.kitOne K (.ref E_InvalidBook) c) = (rowB 7).map some)
    (ro_InvalidBook : ([.ref E_UnknownFact, .ref E_NotKept, .ref E_NothingToUndo, .ref E_TooMany, .ref E_Refused, .ref E_InvalidNumber, .type "KeyError", .type "IndexError", .type "LookupError", .type "OverflowError", .type "ArithmeticError", .type "RuntimeError"] : List Value).map (fun c => PySem.W.kitOne K (.ref E_InvalidBook) c) = (no12).map some)
    (rk_InvalidOperation : ([.ref E_InvalidWord, .ref E_InvalidPromise, .ref E_InvalidPlace, .ref E_InvalidCall, .ref E_InvalidRun, .ref E_InvalidWorld, .ref E_InvalidPlan, .ref E_InvalidBook, .ref E_InvalidOperation, .ref E_ParseError, .ref E_PromiseError, .type "ValueError"] : List Value).map (fun c => PySem.W.kitOne K (.ref E_InvalidOperation) c) = (rowB 8).map some)
    (ro_InvalidOperation : ([.ref E_UnknownFact, .ref E_NotKept, .ref E_NothingToUndo, .ref E_TooMany, .ref E_Refused, .ref E_InvalidNumber, .type "KeyError", .type "IndexError", .type "LookupError", .type "OverflowError", .type "ArithmeticError", .type "RuntimeError"] : List Value).map (fun c => PySem.W.kitOne K (.ref E_InvalidOperation) c) = (no12).map some)
    (rk_PromiseError : ([.ref E_InvalidWord, .ref E_InvalidPromise, .ref E_InvalidPlace, .ref E_InvalidCall, .ref E_InvalidRun, .ref E_InvalidWorld, .ref E_InvalidPlan, .ref E_InvalidBook, .ref E_InvalidOperation, .ref E_ParseError, .ref E_PromiseError, .type "ValueError"] : List Value).map (fun c => PySem.W.kitOne K (.ref E_PromiseError) c) = (rowB 10).map some)
    (ro_PromiseError : ([.ref E_UnknownFact, .ref E_NotKept, .ref E_NothingToUndo, .ref E_TooMany, .ref E_Refused, .ref E_InvalidNumber, .type "KeyError", .type "IndexError", .type "LookupError", .type "OverflowError", .type "ArithmeticError", .type "RuntimeError"] : List Value).map (fun c => PySem.W.kitOne K (.ref E_PromiseError) c) = (no12).map some)
    (rk_ParseError : ([.ref E_InvalidWord, .ref E_InvalidPromise, .ref E_InvalidPlace, .ref E_InvalidCall, .ref E_InvalidRun, .ref E_InvalidWorld, .ref E_InvalidPlan, .ref E_InvalidBook, .ref E_InvalidOperation, .ref E_ParseError, .ref E_PromiseError, .type "ValueError"] : List Value).map (fun c => PySem.W.kitOne K (.ref E_ParseError) c) = (rowB 9).map some)
    (ro_ParseError : ([.ref E_UnknownFact, .ref E_NotKept, .ref E_NothingToUndo, .ref E_TooMany, .ref E_Refused, .ref E_InvalidNumber, .type "KeyError", .type "IndexError", .type "LookupError", .type "OverflowError", .type "ArithmeticError", .type "RuntimeError"] : List Value).map (fun c => PySem.W.kitOne K (.ref E_ParseError) c) = (no12).map some)
    (rk_UnknownFact : ([.ref E_InvalidWord, .ref E_InvalidPromise, .ref E_InvalidPlace, .ref E_InvalidCall, .ref E_InvalidRun, .ref E_InvalidWorld, .ref E_InvalidPlan, .ref E_InvalidBook, .ref E_InvalidOperation, .ref E_ParseError, .ref E_PromiseError, .type "ValueError"] : List Value).map (fun c => PySem.W.kitOne K (.ref E_UnknownFact) c) = (no12).map some)
    (ro_UnknownFact : ([.ref E_UnknownFact, .ref E_NotKept, .ref E_NothingToUndo, .ref E_TooMany, .ref E_Refused, .ref E_InvalidNumber, .type "KeyError", .type "IndexError", .type "LookupError", .type "OverflowError", .type "ArithmeticError", .type "RuntimeError"] : List Value).map (fun c => PySem.W.kitOne K (.ref E_UnknownFact) c) = (onB [0, 6, 8]).map some)
    (rk_NotKept : ([.ref E_InvalidWord, .ref E_InvalidPromise, .ref E_InvalidPlace, .ref E_InvalidCall, .ref E_InvalidRun, .ref E_InvalidWorld, .ref E_InvalidPlan, .ref E_InvalidBook, .ref E_InvalidOperation, .ref E_ParseError, .ref E_PromiseError, .type "ValueError"] : List Value).map (fun c => PySem.W.kitOne K (.ref E_NotKept) c) = (no12).map some)
    (ro_NotKept : ([.ref E_UnknownFact, .ref E_NotKept, .ref E_NothingToUndo, .ref E_TooMany, .ref E_Refused, .ref E_InvalidNumber, .type "KeyError", .type "IndexError", .type "LookupError", .type "OverflowError", .type "ArithmeticError", .type "RuntimeError"] : List Value).map (fun c => PySem.W.kitOne K (.ref E_NotKept) c) = (onB [1, 8]).map some)
    (rk_NothingToUndo : ([.ref E_InvalidWord, .ref E_InvalidPromise, .ref E_InvalidPlace, .ref E_InvalidCall, .ref E_InvalidRun, .ref E_InvalidWorld, .ref E_InvalidPlan, .ref E_InvalidBook, .ref E_InvalidOperation, .ref E_ParseError, .ref E_PromiseError, .type "ValueError"] : List Value).map (fun c => PySem.W.kitOne K (.ref E_NothingToUndo) c) = (no12).map some)
    (ro_NothingToUndo : ([.ref E_UnknownFact, .ref E_NotKept, .ref E_NothingToUndo, .ref E_TooMany, .ref E_Refused, .ref E_InvalidNumber, .type "KeyError", .type "IndexError", .type "LookupError", .type "OverflowError", .type "ArithmeticError", .type "RuntimeError"] : List Value).map (fun c => PySem.W.kitOne K (.ref E_NothingToUndo) c) = (onB [2, 7, 8]).map some)
    (rk_TooMany : ([.ref E_InvalidWord, .ref E_InvalidPromise, .ref E_InvalidPlace, .ref E_InvalidCall, .ref E_InvalidRun, .ref E_InvalidWorld, .ref E_InvalidPlan, .ref E_InvalidBook, .ref E_InvalidOperation, .ref E_ParseError, .ref E_PromiseError, .type "ValueError"] : List Value).map (fun c => PySem.W.kitOne K (.ref E_TooMany) c) = (no12).map some)
    (ro_TooMany : ([.ref E_UnknownFact, .ref E_NotKept, .ref E_NothingToUndo, .ref E_TooMany, .ref E_Refused, .ref E_InvalidNumber, .type "KeyError", .type "IndexError", .type "LookupError", .type "OverflowError", .type "ArithmeticError", .type "RuntimeError"] : List Value).map (fun c => PySem.W.kitOne K (.ref E_TooMany) c) = (onB [3, 9, 10]).map some)
    (rk_Refused : ([.ref E_InvalidWord, .ref E_InvalidPromise, .ref E_InvalidPlace, .ref E_InvalidCall, .ref E_InvalidRun, .ref E_InvalidWorld, .ref E_InvalidPlan, .ref E_InvalidBook, .ref E_InvalidOperation, .ref E_ParseError, .ref E_PromiseError, .type "ValueError"] : List Value).map (fun c => PySem.W.kitOne K (.ref E_Refused) c) = (no12).map some)
    (ro_Refused : ([.ref E_UnknownFact, .ref E_NotKept, .ref E_NothingToUndo, .ref E_TooMany, .ref E_Refused, .ref E_InvalidNumber, .type "KeyError", .type "IndexError", .type "LookupError", .type "OverflowError", .type "ArithmeticError", .type "RuntimeError"] : List Value).map (fun c => PySem.W.kitOne K (.ref E_Refused) c) = (onB [4, 10]).map some)
    (rk_InvalidNumber : ([.ref E_InvalidWord, .ref E_InvalidPromise, .ref E_InvalidPlace, .ref E_InvalidCall, .ref E_InvalidRun, .ref E_InvalidWorld, .ref E_InvalidPlan, .ref E_InvalidBook, .ref E_InvalidOperation, .ref E_ParseError, .ref E_PromiseError, .type "ValueError"] : List Value).map (fun c => PySem.W.kitOne K (.ref E_InvalidNumber) c) = (no12).map some)
    (ro_InvalidNumber : ([.ref E_UnknownFact, .ref E_NotKept, .ref E_NothingToUndo, .ref E_TooMany, .ref E_Refused, .ref E_InvalidNumber, .type "KeyError", .type "IndexError", .type "LookupError", .type "OverflowError", .type "ArithmeticError", .type "RuntimeError"] : List Value).map (fun c => PySem.W.kitOne K (.ref E_InvalidNumber) c) = (onB [5, 11]).map some)
    {f__law_kinds : Addr} (a__law_kinds : PySem.W.nsIn K mainGlobals "_law_kinds" = some (some (.ref f__law_kinds)))
    {od__law_kinds an__law_kinds : Option Addr} {sl__law_kinds : Array (Option Value)} {oc__law_kinds kV__law_kinds dc__law_kinds pm__law_kinds ct__law_kinds : Value} {cd__law_kinds : Value} (l__law_kinds : K.lookup f__law_kinds = some ⟨oc__law_kinds, od__law_kinds, .func (PySem.W.fnOf "_law_kinds" "_law_kinds" (defArgs s__law_kinds) (defBody s__law_kinds) (defScope s__law_kinds) .none kV__law_kinds dc__law_kinds pm__law_kinds an__law_kinds cd__law_kinds ct__law_kinds), sl__law_kinds⟩) (c__law_kinds : PySem.W.codeIn K cd__law_kinds "_law_kinds" = true) (k__law_kinds : PySem.W.keepIn K (.ref f__law_kinds) = true)
    {f__law_others : Addr} (a__law_others : PySem.W.nsIn K mainGlobals "_law_others" = some (some (.ref f__law_others)))
    {od__law_others an__law_others : Option Addr} {sl__law_others : Array (Option Value)} {oc__law_others kV__law_others dc__law_others pm__law_others ct__law_others : Value} {cd__law_others : Value} (l__law_others : K.lookup f__law_others = some ⟨oc__law_others, od__law_others, .func (PySem.W.fnOf "_law_others" "_law_others" (defArgs s__law_others) (defBody s__law_others) (defScope s__law_others) .none kV__law_others dc__law_others pm__law_others an__law_others cd__law_others ct__law_others), sl__law_others⟩) (c__law_others : PySem.W.codeIn K cd__law_others "_law_others" = true) (k__law_others : PySem.W.keepIn K (.ref f__law_others) = true)
    {f__law_right : Addr} (a__law_right : PySem.W.nsIn K mainGlobals "_law_right" = some (some (.ref f__law_right)))
    {od__law_right an__law_right : Option Addr} {sl__law_right : Array (Option Value)} {oc__law_right kV__law_right dc__law_right pm__law_right ct__law_right : Value} {cd__law_right : Value} (l__law_right : K.lookup f__law_right = some ⟨oc__law_right, od__law_right, .func (PySem.W.fnOf "_law_right" "_law_right" (defArgs s__law_right) (defBody s__law_right) (defScope s__law_right) .none kV__law_right dc__law_right pm__law_right an__law_right cd__law_right ct__law_right), sl__law_right⟩) (c__law_right : PySem.W.codeIn K cd__law_right "_law_right" = true) (k__law_right : PySem.W.keepIn K (.ref f__law_right) = true)
    {f_law : Addr} (a_law : PySem.W.nsIn K mainGlobals "law" = some (some (.ref f_law)))
    {od_law an_law : Option Addr} {sl_law : Array (Option Value)} {oc_law kV_law dc_law pm_law ct_law : Value} {cd_law : Value} (l_law : K.lookup f_law = some ⟨oc_law, od_law, .func (PySem.W.fnOf "law" "law" (defArgs s_law) (defBody s_law) (defScope s_law) .none kV_law dc_law pm_law an_law cd_law ct_law), sl_law⟩) (c_law : PySem.W.codeIn K cd_law "law" = true) (k_law : PySem.W.keepIn K (.ref f_law) = true)
    (z_isinstance : PySem.W.nsIn K mainGlobals "isinstance" = some none)
    (z_list : PySem.W.nsIn K mainGlobals "list" = some none)
    (z_tuple : PySem.W.nsIn K mainGlobals "tuple" = some none)
    (z_dict : PySem.W.nsIn K mainGlobals "dict" = some none)
    (z_range : PySem.W.nsIn K mainGlobals "range" = some none)
    (z_len : PySem.W.nsIn K mainGlobals "len" = some none)
    (z_int : PySem.W.nsIn K mainGlobals "int" = some none)
    (z_max : PySem.W.nsIn K mainGlobals "max" = some none)
    (z_repr : PySem.W.nsIn K mainGlobals "repr" = some none)
    (z_abs : PySem.W.nsIn K mainGlobals "abs" = some none)
    (z_min : PySem.W.nsIn K mainGlobals "min" = some none)
    (z_super : PySem.W.nsIn K mainGlobals "super" = some none)
    (z_str : PySem.W.nsIn K mainGlobals "str" = some none)
    : ∃ fd : FuncData, (∀ (s : Shared) (v : Value), BindsTo s fd ⟨[v], []⟩ [("script", v)]) ∧ ∀ base : Heap, K.In base → base.Ns mainGlobals mg → FnG l.prog w K mg base 7 fa fd ["script"] (spLaw0 K) := by
  have e := hfa.symm.trans (PySem.W.mg_of X G a_law)
  obtain rfl : f_law = fa := (Value.ref.inj (Option.some.inj e)).symm
  have T : Txt mg := ⟨PySem.W.mg_none_of X G z_isinstance, PySem.W.mg_none_of X G z_list, PySem.W.mg_none_of X G z_tuple, PySem.W.mg_none_of X G z_dict, PySem.W.mg_none_of X G z_range, PySem.W.mg_none_of X G z_len, PySem.W.mg_none_of X G z_int, PySem.W.mg_none_of X G z_max, PySem.W.mg_none_of X G z_repr, PySem.W.mg_none_of X G z_abs, PySem.W.mg_none_of X G z_min, PySem.W.mg_none_of X G z_super, PySem.W.mg_none_of X G z_str⟩
  refine ⟨PySem.W.fnOf "law" "law" (defArgs s_law) (defBody s_law) (defScope s_law) .none kV_law dc_law pm_law an_law cd_law ct_law, fun s v => .of_eq rfl, fun base _ _ => ?_⟩
  have EH_InvalidWord : PySem.W.EhExc K E_InvalidWord := ⟨kg_InvalidWord, kgg_InvalidWord, x4_InvalidWord, kh_InvalidWord, c1_InvalidWord, cc2, cc3, mo_InvalidWord⟩
  have P_InvalidWord : PlainE K mg E_InvalidWord "InvalidWord" := ⟨PySem.W.mg_of X G x1_InvalidWord, x2_InvalidWord, x3_InvalidWord, EH_InvalidWord, st_InvalidWord⟩
  have EH_InvalidPromise : PySem.W.EhExc K E_InvalidPromise := ⟨kg_InvalidPromise, kgg_InvalidPromise, x4_InvalidPromise, kh_InvalidPromise, c1_InvalidPromise, cc2, cc3, mo_InvalidPromise⟩
  have P_InvalidPromise : PlainE K mg E_InvalidPromise "InvalidPromise" := ⟨PySem.W.mg_of X G x1_InvalidPromise, x2_InvalidPromise, x3_InvalidPromise, EH_InvalidPromise, st_InvalidPromise⟩
  have EH_InvalidPlace : PySem.W.EhExc K E_InvalidPlace := ⟨kg_InvalidPlace, kgg_InvalidPlace, x4_InvalidPlace, kh_InvalidPlace, c1_InvalidPlace, cc2, cc3, mo_InvalidPlace⟩
  have P_InvalidPlace : PlainE K mg E_InvalidPlace "InvalidPlace" := ⟨PySem.W.mg_of X G x1_InvalidPlace, x2_InvalidPlace, x3_InvalidPlace, EH_InvalidPlace, st_InvalidPlace⟩
  have EH_InvalidCall : PySem.W.EhExc K E_InvalidCall := ⟨kg_InvalidCall, kgg_InvalidCall, x4_InvalidCall, kh_InvalidCall, c1_InvalidCall, cc2, cc3, mo_InvalidCall⟩
  have P_InvalidCall : PlainE K mg E_InvalidCall "InvalidCall" := ⟨PySem.W.mg_of X G x1_InvalidCall, x2_InvalidCall, x3_InvalidCall, EH_InvalidCall, st_InvalidCall⟩
  have EH_InvalidRun : PySem.W.EhExc K E_InvalidRun := ⟨kg_InvalidRun, kgg_InvalidRun, x4_InvalidRun, kh_InvalidRun, c1_InvalidRun, cc2, cc3, mo_InvalidRun⟩
  have P_InvalidRun : PlainE K mg E_InvalidRun "InvalidRun" := ⟨PySem.W.mg_of X G x1_InvalidRun, x2_InvalidRun, x3_InvalidRun, EH_InvalidRun, st_InvalidRun⟩
  have EH_InvalidWorld : PySem.W.EhExc K E_InvalidWorld := ⟨kg_InvalidWorld, kgg_InvalidWorld, x4_InvalidWorld, kh_InvalidWorld, c1_InvalidWorld, cc2, cc3, mo_InvalidWorld⟩
  have P_InvalidWorld : PlainE K mg E_InvalidWorld "InvalidWorld" := ⟨PySem.W.mg_of X G x1_InvalidWorld, x2_InvalidWorld, x3_InvalidWorld, EH_InvalidWorld, st_InvalidWorld⟩
  have EH_InvalidPlan : PySem.W.EhExc K E_InvalidPlan := ⟨kg_InvalidPlan, kgg_InvalidPlan, x4_InvalidPlan, kh_InvalidPlan, c1_InvalidPlan, cc2, cc3, mo_InvalidPlan⟩
  have P_InvalidPlan : PlainE K mg E_InvalidPlan "InvalidPlan" := ⟨PySem.W.mg_of X G x1_InvalidPlan, x2_InvalidPlan, x3_InvalidPlan, EH_InvalidPlan, st_InvalidPlan⟩
  have EH_InvalidBook : PySem.W.EhExc K E_InvalidBook := ⟨kg_InvalidBook, kgg_InvalidBook, x4_InvalidBook, kh_InvalidBook, c1_InvalidBook, cc2, cc3, mo_InvalidBook⟩
  have P_InvalidBook : PlainE K mg E_InvalidBook "InvalidBook" := ⟨PySem.W.mg_of X G x1_InvalidBook, x2_InvalidBook, x3_InvalidBook, EH_InvalidBook, st_InvalidBook⟩
  have EH_InvalidOperation : PySem.W.EhExc K E_InvalidOperation := ⟨kg_InvalidOperation, kgg_InvalidOperation, x4_InvalidOperation, kh_InvalidOperation, c1_InvalidOperation, cc2, cc3, mo_InvalidOperation⟩
  have P_InvalidOperation : PlainE K mg E_InvalidOperation "InvalidOperation" := ⟨PySem.W.mg_of X G x1_InvalidOperation, x2_InvalidOperation, x3_InvalidOperation, EH_InvalidOperation, st_InvalidOperation⟩
  have EH_PromiseError : PySem.W.EhExc K E_PromiseError := ⟨kg_PromiseError, kgg_PromiseError, x4_PromiseError, kh_PromiseError, c1_PromiseError, cc2, cc3, mo_PromiseError⟩
  have P_PromiseError : PlainE K mg E_PromiseError "PromiseError" := ⟨PySem.W.mg_of X G x1_PromiseError, x2_PromiseError, x3_PromiseError, EH_PromiseError, st_PromiseError⟩
  have F__law_roll := fun_mk (st := s__law_roll) l__law_roll c__law_roll k__law_roll
  have b__law_roll := F__law_roll.binds (ps := ["dice", "many"]) fun _ _ _ _ _ _ us hl => match us, hl with | [_, _], _ => rfl
  have m__law_roll := PySem.W.mg_of X G a__law_roll
  have G__law_roll : Cal l.prog w K mg base 1 "_law_roll" f__law_roll _ ["dice", "many"] spRoll := ⟨ok_roll F__law_roll T, m__law_roll, k__law_roll, b__law_roll⟩
  have F__law_pick := fun_mk (st := s__law_pick) l__law_pick c__law_pick k__law_pick
  have b__law_pick := F__law_pick.binds (ps := ["dice", "items"]) fun _ _ _ _ _ _ us hl => match us, hl with | [_, _], _ => rfl
  have m__law_pick := PySem.W.mg_of X G a__law_pick
  have G__law_pick : Cal l.prog w K mg base 2 "_law_pick" f__law_pick _ ["dice", "items"] (spPick K) := ⟨ok_pick F__law_pick T G__law_roll, m__law_pick, k__law_pick, b__law_pick⟩
  have F__law_dice := fun_mk (st := s__law_dice) l__law_dice c__law_dice k__law_dice
  have b__law_dice := F__law_dice.binds (ps := ["script", "spot"]) fun _ _ _ _ _ _ us hl => match us, hl with | [_, _], _ => rfl
  have m__law_dice := PySem.W.mg_of X G a__law_dice
  have G__law_dice : Cal l.prog w K mg base 1 "_law_dice" f__law_dice _ ["script", "spot"] (spDice K) := ⟨ok_dice F__law_dice T, m__law_dice, k__law_dice, b__law_dice⟩
  have F__copied := fun_mk (st := s__copied) l__copied c__copied k__copied
  have b__copied := F__copied.binds (ps := ["value"]) fun _ _ _ _ _ _ us hl => match us, hl with | [_], _ => rfl
  have m__copied := PySem.W.mg_of X G a__copied
  have G__copied : Cal l.prog w K mg base 3 "_copied" f__copied _ ["value"] (spCp K 2) := ⟨ok_copied F__copied T m__copied k__copied b__copied 2, m__copied, k__copied, b__copied⟩
  have O_ParseError : OexB K E_ParseError "ValueError" "ValueError.__new__" "ValueError.__init__" veB := ⟨kq_ParseError, kv_ParseError, kh_ParseError, ks_ParseError, x4_ParseError, kb_ParseError, x5_ParseError, x3_ParseError, kt_ParseError, ku_ParseError, km_ParseError⟩
  obtain ⟨cd_ParseError, hcd_ParseError⟩ := Option.isSome_iff_exists.mp (show (PySem.W.clsIn K E_ParseError).isSome = true from x6_ParseError)
  have IE_ParseError : InitE l.prog K E_ParseError g_ParseError___init__ ⟨"__init__", "ParseError.__init__", defArgs s_ParseError___init__, defBody s_ParseError___init__, defScope s_ParseError___init__, [("__class__", ce_ParseError___init__)], cc_ParseError___init__⟩ _ := ⟨ce_ParseError___init__, cc_ParseError___init__, oc_ParseError___init__, kV_ParseError___init__, dc_ParseError___init__, pm_ParseError___init__, ct_ParseError___init__, xc_ParseError___init__, zc_ParseError___init__, od_ParseError___init__, an_ParseError___init__, xd_ParseError___init__, zd_ParseError___init__, sl_ParseError___init__, xs_ParseError___init__, zs_ParseError___init__, xv_ParseError___init__, fl_ParseError___init__, ft_ParseError___init__, cd_ParseError, rfl, rfl, rfl, l_ParseError___init__, c_ParseError___init__, lc_ParseError___init__, lv_ParseError___init__, lf_ParseError___init__, le_ParseError___init__, hcd_ParseError, ln_ParseError___init__⟩
  have b_ParseError___init__ : Binds K _ ["self", "line"] [] := Binds.all (fd := PySem.W.fnX "__init__" "ParseError.__init__" (defArgs s_ParseError___init__) (defBody s_ParseError___init__) (defScope s_ParseError___init__) [("__class__", ce_ParseError___init__)] .none kV_ParseError___init__ dc_ParseError___init__ pm_ParseError___init__ an_ParseError___init__ (.ref cc_ParseError___init__) ct_ParseError___init__) fun us hl => match us, hl with | [_, _], _ => rfl
  have hn_ParseError : PySem.W.takerIn K E_ParseError "line" = some none := by unfold PySem.W.takerIn; rw [kn_ParseError]; rfl
  have K_ParseError : FnOk l.prog w K mg base CX0 4 g_ParseError___init__ _ ["self", "line"] (spKeepC K E_ParseError "line" 2) := ok_keepC (n := 2) (msg := "the text cannot be read") baseVE O_ParseError T.super_ IE_ParseError (NdefX.nscope_by (sc := defScope s_ParseError___init__) (by decide +kernel)) rfl rfl rfl (by show (defScope s_ParseError___init__).names.lookup _ = _; decide +kernel) (by show (defScope s_ParseError___init__).names.lookup _ = _; decide +kernel) (by show (defScope s_ParseError___init__).names.lookup _ = _; decide +kernel) (by decide +kernel) (by decide) (by decide) hn_ParseError (fun _ => rfl) G__copied
  have XF_ParseError : XfC K E_ParseError := ⟨kg_ParseError, kgg_ParseError, x4_ParseError, kh_ParseError⟩
  have EH_ParseError : PySem.W.EhExc K E_ParseError := ⟨kg_ParseError, kgg_ParseError, x4_ParseError, kh_ParseError, c1_ParseError, cc2, cc3, mo_ParseError⟩
  have P_ParseError : KeepC l.prog w K mg base E_ParseError "ParseError" "line" := ⟨PySem.W.mg_of X G x1_ParseError, ⟨_, _, _, _, _, _, _, baseVE, O_ParseError, a_ParseError___init__, y_ParseError___init__, K_ParseError, b_ParseError___init__, by show 2 ≤ 1000; decide⟩, EH_ParseError, XF_ParseError, kn_ParseError⟩
  have O_UnknownFact : OexB K E_UnknownFact "KeyError" "LookupError.__new__" "KeyError.__init__" keB := ⟨kq_UnknownFact, kv_UnknownFact, kh_UnknownFact, ks_UnknownFact, x4_UnknownFact, kb_UnknownFact, x5_UnknownFact, x3_UnknownFact, kt_UnknownFact, ku_UnknownFact, km_UnknownFact⟩
  obtain ⟨cd_UnknownFact, hcd_UnknownFact⟩ := Option.isSome_iff_exists.mp (show (PySem.W.clsIn K E_UnknownFact).isSome = true from x6_UnknownFact)
  have IE_UnknownFact : InitE l.prog K E_UnknownFact g_UnknownFact___init__ ⟨"__init__", "UnknownFact.__init__", defArgs s_UnknownFact___init__, defBody s_UnknownFact___init__, defScope s_UnknownFact___init__, [("__class__", ce_UnknownFact___init__)], cc_UnknownFact___init__⟩ _ := ⟨ce_UnknownFact___init__, cc_UnknownFact___init__, oc_UnknownFact___init__, kV_UnknownFact___init__, dc_UnknownFact___init__, pm_UnknownFact___init__, ct_UnknownFact___init__, xc_UnknownFact___init__, zc_UnknownFact___init__, od_UnknownFact___init__, an_UnknownFact___init__, xd_UnknownFact___init__, zd_UnknownFact___init__, sl_UnknownFact___init__, xs_UnknownFact___init__, zs_UnknownFact___init__, xv_UnknownFact___init__, fl_UnknownFact___init__, ft_UnknownFact___init__, cd_UnknownFact, rfl, rfl, rfl, l_UnknownFact___init__, c_UnknownFact___init__, lc_UnknownFact___init__, lv_UnknownFact___init__, lf_UnknownFact___init__, le_UnknownFact___init__, hcd_UnknownFact, ln_UnknownFact___init__⟩
  have b_UnknownFact___init__ : Binds K _ ["self", "asked"] [] := Binds.all (fd := PySem.W.fnX "__init__" "UnknownFact.__init__" (defArgs s_UnknownFact___init__) (defBody s_UnknownFact___init__) (defScope s_UnknownFact___init__) [("__class__", ce_UnknownFact___init__)] .none kV_UnknownFact___init__ dc_UnknownFact___init__ pm_UnknownFact___init__ an_UnknownFact___init__ (.ref cc_UnknownFact___init__) ct_UnknownFact___init__) fun us hl => match us, hl with | [_, _], _ => rfl
  have hn_UnknownFact : PySem.W.takerIn K E_UnknownFact "asked" = some none := by unfold PySem.W.takerIn; rw [kn_UnknownFact]; rfl
  have K_UnknownFact : FnOk l.prog w K mg base CX0 4 g_UnknownFact___init__ _ ["self", "asked"] (spKeepC K E_UnknownFact "asked" 2) := ok_keepC (n := 2) (msg := "what is asked for is not there") baseKE O_UnknownFact T.super_ IE_UnknownFact (NdefX.nscope_by (sc := defScope s_UnknownFact___init__) (by decide +kernel)) rfl rfl rfl (by show (defScope s_UnknownFact___init__).names.lookup _ = _; decide +kernel) (by show (defScope s_UnknownFact___init__).names.lookup _ = _; decide +kernel) (by show (defScope s_UnknownFact___init__).names.lookup _ = _; decide +kernel) (by decide +kernel) (by decide) (by decide) hn_UnknownFact (fun _ => rfl) G__copied
  have XF_UnknownFact : XfC K E_UnknownFact := ⟨kg_UnknownFact, kgg_UnknownFact, x4_UnknownFact, kh_UnknownFact⟩
  have EH_UnknownFact : PySem.W.EhExc K E_UnknownFact := ⟨kg_UnknownFact, kgg_UnknownFact, x4_UnknownFact, kh_UnknownFact, c1_UnknownFact, cc2, cc3, mo_UnknownFact⟩
  have P_UnknownFact : KeepC l.prog w K mg base E_UnknownFact "UnknownFact" "asked" := ⟨PySem.W.mg_of X G x1_UnknownFact, ⟨_, _, _, _, _, _, _, baseKE, O_UnknownFact, a_UnknownFact___init__, y_UnknownFact___init__, K_UnknownFact, b_UnknownFact___init__, by show 2 ≤ 1000; decide⟩, EH_UnknownFact, XF_UnknownFact, kn_UnknownFact⟩
  have O_NotKept : OexB K E_NotKept "LookupError" "LookupError.__new__" "LookupError.__init__" leB := ⟨kq_NotKept, kv_NotKept, kh_NotKept, ks_NotKept, x4_NotKept, kb_NotKept, x5_NotKept, x3_NotKept, kt_NotKept, ku_NotKept, km_NotKept⟩
  obtain ⟨cd_NotKept, hcd_NotKept⟩ := Option.isSome_iff_exists.mp (show (PySem.W.clsIn K E_NotKept).isSome = true from x6_NotKept)
  have IE_NotKept : InitE l.prog K E_NotKept g_NotKept___init__ ⟨"__init__", "NotKept.__init__", defArgs s_NotKept___init__, defBody s_NotKept___init__, defScope s_NotKept___init__, [("__class__", ce_NotKept___init__)], cc_NotKept___init__⟩ _ := ⟨ce_NotKept___init__, cc_NotKept___init__, oc_NotKept___init__, kV_NotKept___init__, dc_NotKept___init__, pm_NotKept___init__, ct_NotKept___init__, xc_NotKept___init__, zc_NotKept___init__, od_NotKept___init__, an_NotKept___init__, xd_NotKept___init__, zd_NotKept___init__, sl_NotKept___init__, xs_NotKept___init__, zs_NotKept___init__, xv_NotKept___init__, fl_NotKept___init__, ft_NotKept___init__, cd_NotKept, rfl, rfl, rfl, l_NotKept___init__, c_NotKept___init__, lc_NotKept___init__, lv_NotKept___init__, lf_NotKept___init__, le_NotKept___init__, hcd_NotKept, ln_NotKept___init__⟩
  have b_NotKept___init__ : Binds K _ ["self", "wanted"] [] := Binds.all (fd := PySem.W.fnX "__init__" "NotKept.__init__" (defArgs s_NotKept___init__) (defBody s_NotKept___init__) (defScope s_NotKept___init__) [("__class__", ce_NotKept___init__)] .none kV_NotKept___init__ dc_NotKept___init__ pm_NotKept___init__ an_NotKept___init__ (.ref cc_NotKept___init__) ct_NotKept___init__) fun us hl => match us, hl with | [_, _], _ => rfl
  have hn_NotKept : PySem.W.takerIn K E_NotKept "wanted" = some none := by unfold PySem.W.takerIn; rw [kn_NotKept]; rfl
  have K_NotKept : FnOk l.prog w K mg base CX0 4 g_NotKept___init__ _ ["self", "wanted"] (spKeepC K E_NotKept "wanted" 2) := ok_keepC (n := 2) (msg := "the promise is not kept") baseLE O_NotKept T.super_ IE_NotKept (NdefX.nscope_by (sc := defScope s_NotKept___init__) (by decide +kernel)) rfl rfl rfl (by show (defScope s_NotKept___init__).names.lookup _ = _; decide +kernel) (by show (defScope s_NotKept___init__).names.lookup _ = _; decide +kernel) (by show (defScope s_NotKept___init__).names.lookup _ = _; decide +kernel) (by decide +kernel) (by decide) (by decide) hn_NotKept (fun _ => rfl) G__copied
  have XF_NotKept : XfC K E_NotKept := ⟨kg_NotKept, kgg_NotKept, x4_NotKept, kh_NotKept⟩
  have EH_NotKept : PySem.W.EhExc K E_NotKept := ⟨kg_NotKept, kgg_NotKept, x4_NotKept, kh_NotKept, c1_NotKept, cc2, cc3, mo_NotKept⟩
  have P_NotKept : KeepC l.prog w K mg base E_NotKept "NotKept" "wanted" := ⟨PySem.W.mg_of X G x1_NotKept, ⟨_, _, _, _, _, _, _, baseLE, O_NotKept, a_NotKept___init__, y_NotKept___init__, K_NotKept, b_NotKept___init__, by show 2 ≤ 1000; decide⟩, EH_NotKept, XF_NotKept, kn_NotKept⟩
  have O_NothingToUndo : OexB K E_NothingToUndo "IndexError" "IndexError.__new__" "IndexError.__init__" ieB := ⟨kq_NothingToUndo, kv_NothingToUndo, kh_NothingToUndo, ks_NothingToUndo, x4_NothingToUndo, kb_NothingToUndo, x5_NothingToUndo, x3_NothingToUndo, kt_NothingToUndo, ku_NothingToUndo, km_NothingToUndo⟩
  obtain ⟨cd_NothingToUndo, hcd_NothingToUndo⟩ := Option.isSome_iff_exists.mp (show (PySem.W.clsIn K E_NothingToUndo).isSome = true from x6_NothingToUndo)
  have IE_NothingToUndo : InitE l.prog K E_NothingToUndo g_NothingToUndo___init__ ⟨"__init__", "NothingToUndo.__init__", defArgs s_NothingToUndo___init__, defBody s_NothingToUndo___init__, defScope s_NothingToUndo___init__, [("__class__", ce_NothingToUndo___init__)], cc_NothingToUndo___init__⟩ _ := ⟨ce_NothingToUndo___init__, cc_NothingToUndo___init__, oc_NothingToUndo___init__, kV_NothingToUndo___init__, dc_NothingToUndo___init__, pm_NothingToUndo___init__, ct_NothingToUndo___init__, xc_NothingToUndo___init__, zc_NothingToUndo___init__, od_NothingToUndo___init__, an_NothingToUndo___init__, xd_NothingToUndo___init__, zd_NothingToUndo___init__, sl_NothingToUndo___init__, xs_NothingToUndo___init__, zs_NothingToUndo___init__, xv_NothingToUndo___init__, fl_NothingToUndo___init__, ft_NothingToUndo___init__, cd_NothingToUndo, rfl, rfl, rfl, l_NothingToUndo___init__, c_NothingToUndo___init__, lc_NothingToUndo___init__, lv_NothingToUndo___init__, lf_NothingToUndo___init__, le_NothingToUndo___init__, hcd_NothingToUndo, ln_NothingToUndo___init__⟩
  have b_NothingToUndo___init__ : Binds K _ ["self", "amount"] [] := Binds.all (fd := PySem.W.fnX "__init__" "NothingToUndo.__init__" (defArgs s_NothingToUndo___init__) (defBody s_NothingToUndo___init__) (defScope s_NothingToUndo___init__) [("__class__", ce_NothingToUndo___init__)] .none kV_NothingToUndo___init__ dc_NothingToUndo___init__ pm_NothingToUndo___init__ an_NothingToUndo___init__ (.ref cc_NothingToUndo___init__) ct_NothingToUndo___init__) fun us hl => match us, hl with | [_, _], _ => rfl
  have hn_NothingToUndo : PySem.W.takerIn K E_NothingToUndo "amount" = some none := by unfold PySem.W.takerIn; rw [kn_NothingToUndo]; rfl
  have K_NothingToUndo : FnOk l.prog w K mg base CX0 4 g_NothingToUndo___init__ _ ["self", "amount"] (spKeepC K E_NothingToUndo "amount" 2) := ok_keepC (n := 2) (msg := "there are fewer steps than that") baseIE O_NothingToUndo T.super_ IE_NothingToUndo (NdefX.nscope_by (sc := defScope s_NothingToUndo___init__) (by decide +kernel)) rfl rfl rfl (by show (defScope s_NothingToUndo___init__).names.lookup _ = _; decide +kernel) (by show (defScope s_NothingToUndo___init__).names.lookup _ = _; decide +kernel) (by show (defScope s_NothingToUndo___init__).names.lookup _ = _; decide +kernel) (by decide +kernel) (by decide) (by decide) hn_NothingToUndo (fun _ => rfl) G__copied
  have XF_NothingToUndo : XfC K E_NothingToUndo := ⟨kg_NothingToUndo, kgg_NothingToUndo, x4_NothingToUndo, kh_NothingToUndo⟩
  have EH_NothingToUndo : PySem.W.EhExc K E_NothingToUndo := ⟨kg_NothingToUndo, kgg_NothingToUndo, x4_NothingToUndo, kh_NothingToUndo, c1_NothingToUndo, cc2, cc3, mo_NothingToUndo⟩
  have P_NothingToUndo : KeepC l.prog w K mg base E_NothingToUndo "NothingToUndo" "amount" := ⟨PySem.W.mg_of X G x1_NothingToUndo, ⟨_, _, _, _, _, _, _, baseIE, O_NothingToUndo, a_NothingToUndo___init__, y_NothingToUndo___init__, K_NothingToUndo, b_NothingToUndo___init__, by show 2 ≤ 1000; decide⟩, EH_NothingToUndo, XF_NothingToUndo, kn_NothingToUndo⟩
  have O_TooMany : OexB K E_TooMany "OverflowError" "OverflowError.__new__" "OverflowError.__init__" oeB := ⟨kq_TooMany, kv_TooMany, kh_TooMany, ks_TooMany, x4_TooMany, kb_TooMany, x5_TooMany, x3_TooMany, kt_TooMany, ku_TooMany, km_TooMany⟩
  obtain ⟨cd_TooMany, hcd_TooMany⟩ := Option.isSome_iff_exists.mp (show (PySem.W.clsIn K E_TooMany).isSome = true from x6_TooMany)
  have IE_TooMany : InitE l.prog K E_TooMany g_TooMany___init__ ⟨"__init__", "TooMany.__init__", defArgs s_TooMany___init__, defBody s_TooMany___init__, defScope s_TooMany___init__, [("__class__", ce_TooMany___init__)], cc_TooMany___init__⟩ _ := ⟨ce_TooMany___init__, cc_TooMany___init__, oc_TooMany___init__, kV_TooMany___init__, dc_TooMany___init__, pm_TooMany___init__, ct_TooMany___init__, xc_TooMany___init__, zc_TooMany___init__, od_TooMany___init__, an_TooMany___init__, xd_TooMany___init__, zd_TooMany___init__, sl_TooMany___init__, xs_TooMany___init__, zs_TooMany___init__, xv_TooMany___init__, fl_TooMany___init__, ft_TooMany___init__, cd_TooMany, rfl, rfl, rfl, l_TooMany___init__, c_TooMany___init__, lc_TooMany___init__, lv_TooMany___init__, lf_TooMany___init__, le_TooMany___init__, hcd_TooMany, ln_TooMany___init__⟩
  have b_TooMany___init__ : Binds K _ ["self", "limit"] [] := Binds.all (fd := PySem.W.fnX "__init__" "TooMany.__init__" (defArgs s_TooMany___init__) (defBody s_TooMany___init__) (defScope s_TooMany___init__) [("__class__", ce_TooMany___init__)] .none kV_TooMany___init__ dc_TooMany___init__ pm_TooMany___init__ an_TooMany___init__ (.ref cc_TooMany___init__) ct_TooMany___init__) fun us hl => match us, hl with | [_, _], _ => rfl
  have hn_TooMany : PySem.W.takerIn K E_TooMany "limit" = some none := by unfold PySem.W.takerIn; rw [kn_TooMany]; rfl
  have K_TooMany : FnOk l.prog w K mg base CX0 4 g_TooMany___init__ _ ["self", "limit"] (spKeepC K E_TooMany "limit" 2) := ok_keepC (n := 2) (msg := "there are more than the limit") baseOE O_TooMany T.super_ IE_TooMany (NdefX.nscope_by (sc := defScope s_TooMany___init__) (by decide +kernel)) rfl rfl rfl (by show (defScope s_TooMany___init__).names.lookup _ = _; decide +kernel) (by show (defScope s_TooMany___init__).names.lookup _ = _; decide +kernel) (by show (defScope s_TooMany___init__).names.lookup _ = _; decide +kernel) (by decide +kernel) (by decide) (by decide) hn_TooMany (fun _ => rfl) G__copied
  have XF_TooMany : XfC K E_TooMany := ⟨kg_TooMany, kgg_TooMany, x4_TooMany, kh_TooMany⟩
  have EH_TooMany : PySem.W.EhExc K E_TooMany := ⟨kg_TooMany, kgg_TooMany, x4_TooMany, kh_TooMany, c1_TooMany, cc2, cc3, mo_TooMany⟩
  have P_TooMany : KeepC l.prog w K mg base E_TooMany "TooMany" "limit" := ⟨PySem.W.mg_of X G x1_TooMany, ⟨_, _, _, _, _, _, _, baseOE, O_TooMany, a_TooMany___init__, y_TooMany___init__, K_TooMany, b_TooMany___init__, by show 2 ≤ 1000; decide⟩, EH_TooMany, XF_TooMany, kn_TooMany⟩
  have O_Refused : OexB K E_Refused "ArithmeticError" "ArithmeticError.__new__" "ArithmeticError.__init__" aeB := ⟨kq_Refused, kv_Refused, kh_Refused, ks_Refused, x4_Refused, kb_Refused, x5_Refused, x3_Refused, kt_Refused, ku_Refused, km_Refused⟩
  obtain ⟨cd_Refused, hcd_Refused⟩ := Option.isSome_iff_exists.mp (show (PySem.W.clsIn K E_Refused).isSome = true from x6_Refused)
  have IE_Refused : InitE l.prog K E_Refused g_Refused___init__ ⟨"__init__", "Refused.__init__", defArgs s_Refused___init__, defBody s_Refused___init__, defScope s_Refused___init__, [("__class__", ce_Refused___init__)], cc_Refused___init__⟩ _ := ⟨ce_Refused___init__, cc_Refused___init__, oc_Refused___init__, kV_Refused___init__, dc_Refused___init__, pm_Refused___init__, ct_Refused___init__, xc_Refused___init__, zc_Refused___init__, od_Refused___init__, an_Refused___init__, xd_Refused___init__, zd_Refused___init__, sl_Refused___init__, xs_Refused___init__, zs_Refused___init__, xv_Refused___init__, fl_Refused___init__, ft_Refused___init__, cd_Refused, rfl, rfl, rfl, l_Refused___init__, c_Refused___init__, lc_Refused___init__, lv_Refused___init__, lf_Refused___init__, le_Refused___init__, hcd_Refused, ln_Refused___init__⟩
  have b_Refused___init__ : Binds K _ ["self", "cause"] [] := Binds.all (fd := PySem.W.fnX "__init__" "Refused.__init__" (defArgs s_Refused___init__) (defBody s_Refused___init__) (defScope s_Refused___init__) [("__class__", ce_Refused___init__)] .none kV_Refused___init__ dc_Refused___init__ pm_Refused___init__ an_Refused___init__ (.ref cc_Refused___init__) ct_Refused___init__) fun us hl => match us, hl with | [_, _], _ => rfl
  have hn_Refused : PySem.W.takerIn K E_Refused "cause" = some none := by unfold PySem.W.takerIn; rw [kn_Refused]; rfl
  have K_Refused : FnOk l.prog w K mg base CX0 4 g_Refused___init__ _ ["self", "cause"] (spKeepC K E_Refused "cause" 2) := ok_keepC (n := 2) (msg := "the change is refused") baseAE O_Refused T.super_ IE_Refused (NdefX.nscope_by (sc := defScope s_Refused___init__) (by decide +kernel)) rfl rfl rfl (by show (defScope s_Refused___init__).names.lookup _ = _; decide +kernel) (by show (defScope s_Refused___init__).names.lookup _ = _; decide +kernel) (by show (defScope s_Refused___init__).names.lookup _ = _; decide +kernel) (by decide +kernel) (by decide) (by decide) hn_Refused (fun _ => rfl) G__copied
  have XF_Refused : XfC K E_Refused := ⟨kg_Refused, kgg_Refused, x4_Refused, kh_Refused⟩
  have EH_Refused : PySem.W.EhExc K E_Refused := ⟨kg_Refused, kgg_Refused, x4_Refused, kh_Refused, c1_Refused, cc2, cc3, mo_Refused⟩
  have P_Refused : KeepC l.prog w K mg base E_Refused "Refused" "cause" := ⟨PySem.W.mg_of X G x1_Refused, ⟨_, _, _, _, _, _, _, baseAE, O_Refused, a_Refused___init__, y_Refused___init__, K_Refused, b_Refused___init__, by show 2 ≤ 1000; decide⟩, EH_Refused, XF_Refused, kn_Refused⟩
  have O_InvalidNumber : OexB K E_InvalidNumber "RuntimeError" "RuntimeError.__new__" "RuntimeError.__init__" reB := ⟨kq_InvalidNumber, kv_InvalidNumber, kh_InvalidNumber, ks_InvalidNumber, x4_InvalidNumber, kb_InvalidNumber, x5_InvalidNumber, x3_InvalidNumber, kt_InvalidNumber, ku_InvalidNumber, km_InvalidNumber⟩
  obtain ⟨cd_InvalidNumber, hcd_InvalidNumber⟩ := Option.isSome_iff_exists.mp (show (PySem.W.clsIn K E_InvalidNumber).isSome = true from x6_InvalidNumber)
  have IE_InvalidNumber : InitE l.prog K E_InvalidNumber g_InvalidNumber___init__ ⟨"__init__", "InvalidNumber.__init__", defArgs s_InvalidNumber___init__, defBody s_InvalidNumber___init__, defScope s_InvalidNumber___init__, [("__class__", ce_InvalidNumber___init__)], cc_InvalidNumber___init__⟩ _ := ⟨ce_InvalidNumber___init__, cc_InvalidNumber___init__, oc_InvalidNumber___init__, kV_InvalidNumber___init__, dc_InvalidNumber___init__, pm_InvalidNumber___init__, ct_InvalidNumber___init__, xc_InvalidNumber___init__, zc_InvalidNumber___init__, od_InvalidNumber___init__, an_InvalidNumber___init__, xd_InvalidNumber___init__, zd_InvalidNumber___init__, sl_InvalidNumber___init__, xs_InvalidNumber___init__, zs_InvalidNumber___init__, xv_InvalidNumber___init__, fl_InvalidNumber___init__, ft_InvalidNumber___init__, cd_InvalidNumber, rfl, rfl, rfl, l_InvalidNumber___init__, c_InvalidNumber___init__, lc_InvalidNumber___init__, lv_InvalidNumber___init__, lf_InvalidNumber___init__, le_InvalidNumber___init__, hcd_InvalidNumber, ln_InvalidNumber___init__⟩
  have b_InvalidNumber___init__ : Binds K _ ["self", "number"] [] := Binds.all (fd := PySem.W.fnX "__init__" "InvalidNumber.__init__" (defArgs s_InvalidNumber___init__) (defBody s_InvalidNumber___init__) (defScope s_InvalidNumber___init__) [("__class__", ce_InvalidNumber___init__)] .none kV_InvalidNumber___init__ dc_InvalidNumber___init__ pm_InvalidNumber___init__ an_InvalidNumber___init__ (.ref cc_InvalidNumber___init__) ct_InvalidNumber___init__) fun us hl => match us, hl with | [_, _], _ => rfl
  have hn_InvalidNumber : PySem.W.takerIn K E_InvalidNumber "number" = some none := by unfold PySem.W.takerIn; rw [kn_InvalidNumber]; rfl
  have K_InvalidNumber : FnOk l.prog w K mg base CX0 4 g_InvalidNumber___init__ _ ["self", "number"] (spKeepC K E_InvalidNumber "number" 2) := ok_keepC (n := 2) (msg := "the number cannot stand here") baseRE O_InvalidNumber T.super_ IE_InvalidNumber (NdefX.nscope_by (sc := defScope s_InvalidNumber___init__) (by decide +kernel)) rfl rfl rfl (by show (defScope s_InvalidNumber___init__).names.lookup _ = _; decide +kernel) (by show (defScope s_InvalidNumber___init__).names.lookup _ = _; decide +kernel) (by show (defScope s_InvalidNumber___init__).names.lookup _ = _; decide +kernel) (by decide +kernel) (by decide) (by decide) hn_InvalidNumber (fun _ => rfl) G__copied
  have XF_InvalidNumber : XfC K E_InvalidNumber := ⟨kg_InvalidNumber, kgg_InvalidNumber, x4_InvalidNumber, kh_InvalidNumber⟩
  have EH_InvalidNumber : PySem.W.EhExc K E_InvalidNumber := ⟨kg_InvalidNumber, kgg_InvalidNumber, x4_InvalidNumber, kh_InvalidNumber, c1_InvalidNumber, cc2, cc3, mo_InvalidNumber⟩
  have P_InvalidNumber : KeepC l.prog w K mg base E_InvalidNumber "InvalidNumber" "number" := ⟨PySem.W.mg_of X G x1_InvalidNumber, ⟨_, _, _, _, _, _, _, baseRE, O_InvalidNumber, a_InvalidNumber___init__, y_InvalidNumber___init__, K_InvalidNumber, b_InvalidNumber___init__, by show 2 ≤ 1000; decide⟩, EH_InvalidNumber, XF_InvalidNumber, kn_InvalidNumber⟩
  let O : Own K mg := ⟨E_InvalidWord, E_InvalidPromise, E_InvalidPlace, E_InvalidCall, E_InvalidRun, E_InvalidWorld, E_InvalidPlan, E_InvalidBook, E_InvalidOperation, E_ParseError, E_PromiseError, E_UnknownFact, E_NotKept, E_NothingToUndo, E_TooMany, E_Refused, E_InvalidNumber, PySem.W.mg_of X G x1_InvalidWord, PySem.W.mg_of X G x1_InvalidPromise, PySem.W.mg_of X G x1_InvalidPlace, PySem.W.mg_of X G x1_InvalidCall, PySem.W.mg_of X G x1_InvalidRun, PySem.W.mg_of X G x1_InvalidWorld, PySem.W.mg_of X G x1_InvalidPlan, PySem.W.mg_of X G x1_InvalidBook, PySem.W.mg_of X G x1_InvalidOperation, PySem.W.mg_of X G x1_ParseError, PySem.W.mg_of X G x1_PromiseError, PySem.W.mg_of X G x1_UnknownFact, PySem.W.mg_of X G x1_NotKept, PySem.W.mg_of X G x1_NothingToUndo, PySem.W.mg_of X G x1_TooMany, PySem.W.mg_of X G x1_Refused, PySem.W.mg_of X G x1_InvalidNumber, PySem.W.mg_none_of X G zb_ValueError, PySem.W.mg_none_of X G zb_KeyError, PySem.W.mg_none_of X G zb_IndexError, PySem.W.mg_none_of X G zb_LookupError, PySem.W.mg_none_of X G zb_OverflowError, PySem.W.mg_none_of X G zb_ArithmeticError, PySem.W.mg_none_of X G zb_RuntimeError⟩
  have F__law_kinds := fun_mk (st := s__law_kinds) l__law_kinds c__law_kinds k__law_kinds
  have b__law_kinds := F__law_kinds.binds (ps := ["error"]) fun _ _ _ _ _ _ us hl => match us, hl with | [_], _ => rfl
  have m__law_kinds := PySem.W.mg_of X G a__law_kinds
  have G__law_kinds : Cal l.prog w K mg base 1 "_law_kinds" f__law_kinds _ ["error"] (spBits K O.k1) := ⟨ok_kinds F__law_kinds T O, m__law_kinds, k__law_kinds, b__law_kinds⟩
  have F__law_others := fun_mk (st := s__law_others) l__law_others c__law_others k__law_others
  have b__law_others := F__law_others.binds (ps := ["error"]) fun _ _ _ _ _ _ us hl => match us, hl with | [_], _ => rfl
  have m__law_others := PySem.W.mg_of X G a__law_others
  have G__law_others : Cal l.prog w K mg base 1 "_law_others" f__law_others _ ["error"] (spBits K O.k2) := ⟨ok_others F__law_others T O, m__law_others, k__law_others, b__law_others⟩
  have F__law_right := fun_mk (st := s__law_right) l__law_right c__law_right k__law_right
  have b__law_right := F__law_right.binds (ps := ["dice"]) fun _ _ _ _ _ _ us hl => match us, hl with | [_], _ => rfl
  have m__law_right := PySem.W.mg_of X G a__law_right
  have G_right : FnG l.prog w K mg base 6 f__law_right _ ["dice"] (spRight0 K) := ok_right F__law_right T O G__law_pick G__law_kinds G__law_others P_InvalidWord P_InvalidPromise P_InvalidPlace P_InvalidCall P_InvalidRun P_InvalidWorld P_InvalidPlan P_InvalidBook P_InvalidOperation P_PromiseError P_ParseError P_UnknownFact P_NotKept P_NothingToUndo P_TooMany P_Refused P_InvalidNumber (row_of rk_InvalidWord) (row_of ro_InvalidWord) (row_of rk_InvalidPromise) (row_of ro_InvalidPromise) (row_of rk_InvalidPlace) (row_of ro_InvalidPlace) (row_of rk_InvalidCall) (row_of ro_InvalidCall) (row_of rk_InvalidRun) (row_of ro_InvalidRun) (row_of rk_InvalidWorld) (row_of ro_InvalidWorld) (row_of rk_InvalidPlan) (row_of ro_InvalidPlan) (row_of rk_InvalidBook) (row_of ro_InvalidBook) (row_of rk_InvalidOperation) (row_of ro_InvalidOperation) (row_of rk_PromiseError) (row_of ro_PromiseError) (row_of rk_ParseError) (row_of ro_ParseError) (row_of rk_UnknownFact) (row_of ro_UnknownFact) (row_of rk_NotKept) (row_of ro_NotKept) (row_of rk_NothingToUndo) (row_of ro_NothingToUndo) (row_of rk_TooMany) (row_of ro_TooMany) (row_of rk_Refused) (row_of ro_Refused) (row_of rk_InvalidNumber) (row_of ro_InvalidNumber)
  have F_law := fun_mk (st := s_law) l_law c_law k_law
  have b_law := F_law.binds (ps := ["script"]) fun _ _ _ _ _ _ us hl => match us, hl with | [_], _ => rfl
  have m_law := PySem.W.mg_of X G a_law
  exact ok_law F_law T G__law_dice G_right m__law_right k__law_right b__law_right P_ParseError P_TooMany
end Eh

set_option Elab.async false
set_option linter.all false
set_option maxRecDepth 100000
set_option maxHeartbeats 8000000
set_option pp.deepTerms false
set_option pp.maxSteps 30
open PySem PySem.W PyProof.Rows
set_option maxHeartbeats 0 in
theorem PySem.Challenge.cw_eitherhand_k00_errors_and_what_they_keep_holds : PySem.Challenge.rw_eitherhand_k00_errors_and_what_they_keep.Holds := by
  w_on; o_law; k_head; (case hw => w_witness2)
  k_fill
  refine Eh.walk_ofG (l := PySem.Challenge.rw_eitherhand_k00_errors_and_what_they_keep) (n := 63) (k := 7) (x := "script") (sp := fun w => Eh.spLaw0 _) rfl (by decide) rfl ⟨rfl, by decide, by decide⟩ (fun w h Y => PySem.W.kIn_of Y) ?F (fun _ _ a ns hl hS => ⟨a, ns, rfl, hS, hl, fun _ => rfl⟩)
  case F =>
    intro w mg fa h KX G hmg
    refine' Eh.all_mk KX G hmg  ?cc2 ?cc3 ?zb_ValueError ?zb_KeyError ?zb_IndexError ?zb_LookupError ?zb_OverflowError ?zb_ArithmeticError ?zb_RuntimeError ?x1_InvalidWord ?x2_InvalidWord ?x3_InvalidWord ?x4_InvalidWord ?kh_InvalidWord ?kg_InvalidWord ?kgg_InvalidWord ?st_InvalidWord ?x1_InvalidPromise ?x2_InvalidPromise ?x3_InvalidPromise ?x4_InvalidPromise ?kh_InvalidPromise ?kg_InvalidPromise ?kgg_InvalidPromise ?st_InvalidPromise ?x1_InvalidPlace ?x2_InvalidPlace ?x3_InvalidPlace ?x4_InvalidPlace ?kh_InvalidPlace ?kg_InvalidPlace ?kgg_InvalidPlace ?st_InvalidPlace ?x1_InvalidCall ?x2_InvalidCall ?x3_InvalidCall ?x4_InvalidCall ?kh_InvalidCall ?kg_InvalidCall ?kgg_InvalidCall ?st_InvalidCall ?x1_InvalidRun ?x2_InvalidRun ?x3_InvalidRun ?x4_InvalidRun ?kh_InvalidRun ?kg_InvalidRun ?kgg_InvalidRun ?st_InvalidRun ?x1_InvalidWorld ?x2_InvalidWorld ?x3_InvalidWorld ?x4_InvalidWorld ?kh_InvalidWorld ?kg_InvalidWorld ?kgg_InvalidWorld ?st_InvalidWorld ?x1_InvalidPlan ?x2_InvalidPlan ?x3_InvalidPlan ?x4_InvalidPlan ?kh_InvalidPlan ?kg_InvalidPlan ?kgg_InvalidPlan ?st_InvalidPlan ?x1_InvalidBook ?x2_InvalidBook ?x3_InvalidBook ?x4_InvalidBook ?kh_InvalidBook ?kg_InvalidBook ?kgg_InvalidBook ?st_InvalidBook ?x1_InvalidOperation ?x2_InvalidOperation ?x3_InvalidOperation ?x4_InvalidOperation ?kh_InvalidOperation ?kg_InvalidOperation ?kgg_InvalidOperation ?st_InvalidOperation ?x1_PromiseError ?x2_PromiseError ?x3_PromiseError ?x4_PromiseError ?kh_PromiseError ?kg_PromiseError ?kgg_PromiseError ?st_PromiseError ?c1_InvalidWord ?mo_InvalidWord ?c1_InvalidPromise ?mo_InvalidPromise ?c1_InvalidPlace ?mo_InvalidPlace ?c1_InvalidCall ?mo_InvalidCall ?c1_InvalidRun ?mo_InvalidRun ?c1_InvalidWorld ?mo_InvalidWorld ?c1_InvalidPlan ?mo_InvalidPlan ?c1_InvalidBook ?mo_InvalidBook ?c1_InvalidOperation ?mo_InvalidOperation ?c1_PromiseError ?mo_PromiseError ?a__law_roll ?l__law_roll ?c__law_roll ?k__law_roll ?a__law_pick ?l__law_pick ?c__law_pick ?k__law_pick ?a__law_dice ?l__law_dice ?c__law_dice ?k__law_dice ?a__copied ?l__copied ?c__copied ?k__copied ?x1_ParseError ?kq_ParseError ?kv_ParseError ?kh_ParseError ?ks_ParseError ?x4_ParseError ?kb_ParseError ?x5_ParseError ?x3_ParseError ?kt_ParseError ?x6_ParseError ?x7_ParseError ?km_ParseError ?ku_ParseError ?kn_ParseError ?kg_ParseError ?kgg_ParseError ?a_ParseError___init__ ?y_ParseError___init__ ?l_ParseError___init__ ?c_ParseError___init__ ?lc_ParseError___init__ ?lv_ParseError___init__ ?lf_ParseError___init__ ?le_ParseError___init__ ?ln_ParseError___init__ ?c1_ParseError ?mo_ParseError ?x1_UnknownFact ?kq_UnknownFact ?kv_UnknownFact ?kh_UnknownFact ?ks_UnknownFact ?x4_UnknownFact ?kb_UnknownFact ?x5_UnknownFact ?x3_UnknownFact ?kt_UnknownFact ?x6_UnknownFact ?x7_UnknownFact ?km_UnknownFact ?ku_UnknownFact ?kn_UnknownFact ?kg_UnknownFact ?kgg_UnknownFact ?a_UnknownFact___init__ ?y_UnknownFact___init__ ?l_UnknownFact___init__ ?c_UnknownFact___init__ ?lc_UnknownFact___init__ ?lv_UnknownFact___init__ ?lf_UnknownFact___init__ ?le_UnknownFact___init__ ?ln_UnknownFact___init__ ?c1_UnknownFact ?mo_UnknownFact ?x1_NotKept ?kq_NotKept ?kv_NotKept ?kh_NotKept ?ks_NotKept ?x4_NotKept ?kb_NotKept ?x5_NotKept ?x3_NotKept ?kt_NotKept ?x6_NotKept ?x7_NotKept ?km_NotKept ?ku_NotKept ?kn_NotKept ?kg_NotKept ?kgg_NotKept ?a_NotKept___init__ ?y_NotKept___init__ ?l_NotKept___init__ ?c_NotKept___init__ ?lc_NotKept___init__ ?lv_NotKept___init__ ?lf_NotKept___init__ ?le_NotKept___init__ ?ln_NotKept___init__ ?c1_NotKept ?mo_NotKept ?x1_NothingToUndo ?kq_NothingToUndo ?kv_NothingToUndo ?kh_NothingToUndo ?ks_NothingToUndo ?x4_NothingToUndo ?kb_NothingToUndo ?x5_NothingToUndo ?x3_NothingToUndo ?kt_NothingToUndo ?x6_NothingToUndo ?x7_NothingToUndo ?km_NothingToUndo ?ku_NothingToUndo ?kn_NothingToUndo ?kg_NothingToUndo ?kgg_NothingToUndo ?a_NothingToUndo___init__ ?y_NothingToUndo___init__ ?l_NothingToUndo___init__ ?c_NothingToUndo___init__ ?lc_NothingToUndo___init__ ?lv_NothingToUndo___init__ ?lf_NothingToUndo___init__ ?le_NothingToUndo___init__ ?ln_NothingToUndo___init__ ?c1_NothingToUndo ?mo_NothingToUndo ?x1_TooMany ?kq_TooMany ?kv_TooMany ?kh_TooMany ?ks_TooMany ?x4_TooMany ?kb_TooMany ?x5_TooMany ?x3_TooMany ?kt_TooMany ?x6_TooMany ?x7_TooMany ?km_TooMany ?ku_TooMany ?kn_TooMany ?kg_TooMany ?kgg_TooMany ?a_TooMany___init__ ?y_TooMany___init__ ?l_TooMany___init__ ?c_TooMany___init__ ?lc_TooMany___init__ ?lv_TooMany___init__ ?lf_TooMany___init__ ?le_TooMany___init__ ?ln_TooMany___init__ ?c1_TooMany ?mo_TooMany ?x1_Refused ?kq_Refused ?kv_Refused ?kh_Refused ?ks_Refused ?x4_Refused ?kb_Refused ?x5_Refused ?x3_Refused ?kt_Refused ?x6_Refused ?x7_Refused ?km_Refused ?ku_Refused ?kn_Refused ?kg_Refused ?kgg_Refused ?a_Refused___init__ ?y_Refused___init__ ?l_Refused___init__ ?c_Refused___init__ ?lc_Refused___init__ ?lv_Refused___init__ ?lf_Refused___init__ ?le_Refused___init__ ?ln_Refused___init__ ?c1_Refused ?mo_Refused ?x1_InvalidNumber ?kq_InvalidNumber ?kv_InvalidNumber ?kh_InvalidNumber ?ks_InvalidNumber ?x4_InvalidNumber ?kb_InvalidNumber ?x5_InvalidNumber ?x3_InvalidNumber ?kt_InvalidNumber ?x6_InvalidNumber ?x7_InvalidNumber ?km_InvalidNumber ?ku_InvalidNumber ?kn_InvalidNumber ?kg_InvalidNumber ?kgg_InvalidNumber ?a_InvalidNumber___init__ ?y_InvalidNumber___init__ ?l_InvalidNumber___init__ ?c_InvalidNumber___init__ ?lc_InvalidNumber___init__ ?lv_InvalidNumber___init__ ?lf_InvalidNumber___init__ ?le_InvalidNumber___init__ ?ln_InvalidNumber___init__ ?c1_InvalidNumber ?mo_InvalidNumber ?rk_InvalidWord ?ro_InvalidWord ?rk_InvalidPromise ?ro_InvalidPromise ?rk_InvalidPlace ?ro_InvalidPlace ?rk_InvalidCall ?ro_InvalidCall ?rk_InvalidRun ?ro_InvalidRun ?rk_InvalidWorld ?ro_InvalidWorld ?rk_InvalidPlan ?ro_InvalidPlan ?rk_InvalidBook ?ro_InvalidBook ?rk_InvalidOperation ?ro_InvalidOperation ?rk_PromiseError ?ro_PromiseError ?rk_ParseError ?ro_ParseError ?rk_UnknownFact ?ro_UnknownFact ?rk_NotKept ?ro_NotKept ?rk_NothingToUndo ?ro_NothingToUndo ?rk_TooMany ?ro_TooMany ?rk_Refused ?ro_Refused ?rk_InvalidNumber ?ro_InvalidNumber ?a__law_kinds ?l__law_kinds ?c__law_kinds ?k__law_kinds ?a__law_others ?l__law_others ?c__law_others ?k__law_others ?a__law_right ?l__law_right ?c__law_right ?k__law_right ?a_law ?l_law ?c_law ?k_law ?z_isinstance ?z_list ?z_tuple ?z_dict ?z_range ?z_len ?z_int ?z_max ?z_repr ?z_abs ?z_min ?z_super ?z_str
    (case cc2 => k_is); (case cc3 => k_is); (case zb_ValueError => k_is); (case zb_KeyError => k_is); (case zb_IndexError => k_is); (case zb_LookupError => k_is); (case zb_OverflowError => k_is); (case zb_ArithmeticError => k_is); (case zb_RuntimeError => k_is); (case x1_InvalidWord => k_is); (case x2_InvalidWord => k_exc); (case x3_InvalidWord => k_is); (case x4_InvalidWord => k_is); (case kh_InvalidWord => k_is); (case kg_InvalidWord => k_is); (case kgg_InvalidWord => k_is); (case st_InvalidWord => k_is); (case x1_InvalidPromise => k_is); (case x2_InvalidPromise => k_exc); (case x3_InvalidPromise => k_is); (case x4_InvalidPromise => k_is); (case kh_InvalidPromise => k_is); (case kg_InvalidPromise => k_is); (case kgg_InvalidPromise => k_is); (case st_InvalidPromise => k_is); (case x1_InvalidPlace => k_is); (case x2_InvalidPlace => k_exc); (case x3_InvalidPlace => k_is); (case x4_InvalidPlace => k_is); (case kh_InvalidPlace => k_is); (case kg_InvalidPlace => k_is); (case kgg_InvalidPlace => k_is); (case st_InvalidPlace => k_is); (case x1_InvalidCall => k_is); (case x2_InvalidCall => k_exc); (case x3_InvalidCall => k_is); (case x4_InvalidCall => k_is); (case kh_InvalidCall => k_is); (case kg_InvalidCall => k_is); (case kgg_InvalidCall => k_is); (case st_InvalidCall => k_is); (case x1_InvalidRun => k_is); (case x2_InvalidRun => k_exc); (case x3_InvalidRun => k_is); (case x4_InvalidRun => k_is); (case kh_InvalidRun => k_is); (case kg_InvalidRun => k_is); (case kgg_InvalidRun => k_is); (case st_InvalidRun => k_is); (case x1_InvalidWorld => k_is); (case x2_InvalidWorld => k_exc); (case x3_InvalidWorld => k_is); (case x4_InvalidWorld => k_is); (case kh_InvalidWorld => k_is); (case kg_InvalidWorld => k_is); (case kgg_InvalidWorld => k_is); (case st_InvalidWorld => k_is); (case x1_InvalidPlan => k_is); (case x2_InvalidPlan => k_exc); (case x3_InvalidPlan => k_is); (case x4_InvalidPlan => k_is); (case kh_InvalidPlan => k_is); (case kg_InvalidPlan => k_is); (case kgg_InvalidPlan => k_is); (case st_InvalidPlan => k_is); (case x1_InvalidBook => k_is); (case x2_InvalidBook => k_exc); (case x3_InvalidBook => k_is); (case x4_InvalidBook => k_is); (case kh_InvalidBook => k_is); (case kg_InvalidBook => k_is); (case kgg_InvalidBook => k_is); (case st_InvalidBook => k_is); (case x1_InvalidOperation => k_is); (case x2_InvalidOperation => k_exc); (case x3_InvalidOperation => k_is); (case x4_InvalidOperation => k_is); (case kh_InvalidOperation => k_is); (case kg_InvalidOperation => k_is); (case kgg_InvalidOperation => k_is); (case st_InvalidOperation => k_is); (case x1_PromiseError => k_is); (case x2_PromiseError => k_exc); (case x3_PromiseError => k_is); (case x4_PromiseError => k_is); (case kh_PromiseError => k_is); (case kg_PromiseError => k_is); (case kgg_PromiseError => k_is); (case st_PromiseError => k_is); (case c1_InvalidWord => k_is); (case mo_InvalidWord => k_is); (case c1_InvalidPromise => k_is); (case mo_InvalidPromise => k_is); (case c1_InvalidPlace => k_is); (case mo_InvalidPlace => k_is); (case c1_InvalidCall => k_is); (case mo_InvalidCall => k_is); (case c1_InvalidRun => k_is); (case mo_InvalidRun => k_is); (case c1_InvalidWorld => k_is); (case mo_InvalidWorld => k_is); (case c1_InvalidPlan => k_is); (case mo_InvalidPlan => k_is); (case c1_InvalidBook => k_is); (case mo_InvalidBook => k_is); (case c1_InvalidOperation => k_is); (case mo_InvalidOperation => k_is); (case c1_PromiseError => k_is); (case mo_PromiseError => k_is); (case a__law_roll => k_is); (case l__law_roll => k_is); (case c__law_roll => k_is); (case k__law_roll => k_is); (case a__law_pick => k_is); (case l__law_pick => k_is); (case c__law_pick => k_is); (case k__law_pick => k_is); (case a__law_dice => k_is); (case l__law_dice => k_is); (case c__law_dice => k_is); (case k__law_dice => k_is); (case a__copied => k_is); (case l__copied => k_is); (case c__copied => k_is); (case k__copied => k_is); (case x1_ParseError => k_is); (case kq_ParseError => kx_is); (case kv_ParseError => kx_is); (case kh_ParseError => k_is); (case ks_ParseError => k_is); (case x4_ParseError => k_is); (case kb_ParseError => k_is); (case x5_ParseError => k_is); (case x3_ParseError => k_is); (case kt_ParseError => k_is); (case x6_ParseError => k_is); (case x7_ParseError => k_is); (case km_ParseError => k_is); (case ku_ParseError => ks_is); (case kn_ParseError => k_is); (case kg_ParseError => k_is); (case kgg_ParseError => k_is); (case a_ParseError___init__ => k_is); (case y_ParseError___init__ => k_is); (case l_ParseError___init__ => k_is); (case c_ParseError___init__ => k_is); (case lc_ParseError___init__ => k_is); (case lv_ParseError___init__ => rfl); (case lf_ParseError___init__ => first | rfl | decide +kernel | kernel_rfl); (case le_ParseError___init__ => k_is); (case ln_ParseError___init__ => first | rfl | decide +kernel | kernel_rfl); (case c1_ParseError => k_is); (case mo_ParseError => k_is); (case x1_UnknownFact => k_is); (case kq_UnknownFact => kx_is); (case kv_UnknownFact => kx_is); (case kh_UnknownFact => k_is); (case ks_UnknownFact => k_is); (case x4_UnknownFact => k_is); (case kb_UnknownFact => k_is); (case x5_UnknownFact => k_is); (case x3_UnknownFact => k_is); (case kt_UnknownFact => k_is); (case x6_UnknownFact => k_is); (case x7_UnknownFact => k_is); (case km_UnknownFact => k_is); (case ku_UnknownFact => ks_is); (case kn_UnknownFact => k_is); (case kg_UnknownFact => k_is); (case kgg_UnknownFact => k_is); (case a_UnknownFact___init__ => k_is); (case y_UnknownFact___init__ => k_is); (case l_UnknownFact___init__ => k_is); (case c_UnknownFact___init__ => k_is); (case lc_UnknownFact___init__ => k_is); (case lv_UnknownFact___init__ => rfl); (case lf_UnknownFact___init__ => first | rfl | decide +kernel | kernel_rfl); (case le_UnknownFact___init__ => k_is); (case ln_UnknownFact___init__ => first | rfl | decide +kernel | kernel_rfl); (case c1_UnknownFact => k_is); (case mo_UnknownFact => k_is); (case x1_NotKept => k_is); (case kq_NotKept => kx_is); (case kv_NotKept => kx_is); (case kh_NotKept => k_is); (case ks_NotKept => k_is); (case x4_NotKept => k_is); (case kb_NotKept => k_is); (case x5_NotKept => k_is); (case x3_NotKept => k_is); (case kt_NotKept => k_is); (case x6_NotKept => k_is); (case x7_NotKept => k_is); (case km_NotKept => k_is); (case ku_NotKept => ks_is); (case kn_NotKept => k_is); (case kg_NotKept => k_is); (case kgg_NotKept => k_is); (case a_NotKept___init__ => k_is); (case y_NotKept___init__ => k_is); (case l_NotKept___init__ => k_is); (case c_NotKept___init__ => k_is); (case lc_NotKept___init__ => k_is); (case lv_NotKept___init__ => rfl); (case lf_NotKept___init__ => first | rfl | decide +kernel | kernel_rfl); (case le_NotKept___init__ => k_is); (case ln_NotKept___init__ => first | rfl | decide +kernel | kernel_rfl); (case c1_NotKept => k_is); (case mo_NotKept => k_is); (case x1_NothingToUndo => k_is); (case kq_NothingToUndo => kx_is); (case kv_NothingToUndo => kx_is); (case kh_NothingToUndo => k_is); (case ks_NothingToUndo => k_is); (case x4_NothingToUndo => k_is); (case kb_NothingToUndo => k_is); (case x5_NothingToUndo => k_is); (case x3_NothingToUndo => k_is); (case kt_NothingToUndo => k_is); (case x6_NothingToUndo => k_is); (case x7_NothingToUndo => k_is); (case km_NothingToUndo => k_is); (case ku_NothingToUndo => ks_is); (case kn_NothingToUndo => k_is); (case kg_NothingToUndo => k_is); (case kgg_NothingToUndo => k_is); (case a_NothingToUndo___init__ => k_is); (case y_NothingToUndo___init__ => k_is); (case l_NothingToUndo___init__ => k_is); (case c_NothingToUndo___init__ => k_is); (case lc_NothingToUndo___init__ => k_is); (case lv_NothingToUndo___init__ => rfl); (case lf_NothingToUndo___init__ => first | rfl | decide +kernel | kernel_rfl); (case le_NothingToUndo___init__ => k_is); (case ln_NothingToUndo___init__ => first | rfl | decide +kernel | kernel_rfl); (case c1_NothingToUndo => k_is); (case mo_NothingToUndo => k_is); (case x1_TooMany => k_is); (case kq_TooMany => kx_is); (case kv_TooMany => kx_is); (case kh_TooMany => k_is); (case ks_TooMany => k_is); (case x4_TooMany => k_is); (case kb_TooMany => k_is); (case x5_TooMany => k_is); (case x3_TooMany => k_is); (case kt_TooMany => k_is); (case x6_TooMany => k_is); (case x7_TooMany => k_is); (case km_TooMany => k_is); (case ku_TooMany => ks_is); (case kn_TooMany => k_is); (case kg_TooMany => k_is); (case kgg_TooMany => k_is); (case a_TooMany___init__ => k_is); (case y_TooMany___init__ => k_is); (case l_TooMany___init__ => k_is); (case c_TooMany___init__ => k_is); (case lc_TooMany___init__ => k_is); (case lv_TooMany___init__ => rfl); (case lf_TooMany___init__ => first | rfl | decide +kernel | kernel_rfl); (case le_TooMany___init__ => k_is); (case ln_TooMany___init__ => first | rfl | decide +kernel | kernel_rfl); (case c1_TooMany => k_is); (case mo_TooMany => k_is); (case x1_Refused => k_is); (case kq_Refused => kx_is); (case kv_Refused => kx_is); (case kh_Refused => k_is); (case ks_Refused => k_is); (case x4_Refused => k_is); (case kb_Refused => k_is); (case x5_Refused => k_is); (case x3_Refused => k_is); (case kt_Refused => k_is); (case x6_Refused => k_is); (case x7_Refused => k_is); (case km_Refused => k_is); (case ku_Refused => ks_is); (case kn_Refused => k_is); (case kg_Refused => k_is); (case kgg_Refused => k_is); (case a_Refused___init__ => k_is); (case y_Refused___init__ => k_is); (case l_Refused___init__ => k_is); (case c_Refused___init__ => k_is); (case lc_Refused___init__ => k_is); (case lv_Refused___init__ => rfl); (case lf_Refused___init__ => first | rfl | decide +kernel | kernel_rfl); (case le_Refused___init__ => k_is); (case ln_Refused___init__ => first | rfl | decide +kernel | kernel_rfl); (case c1_Refused => k_is); (case mo_Refused => k_is); (case x1_InvalidNumber => k_is); (case kq_InvalidNumber => kx_is); (case kv_InvalidNumber => kx_is); (case kh_InvalidNumber => k_is); (case ks_InvalidNumber => k_is); (case x4_InvalidNumber => k_is); (case kb_InvalidNumber => k_is); (case x5_InvalidNumber => k_is); (case x3_InvalidNumber => k_is); (case kt_InvalidNumber => k_is); (case x6_InvalidNumber => k_is); (case x7_InvalidNumber => k_is); (case km_InvalidNumber => k_is); (case ku_InvalidNumber => ks_is); (case kn_InvalidNumber => k_is); (case kg_InvalidNumber => k_is); (case kgg_InvalidNumber => k_is); (case a_InvalidNumber___init__ => k_is); (case y_InvalidNumber___init__ => k_is); (case l_InvalidNumber___init__ => k_is); (case c_InvalidNumber___init__ => k_is); (case lc_InvalidNumber___init__ => k_is); (case lv_InvalidNumber___init__ => rfl); (case lf_InvalidNumber___init__ => first | rfl | decide +kernel | kernel_rfl); (case le_InvalidNumber___init__ => k_is); (case ln_InvalidNumber___init__ => first | rfl | decide +kernel | kernel_rfl); (case c1_InvalidNumber => k_is); (case mo_InvalidNumber => k_is); (case rk_InvalidWord => kernel_rfl); (case ro_InvalidWord => kernel_rfl); (case rk_InvalidPromise => kernel_rfl); (case ro_InvalidPromise => kernel_rfl); (case rk_InvalidPlace => kernel_rfl); (case ro_InvalidPlace => kernel_rfl); (case rk_InvalidCall => kernel_rfl); (case ro_InvalidCall => kernel_rfl); (case rk_InvalidRun => kernel_rfl); (case ro_InvalidRun => kernel_rfl); (case rk_InvalidWorld => kernel_rfl); (case ro_InvalidWorld => kernel_rfl); (case rk_InvalidPlan => kernel_rfl); (case ro_InvalidPlan => kernel_rfl); (case rk_InvalidBook => kernel_rfl); (case ro_InvalidBook => kernel_rfl); (case rk_InvalidOperation => kernel_rfl); (case ro_InvalidOperation => kernel_rfl); (case rk_PromiseError => kernel_rfl); (case ro_PromiseError => kernel_rfl); (case rk_ParseError => kernel_rfl); (case ro_ParseError => kernel_rfl); (case rk_UnknownFact => kernel_rfl); (case ro_UnknownFact => kernel_rfl); (case rk_NotKept => kernel_rfl); (case ro_NotKept => kernel_rfl); (case rk_NothingToUndo => kernel_rfl); (case ro_NothingToUndo => kernel_rfl); (case rk_TooMany => kernel_rfl); (case ro_TooMany => kernel_rfl); (case rk_Refused => kernel_rfl); (case ro_Refused => kernel_rfl); (case rk_InvalidNumber => kernel_rfl); (case ro_InvalidNumber => kernel_rfl); (case a__law_kinds => k_is); (case l__law_kinds => k_is); (case c__law_kinds => k_is); (case k__law_kinds => k_is); (case a__law_others => k_is); (case l__law_others => k_is); (case c__law_others => k_is); (case k__law_others => k_is); (case a__law_right => k_is); (case l__law_right => k_is); (case c__law_right => k_is); (case k__law_right => k_is); (case a_law => k_is); (case l_law => k_is); (case c_law => k_is); (case k_law => k_is); (case z_isinstance => k_is); (case z_list => k_is); (case z_tuple => k_is); (case z_dict => k_is); (case z_range => k_is); (case z_len => k_is); (case z_int => k_is); (case z_max => k_is); (case z_repr => k_is); (case z_abs => k_is); (case z_min => k_is); (case z_super => k_is); (case z_str => k_is)

