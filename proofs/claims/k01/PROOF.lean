import PyProof.Rows.All
import Wide.All
import OpenK.AllK
import Wide.FinOn
import PySem.Challenge.RW_eitherhand_k01_facts_judged
import HandS.ForMost
import HandS.Wide
import HandS.IsInst
import HandS.RaiseMore
import HandS.Text
set_option Elab.async false
set_option linter.all false
set_option maxRecDepth 100000
namespace Eh
open PySem PySem.Spec PyProof.Rows L2
/-! ### the text -/
def topS (i : Nat) : Stmt := PySem.Challenge.pw_eitherhand_k01_facts_judged.main.body.getD i (.Pass ⟨0, 0, 0, 0⟩)
/-! ### what is called -/
structure Cal (P : Program) (w : World) (K : PySem.W.Frag) (mg : Str → Option Value) (base : Heap) (k : Nat) (x : Str) (f : Addr) (fd : FuncData) (ps : List Str) (sp : Sp) : Prop where
  G : FnOk P w K mg base CX0 k f fd ps sp
  m : mg x = some (.ref f)
  k : PySem.W.keepIn K (.ref f) = true
  b : Binds K fd ps []
/-- the names of built-ins that the text has not taken -/
structure Txt (mg : Str → Option Value) : Prop where
  len_ : mg "len" = none
  int_ : mg "int" = none
  abs_ : mg "abs" = none
  max_ : mg "max" = none
  min_ : mg "min" = none
  range_ : mg "range" = none
  list_ : mg "list" = none
  str_ : mg "str" = none
  all_ : mg "all" = none
  isinstance_ : mg "isinstance" = none
  repr_ : mg "repr" = none
/-! ### rules that the layer lacks -/
section
variable {X : Cx}
theorem op_powB : OpR X (binaryOp .Pow) (rI (fun i j => 0 ≤ j ∧ (Builtin.Int.intBits i : Int) * j ≤ 2 ^ 27) fun i j => .int (i ^ j.toNat)) :=
  opI fun _ _ _ _ _ _ _ hc q => pow_int hc.1 hc.2 q
theorem call_repr_bl : CallR X (.builtin "repr") (fun xs H Q => ∃ b, xs = [.bl b] ∧ Q (.str (if b then "True" else "False")) H) := by
  intro pins s σ H xs us Q I r h
  obtain ⟨b, rfl, q⟩ := h
  cases r with
  | cons r1 r2 =>
    cases r2
    cases r1
    exact PySem.P.repr_of_bool ⟨.str _, H, I.tok _, ⟨_, rfl⟩, q⟩
end
/-! ### the dice -/
/-- the list of the dice's three numbers stands at d -/
def D3 (H : Hp) (d : Addr) : Prop := ∃ g b c : Int, H d = some (.lst [.int g, .int b, .int c])
/-- from H to H' only the dice at d were turned, and new objects laid -/
structure Gr (d : Addr) (H H' : Hp) : Prop where
  dice : D3 H' d
  keep : ∀ a o, a ≠ d → H a = some o → H' a = some o
theorem Gr.refl {d : Addr} {H : Hp} (h : D3 H d) : Gr d H H := ⟨h, fun _ _ _ e => e⟩
theorem Gr.trans {d : Addr} {H H1 H2 : Hp} (a : Gr d H H1) (b : Gr d H1 H2) : Gr d H H2 := ⟨b.dice, fun p o n e => b.keep p o n (a.keep p o n e)⟩
theorem Gr.laid {d p : Addr} {H : Hp} {o : HO} (h : D3 H d) (n : H p = none) : Gr d H (upd H p o) := by
  obtain ⟨g, b, c, e⟩ := h
  exact ⟨⟨g, b, c, by rw [upd_ne (ne_of_none e n)]; exact e⟩, fun a u _ z => by rw [upd_ne (ne_of_none z n)]; exact z⟩
theorem D3.ne {d p : Addr} {H : Hp} (h : D3 H d) (n : H p = none) : p ≠ d := by
  obtain ⟨g, b, c, e⟩ := h
  exact (ne_of_none e n).symm
theorem Gr.seq {K : PySem.W.Frag} {d a : Addr} {H H' : Hp} {xs : List V} (r : Gr d H H') (n : a ≠ d) (h : SqL K H a xs) : SqL K H' a xs := by
  rcases h with (h | ⟨o, h⟩) | h
  · exact .inl (.inl (r.keep _ _ n h))
  · exact .inl (.inr ⟨o, r.keep _ _ n h⟩)
  · exact .inr h
theorem Gr.put {d l : Addr} {H H' : Hp} {o : HO} (r : Gr d H H') (n : H l = none) (m : l ≠ d) : Gr d H (upd H' l o) := by
  obtain ⟨g, b, c, e⟩ := r.dice
  exact ⟨⟨g, b, c, by rw [upd_ne m.symm]; exact e⟩, fun a u q z => by rw [upd_ne (ne_of_none z n)]; exact r.keep a u q z⟩
theorem Gr.free {d l : Addr} {H H' : Hp} (r : Gr d H H') (h : D3 H d) (n : H' l = none) : H l = none := by
  cases q : H l with
  | none => rfl
  | some o =>
    by_cases e : l = d
    · obtain ⟨g, b, c, z⟩ := r.dice
      rw [e, z] at n
      cases n
    · rw [r.keep l o e q] at n
      cases n
section
variable {P : Program} {w : World} {K : PySem.W.Frag} {mg : Str → Option Value} {base : Heap}
abbrev s__law_roll : Stmt := topS 5
theorem sc__law_roll : FnScope ["dice", "many", "found", "one", "two"] ["dice", "many"] (defScope s__law_roll) := ⟨rfl, rfl, rfl, by decide +kernel, rfl, by decide +kernel, by decide +kernel⟩
def spRoll : Sp := fun vs H Q _ => ∃ (d : Addr) (many : Int), vs = [.ref d, .int many] ∧ D3 H d ∧ 0 < many ∧ many < 1073741824 ∧
  ∀ (r : Int) H', 0 ≤ r → r < many → D3 H' d → (∀ a, a ≠ d → H' a = H a) → Q (.int r) H'
theorem fmod_in {i m : Int} (h : 0 < m) : 0 ≤ i.fmod m ∧ i.fmod m < m := by
  rw [Int.fmod_eq_emod_of_nonneg i (by omega)]
  exact ⟨Int.emod_nonneg i (by omega), Int.emod_lt_of_pos i h⟩
theorem in64 {x : Int} (h : 0 ≤ x ∧ x < 2305843009213693951) : -(2 ^ 64) < x ∧ x < 2 ^ 64 := by omega
theorem in64' {x : Int} (h : 0 ≤ x ∧ x < 2305843009213693807) : -(2 ^ 64) < x ∧ x < 2 ^ 64 := by omega
theorem m1N : (2305843009213693951 : Int) ≠ 0 := by decide
theorem m2N : (2305843009213693807 : Int) ≠ 0 := by decide
theorem m3N : (2305843009213693537 : Int) ≠ 0 := by decide
theorem d8N : (8192 : Int) ≠ 0 ∧ (8192 : Int).natAbs < 1073741824 := by decide
theorem ok_roll {f : Addr} {fd : FuncData} (F : Fun K "_law_roll" "_law_roll" s__law_roll f fd) (T : Txt mg) : FnOk P w K mg base CX0 1 f fd ["dice", "many"] spRoll := by
  refine F.ok sc__law_roll (fun vs H Q E h => ?_) (fun cdv A outer s H vs Q E hr h => ?_)
  · obtain ⟨d, m, rfl, _⟩ := h
    rfl
  · obtain ⟨d, m, rfl, ⟨g, b, c, eH⟩, m0, m1, q⟩ := h
    refine ⟨_, (pss_cons (ps_if (pt_cmpR op_gt (pe_ix ix_list (pv 0) pe_int (fun _ _ => rfl)) pe_int (nomark _))
  (pss_cons (ps_set (i := 2) sc__law_roll.nd rfl (.inl rfl) (pe_op op_modN (pe_callTy call_int1 (by rfl) T.int_ (by decide +kernel) (pa_cons (pe_ix ix_list (pv 0) pe_int (fun _ _ => rfl)) pa_nil)) (pv 1)))
  (pss_cons (ps_asg (pe_op op_fdivN (pe_ix ix_list (pv 0) pe_int (fun _ _ => rfl)) (pv 1)) (pg_sub (pv 0) pe_int set_list))
  (pss_one (ps_ret (pv 2)))))
  pss_nil)
  (pss_cons (ps_asg (pe_op op_add (pe_ix ix_list (pv 0) pe_int (fun _ _ => rfl)) pe_int) (pg_sub (pv 0) pe_int set_list))
  (pss_cons (ps_set (i := 3) sc__law_roll.nd rfl (.inl rfl) (pe_op op_modN (pe_callTy call_int1 (by rfl) T.int_ (by decide +kernel) (pa_cons (pe_op op_add (pe_ix ix_list (pv 0) pe_int (fun _ _ => rfl)) (pe_op op_mul pe_int (pe_ix ix_list (pv 0) pe_int (fun _ _ => rfl)))) pa_nil)) pe_int))
  (pss_cons (ps_set (i := 4) sc__law_roll.nd rfl (.inl rfl) (pe_op op_add (pe_op op_mul (pe_op op_modN (pe_callTy call_int1 (by rfl) T.int_ (by decide +kernel) (pa_cons (pe_op op_mul (pv 3) (pv 3)) pa_nil)) pe_int) (pv 3)) (pe_op op_mul pe_int (pe_ix ix_list (pv 0) pe_int (fun _ _ => rfl)))))
  (pss_cons (ps_set (i := 4) sc__law_roll.nd rfl (.inl rfl) (pe_op op_modN (pe_callTy call_int1 (by rfl) T.int_ (by decide +kernel) (pa_cons (pv 4) pa_nil)) pe_int))
  (pss_one (ps_ret (pe_op op_modN (pe_callTy call_int1 (by rfl) T.int_ (by decide +kernel) (pa_cons (pe_op op_fdivN (pv 4) pe_int) pa_nil)) (pv 1))))))))), ?_⟩
    refine ⟨_, rfl, d, _, 0, _, rfl, rfl, SqL.of eH, atI_nat (j := 0) rfl, g, 0, rfl, rfl, _, rfl, ite2 (fun _ => ?_) (fun _ => ?_)⟩
    · refine ⟨_, rfl, d, _, 0, _, rfl, rfl, SqL.of eH, atI_nat (j := 0) rfl, .inl ⟨g, rfl, ?_⟩⟩
      refine ⟨_, rfl, g, m, rfl, rfl, by omega, ?_⟩
      refine ⟨_, rfl, d, _, 0, _, rfl, rfl, SqL.of eH, atI_nat (j := 0) rfl, _, rfl, g, m, rfl, rfl, ⟨by omega, by omega⟩, ?_⟩
      refine ⟨_, rfl, d, _, 0, 0, rfl, rfl, eH, rfl, ?_⟩
      refine ⟨_, rfl, q _ _ (fmod_in m0).1 (fmod_in m0).2 ⟨_, b, c, upd_same⟩ fun a n => upd_ne n⟩
    · refine ⟨_, rfl, d, _, 2, _, rfl, rfl, SqL.of eH, atI_nat (j := 2) rfl, c, 1, rfl, rfl, ?_⟩
      refine ⟨_, rfl, d, _, 2, 2, rfl, rfl, eH, rfl, ?_⟩
      have e1 : (upd H d (.lst [.int g, .int b, .int (c + 1)])) d = some (.lst [.int g, .int b, .int (c + 1)]) := upd_same
      refine ⟨_, rfl, d, _, 1, _, rfl, rfl, SqL.of e1, atI_nat (j := 1) rfl, _, rfl, d, _, 2, _, rfl, rfl, SqL.of e1, atI_nat (j := 2) rfl, _, _, rfl, rfl, .inl ⟨by decide, by decide⟩, _, _, rfl, rfl, .inl ⟨_, rfl, ?_⟩⟩
      refine ⟨_, _, rfl, rfl, m1N, ?_⟩
      refine ⟨_, rfl, _, rfl, _, _, rfl, rfl, .inl (in64 (fmod_in (by decide))), .inl ⟨_, rfl, ?_⟩⟩
      refine ⟨_, _, rfl, rfl, m2N, ?_⟩
      refine ⟨_, rfl, _, _, rfl, rfl, .inl (in64' (fmod_in (by decide))), ?_⟩
      refine ⟨_, rfl, d, _, 2, _, rfl, rfl, SqL.of e1, atI_nat (j := 2) rfl, _, _, rfl, rfl, .inl ⟨by decide, by decide⟩, _, _, rfl, rfl, ?_⟩
      refine ⟨_, rfl, .inl ⟨_, rfl, _, _, rfl, rfl, m3N, ?_⟩⟩
      refine ⟨_, rfl, _, _, rfl, rfl, d8N, .inl ⟨_, rfl, _, rfl, _, m, rfl, rfl, by omega, ?_⟩⟩
      exact q _ _ (fmod_in m0).1 (fmod_in m0).2 ⟨g, b, _, upd_same⟩ fun a n => upd_ne n
end
end Eh

set_option Elab.async false
set_option linter.all false
set_option maxRecDepth 100000
namespace Eh
open PySem PySem.Spec PyProof.Rows L2
/-! ### the rules with the written part named (within a comprehension the context's own name of it is out of reach) -/
section
variable {X : Cx} {K : PySem.W.Frag}
theorem ixL (h : X.K = K) : IxR X (rIxL K) := by subst h; exact ix_list
theorem ixT (h : X.K = K) : IxR X (rIxT K) := by subst h; exact ix_tup
theorem slL (h : X.K = K) : SlR X (rSlL K) := by subst h; exact sl_list
theorem inQ (h : X.K = K) : OpR X (compareOp .In) (rIn K false) := by subst h; exact op_in_seq
theorem niQ (h : X.K = K) : OpR X (compareOp .NotIn) (rIn K true) := by subst h; exact op_notIn_seq
theorem eqD (h : X.K = K) (hu : X.A.units + 64 < cLine) : OpR X (compareOp .Eq) (rEqD K) := by subst h; exact op_eqD hu
theorem neD (h : X.K = K) (hu : X.A.units + 64 < cLine) : OpR X (compareOp .NotEq) (rNeD K) := by subst h; exact op_neD hu
def rLen (K : PySem.W.Frag) : List V → Hp → VK → Prop := fun xs H Q => (∃ p ys, xs = [.ref p] ∧ (SqL K H p ys ∨ SqT K H p ys) ∧ Q (.int ys.length) H) ∨ (∃ z : Str, xs = [.str z] ∧ z.length ≤ sizeLine ∧ Q (.int z.length) H)
theorem lenQ (h : X.K = K) : CallR X (.builtin "len") (rLen K) := by subst h; exact call_len_seq.or call_len_str
def rLstOf (K : PySem.W.Frag) : List V → Hp → VK → Prop := fun xs H Q => ∃ p ys, xs = [.ref p] ∧ (SqL K H p ys ∨ SqT K H p ys) ∧ ∀ l, H l = none → Q (.ref l) (upd H l (.lst ys))
theorem lstOf (h : X.K = K) : CallR X (.type "list") (rLstOf K) := by subst h; exact call_list_of
theorem isiQ (h : X.K = K) : CallR X (.builtin "isinstance") (rIsi K) := by subst h; exact call_isi
theorem allQ (h : X.K = K) (hc : X.calm = true) : CallR X (.builtin "all") (rAll K) := by subst h; exact cr_all hc
theorem bmK {e : Expr} {T : String} {r : V → List V → Hp → VK → Prop} {to : TE} {t : TA} (h : X.K = K) (p : PE X e (tBM X.K T r to t)) : PE X e (tBM K T r to t) := by subst h; exact p
theorem bm0K {e : Expr} {T : String} {r : V → List V → Hp → VK → Prop} {to : TE} (h : X.K = K) (p : PE X e (tBM0 X.K T r to)) : PE X e (tBM0 K T r to) := by subst h; exact p
theorem piL {tg l : Expr} {tl : TE} (h : X.K = K) (hl : PE X l tl) : PI X tg l (iList K tl) := by subst h; exact pi_list hl
end
end Eh

set_option Elab.async false
set_option linter.all false
set_option maxRecDepth 100000
namespace Eh
open PySem PySem.Spec PyProof.Rows L2
/-! ### comprehensions over one name, the list that grows told -/
theorem small {n : Nat} (h : n < 1000000) : n < sizeLine := Nat.lt_of_lt_of_le h (by decide)
theorem wipe1 {σ : L2.St} {i : Nat} {x : Option V} : wipe ((wipe σ [i]).set i x) [i] = wipe σ [i] := by
  show ((σ.set i none).set i x).set i none = σ.set i none
  rw [List.set_set, List.set_set]
/-- ahead of turn j: what is made stands at D, and R -/
def LcP (R : Nat → List V → Hp → Prop) (D : Addr) (j : Nat) (H : Hp) : Prop := ∃ acc, acc.length ≤ j ∧ H D = some (.lst acc) ∧ R j acc H
/-- behind the element of turn j -/
def LcK (R : Nat → List V → Hp → Prop) (D : Addr) (j : Nat) : VK := fun y H4 => ∃ acc, H4 D = some (.lst acc) ∧ acc.length < sizeLine ∧ LcP R D (j + 1) (upd H4 D (.lst (acc ++ [y])))
theorem LcK.mk {R : Nat → List V → Hp → Prop} {D : Addr} {j : Nat} {acc : List V} {y : V} {H : Hp} (hl : acc.length ≤ j) (hj : j < 1000000) (e : H D = some (.lst acc)) (r : R (j + 1) (acc ++ [y]) (upd H D (.lst (acc ++ [y])))) : LcK R D j y H :=
  ⟨acc, e, small (by omega), acc ++ [y], by rw [List.length_append]; show acc.length + 1 ≤ j + 1; omega, upd_same, r⟩
/-- what a comprehension's reading asks behind its new list -/
def LcGoal (J : It) (g : TG) (tt : TT) (te : TE) (vs : List Nat) (σ : L2.St) (H1 : Hp) (D : Addr) (Qd : Hp → Prop) : Prop :=
  ∃ W : Nat → Nat → Hp → Prop, (∃ m, W 0 m (upd H1 D (.lst []))) ∧ ∀ i m H, W i m H → (J.stop i H ∧ Qd H) ∨ (J.go i H ∧ ∃ Nx : Hp → Prop, (∀ H', Nx H' → ∃ m', m' < m ∧ W (i + 1) m' H') ∧
    ∀ x H', J.yld i H x H' → g x (wipe σ vs) H' fun σ2 H2 => wipe σ2 vs = wipe σ vs ∧ tt σ2 H2 fun b H3 => if b = true then te σ2 H3 fun y H4 => ∃ acc, H4 D = some (.lst acc) ∧ acc.length < sizeLine ∧ Nx (upd H4 D (.lst (acc ++ [y]))) else Nx H3)
theorem yesT {τ : L2.St} {H : Hp} {A B : Hp → Prop} (h : A H) : tYes τ H (fun b H3 => if b = true then A H3 else B H3) := by
  show (if true = true then A H else B H)
  rw [if_pos rfl]
  exact h
section
variable {te : TE} {tt : TT} {σ : L2.St} {H1 : Hp} {D : Addr} {Qd : Hp → Prop} {i : Nat}
theorem lc_any {J : It} {n : Nat} (R : Nat → List V → Hp → Prop) (h0 : R 0 [] (upd H1 D (.lst [])))
    (hgo : ∀ j acc H, j < n → acc.length ≤ j → H D = some (.lst acc) → R j acc H → J.go j H ∧ ∀ x H', J.yld j H x H' → H' = H ∧
      tt ((wipe σ [i]).set i (some x)) H fun b H3 => if b = true then te ((wipe σ [i]).set i (some x)) H3 (LcK R D j) else LcP R D (j + 1) H3)
    (hstop : ∀ acc H, acc.length ≤ n → H D = some (.lst acc) → R n acc H → J.stop n H ∧ Qd H) : LcGoal J (gName i) tt te [i] σ H1 D Qd := by
  refine ⟨fun j m H => m = n - j ∧ j ≤ n ∧ LcP R D j H, ⟨n, by omega, Nat.zero_le _, [], Nat.le_refl _, upd_same, h0⟩, ?_⟩
  rintro j m H ⟨rfl, hj, acc, hl, e, r⟩
  by_cases hlt : j < n
  · obtain ⟨g1, g2⟩ := hgo j acc H hlt hl e r
    refine .inr ⟨g1, LcP R D (j + 1), fun H' q => ⟨n - (j + 1), by omega, rfl, hlt, q⟩, fun x H' y => ?_⟩
    obtain ⟨eH, k⟩ := g2 x H' y
    subst eH
    exact ⟨wipe1, k⟩
  · have ej : j = n := by omega
    subst ej
    exact .inl (hstop acc H hl e r)
/-- over a range, no test -/
theorem lcR {lo : Int} {n : Nat} (R : Nat → List V → Hp → Prop) (h0 : R 0 [] (upd H1 D (.lst [])))
    (hs : ∀ j acc H, j < n → acc.length ≤ j → H D = some (.lst acc) → R j acc H → te ((wipe σ [i]).set i (some (.int (lo + j)))) H (LcK R D j))
    (hd : ∀ acc H, acc.length ≤ n → H D = some (.lst acc) → R n acc H → Qd H) : LcGoal (Itr lo n) (gName i) tYes te [i] σ H1 D Qd :=
  lc_any R h0 (fun j acc H hj hl e r => ⟨hj, fun x H' y => ⟨y.1, by
    rw [show x = .int (lo + j) from y.2]
    exact hs j acc H hj hl e r⟩⟩) fun acc H hl e r => ⟨Nat.le_refl _, hd acc H hl e r⟩
/-- over a text, no test; with one -/
theorem lcS {z : Str} (R : Nat → List V → Hp → Prop) (h0 : R 0 [] (upd H1 D (.lst [])))
    (hs : ∀ j c acc H, z.cps[j]? = some c → acc.length ≤ j → H D = some (.lst acc) → R j acc H →
      tt ((wipe σ [i]).set i (some (.str ⟨#[c]⟩))) H fun b H3 => if b = true then te ((wipe σ [i]).set i (some (.str ⟨#[c]⟩))) H3 (LcK R D j) else LcP R D (j + 1) H3)
    (hd : ∀ acc H, acc.length ≤ z.cps.size → H D = some (.lst acc) → R z.cps.size acc H → Qd H) : LcGoal (Its z) (gName i) tt te [i] σ H1 D Qd :=
  lc_any R h0 (fun j acc H hj hl e r => ⟨hj, fun x H' y => by
    obtain ⟨y1, c, hc, rfl⟩ := y
    exact ⟨y1, hs j c acc H hc hl e r⟩⟩) fun acc H hl e r => ⟨Nat.le_refl _, hd acc H hl e r⟩
/-- over a list that stays -/
theorem lcL {K : PySem.W.Frag} {a : Addr} {xs : List V} (R : Nat → List V → Hp → Prop) (h0 : R 0 [] (upd H1 D (.lst []))) (hl : ∀ j acc H, R j acc H → SqL K H a xs)
    (hs : ∀ j x acc H, xs[j]? = some x → acc.length ≤ j → H D = some (.lst acc) → R j acc H →
      tt ((wipe σ [i]).set i (some x)) H fun b H3 => if b = true then te ((wipe σ [i]).set i (some x)) H3 (LcK R D j) else LcP R D (j + 1) H3)
    (hd : ∀ acc H, acc.length ≤ xs.length → H D = some (.lst acc) → R xs.length acc H → Qd H) : LcGoal (Itl K a) (gName i) tt te [i] σ H1 D Qd :=
  lc_any R h0 (fun j acc H hj hl' e r => ⟨⟨xs, xs[j], hl _ _ _ r, List.getElem?_eq_getElem hj⟩, fun x H' y => ⟨y.1, hs j x acc H (y.2 xs (hl _ _ _ r)) hl' e r⟩⟩)
    fun acc H hl' e r => ⟨⟨xs, hl _ _ _ r, Nat.le_refl _⟩, hd acc H hl' e r⟩
/-- over a tuple that stays -/
theorem lcT {K : PySem.W.Frag} {a : Addr} {xs : List V} (R : Nat → List V → Hp → Prop) (h0 : R 0 [] (upd H1 D (.lst []))) (hl : ∀ j acc H, R j acc H → SqT K H a xs)
    (hs : ∀ j x acc H, xs[j]? = some x → acc.length ≤ j → H D = some (.lst acc) → R j acc H →
      tt ((wipe σ [i]).set i (some x)) H fun b H3 => if b = true then te ((wipe σ [i]).set i (some x)) H3 (LcK R D j) else LcP R D (j + 1) H3)
    (hd : ∀ acc H, acc.length ≤ xs.length → H D = some (.lst acc) → R xs.length acc H → Qd H) : LcGoal (Itt K a) (gName i) tt te [i] σ H1 D Qd :=
  lc_any R h0 (fun j acc H hj hl' e r => ⟨⟨xs, xs[j], hl _ _ _ r, List.getElem?_eq_getElem hj⟩, fun x H' y => ⟨y.1, hs j x acc H (y.2 xs (hl _ _ _ r)) hl' e r⟩⟩)
    fun acc H hl' e r => ⟨⟨xs, hl _ _ _ r, Nat.le_refl _⟩, hd acc H hl' e r⟩
end
end Eh

set_option Elab.async false
set_option linter.all false
set_option maxRecDepth 100000
namespace Eh
open PySem PySem.Spec PyProof.Rows L2
section
variable {P : Program} {w : World} {K : PySem.W.Frag} {mg : Str → Option Value} {base : Heap}
theorem seq_off {d a : Addr} {H H' : Hp} {xs : List V} (n : a ≠ d) (k : ∀ b, b ≠ d → H' b = H b) (h : SqL K H a xs) : SqL K H' a xs := by
  rcases h with (h | ⟨o, h⟩) | h
  · exact .inl (.inl (by rw [k a n]; exact h))
  · exact .inl (.inr ⟨o, by rw [k a n]; exact h⟩)
  · exact .inr h
/-! pick -/
abbrev s__law_pick : Stmt := topS 6
theorem sc__law_pick : FnScope ["dice", "items"] ["dice", "items"] (defScope s__law_pick) := ⟨rfl, rfl, rfl, by decide +kernel, rfl, by decide +kernel, by decide +kernel⟩
def spPick (K : PySem.W.Frag) : Sp := fun vs H Q _ => ∃ (d a : Addr) (xs : List V), vs = [.ref d, .ref a] ∧ D3 H d ∧ SqL K H a xs ∧ a ≠ d ∧ 0 < xs.length ∧ xs.length < 1000000 ∧
  ∀ x H', x ∈ xs → D3 H' d → (∀ b, b ≠ d → H' b = H b) → Q x H'
theorem at_in {xs : List V} {r : Int} (h0 : 0 ≤ r) (h1 : r < xs.length) : ∃ x, atI xs r = some x ∧ x ∈ xs := by
  have h : r.toNat < xs.length := by omega
  refine ⟨xs[r.toNat], ?_, List.getElem_mem h⟩
  have e := atI_nat (xs := xs) (j := r.toNat) (List.getElem?_eq_getElem h)
  rwa [Int.toNat_of_nonneg h0] at e
theorem ok_pick {f fR : Addr} {fd fdR : FuncData} (F : Fun K "_law_pick" "_law_pick" s__law_pick f fd) (T : Txt mg) (C__law_roll : Cal P w K mg base 1 "_law_roll" fR fdR ["dice", "many"] spRoll) :
    FnOk P w K mg base CX0 2 f fd ["dice", "items"] (spPick K) := by
  refine F.ok sc__law_pick (fun vs H Q E h => ?_) (fun cdv A outer s H vs Q E hr h => ?_)
  · obtain ⟨d, a, xs, rfl, _⟩ := h
    rfl
  · obtain ⟨d, a, xs, rfl, D, hS, hn, h0, h1, q⟩ := h
    refine ⟨_, (pss_one (ps_ret (pe_ix (ixL (K := K) rfl) (pv 1) (pe_call C__law_roll.G hr (by rfl) C__law_roll.m C__law_roll.k C__law_roll.b .nil pass0 (pa_cons (pv 0) (pa_cons (pe_callB (lenQ (K := K) rfl) (by rfl) T.len_ (by decide +kernel) (pa_cons (pv 1) pa_nil)) pa_nil))) (fun _ _ => rfl)))), ?_⟩
    refine ⟨_, rfl, _, rfl, _, rfl, (.inl ⟨a, xs, rfl, .inl hS, d, _, rfl, D, by omega, by omega, fun r H' r0 r1 D' k => ?_⟩)⟩
    obtain ⟨x, e, hx⟩ := at_in r0 r1
    exact ⟨a, xs, r, x, rfl, rfl, seq_off hn k hS, e, q x H' hx D' k⟩
/-! some -/
abbrev s__law_some : Stmt := topS 7
theorem sc__law_some : FnScope ["dice", "items", "size", "left", "turn"] ["dice", "items", "size"] (defScope s__law_some) := ⟨rfl, rfl, rfl, by decide +kernel, rfl, by decide +kernel, by decide +kernel⟩
/-- ys are some of xs -/
def SomeOf (ys xs : List V) : Prop := ∃ rest, (ys ++ rest).Perm xs
def spSome (K : PySem.W.Frag) : Sp := fun vs H Q _ => ∃ (d a : Addr) (xs : List V) (n : Nat), vs = [.ref d, .ref a, .int n] ∧ D3 H d ∧ SqL K H a xs ∧ a ≠ d ∧ xs.length < 1000000 ∧ n < 1000000 ∧
  ∀ ys p H', SomeOf ys xs → ys.length = min n xs.length → Gr d H H' → H p = none → H' p = some (.lst ys) → Q (.ref p) H'
theorem perm_erase {α : Type} : ∀ {xs : List α} {i : Nat} {x : α}, xs[i]? = some x → (x :: xs.eraseIdx i).Perm xs
  | [], _, _, h => by simp at h
  | y :: r, 0, x, h => by
    cases (show some y = some x from h)
    exact List.Perm.refl _
  | y :: r, i + 1, x, h => by
    have ih := perm_erase (xs := r) (i := i) (x := x) h
    exact (List.Perm.swap y x _).trans (ih.cons y)
theorem seqIndex_nat {n j : Nat} (h : j < n) : seqIndex? (j : Int) n = some j := (ixN_seq (n := n) (i := (j : Int)) (j := j) (by
  unfold ixN
  rw [if_pos (by omega), if_pos (by omega)]
  rfl)).1
theorem ok_some {f fR : Addr} {fd fdR : FuncData} (F : Fun K "_law_some" "_law_some" s__law_some f fd) (T : Txt mg) (C__law_roll : Cal P w K mg base 1 "_law_roll" fR fdR ["dice", "many"] spRoll) :
    FnOk P w K mg base CX0 2 f fd ["dice", "items", "size"] (spSome K) := by
  refine F.ok sc__law_some (fun vs H Q E h => ?_) (fun cdv A outer s H vs Q E hr h => ?_)
  · obtain ⟨d, a, xs, n, rfl, _⟩ := h
    rfl
  · obtain ⟨d, a, xs, n, rfl, D, hS, hn, h1, h2, q⟩ := h
    refine ⟨_, (pss_cons (ps_set (i := 3) sc__law_some.nd rfl (.inr rfl) (pe_callTy (lstOf (K := K) rfl) (by rfl) T.list_ (by decide +kernel) (pa_cons (pv 1) pa_nil)))
  (pss_one (ps_ret (pe_lc (own := [("turn", 4)]) (g := gName 4) (by rfl) sc__law_some.nd (pi_range1 (by rfl) T.range_ (pa_cons (pe_callB (call_min2 (by rfl)) (by rfl) T.min_ (by decide +kernel) (pa_cons (pv 2) (pa_cons (pe_callB (lenQ (K := K) rfl) (by rfl) T.len_ (by decide +kernel) (pa_cons (pv 3) pa_nil)) pa_nil))) pa_nil)) (blkOk_by (by kernel_rfl)) (fun _ _ _ _ _ => (pg_name (i := 4) sc__law_some.nd rfl (.inl rfl))) (fun _ _ _ _ _ => pts_nil) (fun _ _ _ _ _ => (bmK (K := K) rfl (pe_bm PySem.F.plainAttrs_list PySem.F.slot_list_pop PySem.F.type_list_pop mt_popAt (pv 3) (pa_cons (pe_call C__law_roll.G hr (by rfl) C__law_roll.m C__law_roll.k C__law_roll.b .nil pass0 (pa_cons (pv 0) (pa_cons (pe_callB (lenQ (K := K) rfl) (by rfl) T.len_ (by decide +kernel) (pa_cons (pv 3) pa_nil)) pa_nil))) pa_nil)))))))), ?_⟩
    -- left = list(items)
    refine ⟨_, rfl, a, xs, rfl, .inl hS, fun l nl => ?_⟩
    have nld : l ≠ d := D.ne nl
    have g0 : Gr d H (upd H l (.lst xs)) := .laid D nl
    -- min(size, len(left))
    refine ⟨_, rfl, _, rfl, .inl ⟨l, xs, rfl, .inl (SqL.of upd_same), n, xs.length, rfl, ?_⟩⟩
    obtain ⟨m, em, hm⟩ : ∃ m : Nat, (if (xs.length : Int) < (n : Int) then (xs.length : Int) else (n : Int)) = (m : Int) ∧ m = min n xs.length := by
      refine ⟨min n xs.length, ?_, rfl⟩
      split <;> omega
    rw [em]
    refine ⟨m, rfl, by omega, by omega, fun p np => ?_⟩
    have npl : p ≠ l := fun e => by rw [e, upd_same] at np; cases np
    have npH : H p = none := by rw [upd_ne npl] at np; exact np
    have npd : p ≠ d := D.ne npH
    refine lcR (fun i ys H2 => ∃ zs, (ys ++ zs).Perm xs ∧ ys.length = i ∧ Gr d H H2 ∧ H2 l = some (.lst zs)) ⟨xs, List.Perm.refl _, rfl, g0.put npH npd, by rw [upd_ne npl.symm, upd_same]⟩ ?_ ?_
    · rintro i ys H2 hi hly e1 ⟨zs, hp, hl, g2, e2⟩
      have hlen : ys.length + zs.length = xs.length := by rw [← hp.length_eq, List.length_append]
      refine ⟨_, rfl, .inl ⟨rfl, _, SqL.of e2⟩, _, rfl, _, rfl, .inl ⟨l, zs, rfl, .inl (SqL.of e2), d, _, rfl, g2.dice, by omega, by omega, fun r H3 r0 r1 D3' k => ?_⟩⟩
      have hr' : r.toNat < zs.length := by omega
      have e2' : H3 l = some (.lst zs) := by rw [k l nld]; exact e2
      have e1' : H3 p = some (.lst ys) := by rw [k p npd]; exact e1
      have er := seqIndex_nat hr'
      rw [Int.toNat_of_nonneg r0] at er
      refine ⟨l, zs, r, r.toNat, zs[r.toNat], rfl, rfl, e2', by omega, by omega, er, List.getElem?_eq_getElem hr', ?_⟩
      refine LcK.mk hly (by omega) (by rw [upd_ne npl]; exact e1') ⟨zs.eraseIdx r.toNat, ?_, ?_, ?_, ?_⟩
      · rw [List.append_assoc]
        exact (List.Perm.append_left ys (perm_erase (List.getElem?_eq_getElem hr'))).trans hp
      · rw [List.length_append]
        show ys.length + 1 = i + 1
        omega
      · have g3 : Gr d H H3 := ⟨D3', fun b o nb e => by rw [k b nb]; exact g2.keep b o nb e⟩
        exact (g3.put nl nld).put npH npd
      · rw [upd_ne npl.symm, upd_same]
    · rintro ys H2 _ e1 ⟨zs, hp, hl, g2, e2⟩
      exact q ys p H2 ⟨zs, hp⟩ (by omega) g2 npH e1
end
end Eh

set_option Elab.async false
set_option linter.all false
set_option maxRecDepth 100000
namespace Eh
open PySem PySem.Spec PyProof.Rows L2
section
variable {P : Program} {w : World} {K : PySem.W.Frag} {mg : Str → Option Value} {base : Heap}
/-! dice -/
abbrev s__law_dice : Stmt := topS 4
theorem sc__law_dice : FnScope ["script", "spot", "cell", "great", "blend"] ["script", "spot"] (defScope s__law_dice) := ⟨rfl, rfl, rfl, by decide +kernel, rfl, by decide +kernel, by decide +kernel⟩
def spDice (K : PySem.W.Frag) : Sp := fun vs H Q _ => ∃ (a : Addr) (ns : List Int) (k : Nat), vs = [.ref a, .int k] ∧ SqL K H a (ns.map V.int) ∧
  ∀ d H', Same H H' → H d = none → D3 H' d → Q (.ref d) H'
theorem p60 : (0 : Int) ≤ 60 ∧ (60 : Int) ≤ 1000000 ∧ (10 : Int).natAbs < 2 ^ 64 := by decide
theorem p18 : (0 : Int) ≤ 18 ∧ (18 : Int) ≤ 1000000 ∧ (10 : Int).natAbs < 2 ^ 64 := by decide
theorem p600 : (0 : Int) ≤ 10 ∧ (Builtin.Int.intBits ((10 : Int) ^ (60 : Int).toNat) : Int) * 10 ≤ 2 ^ 27 := by decide +kernel
theorem n600 : ((10 : Int) ^ (60 : Int).toNat) ^ (10 : Int).toNat ≠ 0 := by decide +kernel
theorem mulR {i j : Int} (h : -(2 ^ 64) < j ∧ j < 2 ^ 64) : CMul i j := .inr h
theorem mulL {i j : Int} (h : -(2 ^ 64) < i ∧ i < 2 ^ 64) : CMul i j := .inl h
theorem same_new {H : Hp} {p : Addr} {o : HO} (h : H p = none) : Same H (upd H p o) := fun b x e => by
  rw [upd_ne (ne_of_none e h)]
  exact e
theorem lenOk (n : Nat) {xs : List V} (e : xs.length = n := by rfl) (h : n < 1000000 := by decide) : xs.length ≤ sizeLine := by
  rw [e]
  exact Nat.le_of_lt (small h)
theorem ok_dice {f : Addr} {fd : FuncData} (F : Fun K "_law_dice" "_law_dice" s__law_dice f fd) (T : Txt mg) : FnOk P w K mg base CX0 1 f fd ["script", "spot"] (spDice K) := by
  refine F.ok sc__law_dice (fun vs H Q E h => ?_) (fun cdv A outer s H vs Q E hr h => ?_)
  · obtain ⟨a, ns, k, rfl, _⟩ := h
    rfl
  · obtain ⟨a, ns, k, rfl, hS, q⟩ := h
    refine ⟨_, (pss_cons (ps_set (i := 2) sc__law_dice.nd rfl (.inl rfl) (pe_op op_add (pe_op op_mul pe_int (pv 1)) pe_int))
  (pss_cons (ps_if (pt_cmpR op_lt (pv 1) (pe_callB (lenQ (K := K) rfl) (by rfl) T.len_ (by decide +kernel) (pa_cons (pv 0) pa_nil)) (nomark _))
  (pss_one (ps_set (i := 2) sc__law_dice.nd rfl (.inl rfl) (pe_ix (ixL (K := K) rfl) (pv 0) (pv 1) (fun _ _ => rfl))))
  pss_nil)
  (pss_cons (ps_set (i := 3) sc__law_dice.nd rfl (.inl rfl) (pe_op op_modN (pe_callTy call_int1 (by rfl) T.int_ (by decide +kernel) (pa_cons (pe_callB call_abs (by rfl) T.abs_ (by decide +kernel) (pa_cons (pv 2) pa_nil)) pa_nil)) (pe_op op_powB (pe_op op_pow pe_int pe_int) pe_int)))
  (pss_cons (ps_set (i := 4) sc__law_dice.nd rfl (.inl rfl) (pe_op op_add (pe_op op_add (pe_op op_add (pe_op op_mul (pe_op op_modN (pe_callTy call_int1 (by rfl) T.int_ (by decide +kernel) (pa_cons (pv 3) pa_nil)) pe_int) pe_int) (pe_op op_mul pe_int (pv 1))) (pe_op op_mul pe_int (pe_callTy call_int1 (by rfl) T.int_ (by decide +kernel) (pa_cons (pe_cmpR op_lt (pv 2) pe_int (nomark _)) pa_nil)))) pe_int))
  (pss_one (ps_ret (pe_lst (pa_cons (pe_callB (call_max2 (by rfl)) (by rfl) T.max_ (by decide +kernel) (pa_cons pe_int (pa_cons (pe_op op_sub (pv 3) (pe_op op_pow pe_int pe_int)) pa_nil))) (pa_cons (pe_op op_modN (pe_callTy call_int1 (by rfl) T.int_ (by decide +kernel) (pa_cons (pv 4) pa_nil)) pe_int) (pa_cons pe_int pa_nil)))))))))), ?_⟩
    refine ⟨_, rfl, _, _, rfl, rfl, mulL (by decide), _, _, rfl, rfl, ?_⟩
    refine ⟨_, rfl, _, rfl, .inl ⟨a, _, rfl, .inl hS, _, _, rfl, rfl, _, rfl, ite2 (fun hk => ?A) (fun _ => ?B)⟩⟩
    case' A =>
      have hk : (k : Int) < ((ns.map V.int).length : Int) := of_decide_eq_true hk
      have hk' : k < ns.length := by rw [List.length_map] at hk; omega
      refine ⟨_, rfl, _, rfl, a, _, k, .int ns[k], rfl, rfl, hS, atI_nat (by rw [List.getElem?_map, List.getElem?_eq_getElem hk']; rfl), ?_⟩
    all_goals
      refine ⟨_, rfl, _, rfl, .inl ⟨_, rfl, _, _, rfl, rfl, p60, _, _, rfl, rfl, p600, _, _, rfl, rfl, n600, ?_⟩⟩
      refine ⟨_, rfl, .inl ⟨_, rfl, _, _, rfl, rfl, m3N, _, _, rfl, rfl, mulR (by decide), _, rfl, _, _, rfl, rfl, mulL (by decide), _, _, rfl, rfl, _, rfl, _, _, rfl, rfl, .inr ⟨_, rfl, _, _, rfl, rfl, mulL (by decide), _, _, rfl, rfl, _, _, rfl, rfl, ?_⟩⟩⟩
      refine ⟨_, rfl, _, _, rfl, rfl, p18, _, _, rfl, rfl, _, _, rfl, _, rfl, .inl ⟨_, rfl, _, _, rfl, rfl, m3N, lenOk 3, fun l nl => ?_⟩⟩
      exact q l _ (same_new nl) nl ⟨_, _, _, upd_same⟩
end
end Eh

set_option Elab.async false
set_option linter.all false
set_option maxRecDepth 100000
namespace Eh
open PySem PySem.Spec PyProof.Rows L2
/-! facts -/
def low (c : Nat) : Bool := decide (97 ≤ c ∧ c ≤ 122)
def factS (z : Str) : Bool := decide (1 ≤ z.length ∧ z.length ≤ 8) && !(decide (z = "yes")) && !(decide (z = "no")) && z.cps.toList.all low
def factV : V → Bool
  | .str z => factS z
  | _ => false
/-- a value whose type is known and is not str, or a text -/
def Asc (z : Str) : Prop := z.length < 1000000 ∧ ∀ c ∈ z.cps.toList, c < 128
def Kind (K : PySem.W.Frag) (H : Hp) (v : V) : Prop := (∃ z : Str, v = .str z ∧ Asc z) ∨ ((∀ z, v ≠ .str z) ∧ ∃ t, TyX K H v t ∧ PySem.W.kitOne K t (.type "str") = some false)
section
variable {P : Program} {w : World} {K : PySem.W.Frag} {mg : Str → Option Value} {base : Heap}
abbrev s_is_fact : Stmt := topS 2
theorem sc_is_fact : FnScope ["value", "letter"] ["value"] (defScope s_is_fact) := ⟨rfl, rfl, rfl, by decide +kernel, rfl, by decide +kernel, by decide +kernel⟩
def spFact (K : PySem.W.Frag) : Sp := fun vs H Q _ => ∃ v, vs = [v] ∧ Kind K H v ∧ ∀ H', Same H H' → Q (.bl (factV v)) H'
theorem kitStr {K : PySem.W.Frag} : PySem.W.kitOne K (.type "str") (.type "str") = some true := kit_ty (by decide +kernel)
theorem le_sign (c : Nat) : (!decide ((⟨#[c]⟩ : Str).cps.toList < ("a" : Str).cps.toList)) = decide (97 ≤ c) := by
  show (!decide ([c] < [97])) = decide (97 ≤ c)
  have e : ([c] < [97]) ↔ c < 97 := by
    constructor
    · intro h
      cases h with
      | rel h => exact h
      | cons h => cases h
    · intro h
      exact List.Lex.rel h
  rw [decide_eq_decide.mpr e]
  by_cases h : c < 97
  · rw [decide_eq_true h, decide_eq_false (by omega)]
    rfl
  · rw [decide_eq_false h, decide_eq_true (by omega)]
    rfl
theorem ge_sign (c : Nat) : (!decide (("z" : Str).cps.toList < (⟨#[c]⟩ : Str).cps.toList)) = decide (c ≤ 122) := by
  show (!decide ([122] < [c])) = decide (c ≤ 122)
  have e : ([122] < [c]) ↔ 122 < c := by
    constructor
    · intro h
      cases h with
      | rel h => exact h
      | cons h => cases h
    · intro h
      exact List.Lex.rel h
  rw [decide_eq_decide.mpr e]
  by_cases h : 122 < c
  · rw [decide_eq_true h, decide_eq_false (by omega)]
    rfl
  · rw [decide_eq_false h, decide_eq_true (by omega)]
    rfl
theorem sbeq (a b : Str) : (a == b) = decide (a = b) := by rw [Bool.eq_iff_iff, beq_iff_eq, decide_eq_true_iff]
theorem yesno (z : Str) : inV (.str z) [.str "yes", .str "no"] = (decide (("yes" : Str) = z) || decide (("no" : Str) = z)) := by
  show (("yes" : Str) == z || (("no" : Str) == z || false)) = _
  rw [Bool.or_false, sbeq, sbeq]
def rNi (K : PySem.W.Frag) : R2 := fun x y H Q => ∃ p xs, y = .ref p ∧ (SqL K H p xs ∨ SqT K H p xs) ∧ flatV x = true ∧ xs.all flatV = true ∧ ∀ b, inV x xs = b → Q (.bl (!b)) H
theorem niB {X : Cx} (h : X.K = K) : OpR X (compareOp .NotIn) (rNi K) := by
  subst h
  intro pins s σ H x y v u Q I rx ry h
  obtain ⟨p, xs, e1, e2, e3, e4, q⟩ := h
  exact op_notIn_seq pins s σ H x y v u Q I rx ry ⟨p, xs, e1, e2, e3, e4, q _ rfl⟩
theorem all_take {α : Type} {f : α → Bool} {l : List α} {j : Nat} {c : α} (h : l[j]? = some c) : (l.take (j + 1)).map f = (l.take j).map f ++ [f c] := by
  rw [List.take_add_one, h, List.map_append]
  rfl
theorem ok_is_fact {f : Addr} {fd : FuncData} (F : Fun K "is_fact" "is_fact" s_is_fact f fd) (T : Txt mg) (c8 : ∃ t, mg "MAX_LETTERS" = some (.int 8 t)) : FnOk P w K mg base CX0 1 f fd ["value"] (spFact K) := by
  obtain ⟨t8, e8⟩ := c8
  refine F.ok sc_is_fact (fun vs H Q E h => ?_) (fun cdv A outer s H vs Q E hr h => ?_)
  · obtain ⟨v, rfl, _⟩ := h
    rfl
  · obtain ⟨v, rfl, hk, q⟩ := h
    refine ⟨_, (pss_cons (ps_if (PW.pt (pw_or (pt_not (pt_val (pe_callB (isiQ (K := K) rfl) (by rfl) T.isinstance_ (by decide +kernel) (pa_cons (pv 0) (pa_cons (pe_bltn (v := .ty "str") (by rfl) T.str_ (by decide +kernel) rfl) pa_nil))))) (pw_or1 (pt_not (pt_chain op_le op_le pe_int (pe_callB (lenQ (K := K) rfl) (by rfl) T.len_ (by decide +kernel) (pa_cons (pv 0) pa_nil)) (pe_glob (v := .int 8) rfl e8 ⟨_, rfl⟩))))))
  (pss_one (ps_ret pe_bl))
  pss_nil)
  (pss_one (ps_ret (pe_and (pe_cmpR (niB (K := K) rfl) (pv 0) (pe_tup (pa_cons pe_str (pa_cons pe_str pa_nil))) (by rfl)) (pe_one (pe_callB (allQ (K := K) rfl (by rfl)) (by rfl) T.all_ (by decide +kernel) (pa_cons (pe_lc (own := [("letter", 1)]) (g := gName 1) (by rfl) sc_is_fact.nd (pi_str (pv 0)) (blkOk_by (by kernel_rfl)) (fun _ _ _ _ _ => (pg_name (i := 1) sc_is_fact.nd rfl (.inl rfl))) (fun _ _ _ _ _ => pts_nil) (fun _ _ _ _ _ => (pe_chain op_le_str op_le_str pe_str (pv 1) pe_str))) pa_nil))))))), ?_⟩
    rcases hk with ⟨z, rfl, hz, _⟩ | ⟨hn, t, ty, ek⟩
    · refine ⟨_, rfl, .str z, .ty "str", .type "str", .type "str", true, rfl, .ty _, .base (.str z), kitStr, _, rfl, iteF ?_⟩
      refine ⟨_, rfl, .inr ⟨z, rfl, Nat.le_of_lt (small hz), 1, _, rfl, rfl, _, rfl, ite2 (fun h1 => ?_) (fun h1 => ?_)⟩⟩
      · refine ⟨_, 8, rfl, rfl, _, rfl, ?_⟩
        have h1' : (1 : Int) ≤ z.length := of_decide_eq_true h1
        by_cases h8 : (z.length : Int) ≤ 8
        · rw [decide_eq_true h8]
          refine iteF ?_
          refine ⟨_, rfl, lenOk 2, fun t nt => ⟨t, _, rfl, .inr (SqT.of upd_same), rfl, rfl, fun b hb => ⟨_, rfl, ?_⟩⟩⟩
          have s1 : Same H (upd H t (.tup [.str "yes", .str "no"])) := same_new nt
          rw [yesno] at hb
          cases b with
          | true =>
            refine iteF ?_
            have e : factV (.str z) = false := by
              show factS z = false
              unfold factS
              rcases (Bool.or_eq_true _ _).mp hb with h | h
              · rw [← of_decide_eq_true h]; rfl
              · rw [← of_decide_eq_true h]; rfl
            have q' := q _ s1
            rw [e] at q'
            exact q'
          | false =>
            refine iteT ?_
            obtain ⟨hb1, hb2⟩ := (Bool.or_eq_false_iff).mp hb
            refine ⟨_, rfl, z, rfl, fun D nD => ?_⟩
            have s2 := s1.trans (same_new (o := .lst []) nD)
            have nD1 : H D = none := s1.free nD
            refine lcS (fun j acc H2 => Same H H2 ∧ acc = ((z.cps.toList.take j).map low).map V.bl) ⟨s2, rfl⟩ ?_ ?_
            · rintro j c acc H2 hc hl e ⟨s3, ea⟩
              refine yesT ?_
              refine ⟨_, rfl, "a", _, rfl, rfl, _, rfl, ?_⟩
              rw [le_sign]
              have hj : j < 1000000 := by
                have := (Array.getElem?_eq_some_iff.mp hc).1
                have e2 : z.cps.size = z.length := rfl
                omega
              have fin : ∀ H4 b, H4 = H2 → b = low c → LcK (fun j acc H2 => Same H H2 ∧ acc = ((z.cps.toList.take j).map low).map V.bl) D j (.bl b) H4 := by
                rintro _ _ rfl rfl
                refine LcK.mk hl hj e ⟨fun b o eb => ?_, ?_⟩
                · rw [upd_ne (ne_of_none eb nD1)]
                  exact s3 b o eb
                · rw [ea, all_take (by rw [Array.getElem?_toList]; exact hc), List.map_append]
                  rfl
              refine ite2 (fun h1 => ?_) (fun h1 => ?_)
              · refine ⟨_, "z", rfl, rfl, ?_⟩
                rw [ge_sign]
                refine fin _ _ rfl ?_
                have h1' := of_decide_eq_true h1
                unfold low
                exact decide_eq_decide.mpr ⟨fun h => ⟨h1', h⟩, fun h => h.2⟩
              · refine fin _ _ rfl ?_
                have h1' : ¬ (97 ≤ c) := fun h => h1 (decide_eq_true h)
                unfold low
                exact (decide_eq_false (fun h => h1' h.1)).symm
            · rintro acc H2 hl e ⟨s3, ea⟩
              refine ⟨D, _, rfl, SqL.of (e.trans (by rw [ea])), ?_⟩
              have e2 : factV (.str z) = ((z.cps.toList.take z.cps.size).map low).all id := by
                show factS z = _
                unfold factS
                rw [decide_eq_true (show 1 ≤ z.length ∧ z.length ≤ 8 from ⟨by omega, by omega⟩), decide_eq_false (fun h => of_decide_eq_false hb1 h.symm), decide_eq_false (fun h => of_decide_eq_false hb2 h.symm)]
                rw [List.take_of_length_le (by rw [Array.length_toList]; exact Nat.le_refl _), List.all_map]
                rfl
              have q' := q _ s3
              rw [e2] at q'
              exact q'
        · rw [decide_eq_false h8]
          refine iteT ?_
          have e : factV (.str z) = false := by
            show factS z = false
            unfold factS
            rw [decide_eq_false (fun h => h8 (by omega))]
            rfl
          have q' := q _ (Same.refl H)
          rw [e] at q'
          exact q'
      · refine ⟨_, rfl, iteT ?_⟩
        have e : factV (.str z) = false := by
          show factS z = false
          unfold factS
          rw [decide_eq_false (fun h => h1 (decide_eq_true (by omega)))]
          rfl
        have q' := q _ (Same.refl H)
        rw [e] at q'
        exact q'
    · refine ⟨_, rfl, v, .ty "str", t, .type "str", false, rfl, .ty _, ty, ek, _, rfl, iteT ?_⟩
      have e : factV v = false := by
        cases v with
        | str z => exact absurd rfl (hn z)
        | _ => rfl
      have q' := q _ (Same.refl H)
      rw [e] at q'
      exact q'
end
end Eh

set_option Elab.async false
set_option linter.all false
set_option maxRecDepth 100000
namespace Eh
open PySem PySem.Spec PyProof.Rows L2
theorem hu64 {A : Around} {k : Nat} (hr : Room k A) : A.units + 64 < cLine := by
  have := hr.un
  omega
theorem eqv_nil (ds : List PyData) : PyData.eqv (.list ds) (.list []) = ds.isEmpty := by
  cases ds <;> simp [PyData.eqv, PyData.eqvAll]
theorem strs_lay : ∀ zs : List Str, (∀ z ∈ zs, PyData.strOk z = true) → PyData.canLayAll0 (zs.map PyData.str) = true
  | [], _ => by simp [PyData.canLayAll0]
  | z :: zs, h => by
    have h1 := h z List.mem_cons_self
    have h2 := strs_lay zs fun y hy => h y (List.mem_cons_of_mem _ hy)
    simp [PyData.canLayAll0, PyData.canLay0, h1, h2]
theorem asc_ok {z : Str} (h : ∀ c ∈ z.cps.toList, c < 128) : PyData.strOk z = true := by
  unfold PyData.strOk
  rw [Array.all_eq_true']
  intro c hc
  have := h c (Array.mem_toList_iff.mpr hc)
  exact decide_eq_true (by omega)
theorem strs_depth : ∀ zs : List Str, PyData.depthAll (zs.map PyData.str) = 0
  | [] => by simp [PyData.depthAll]
  | z :: zs => by simp [PyData.depthAll, PyData.depth, strs_depth zs]
theorem strs_shaped (zs : List Str) (h : ∀ z ∈ zs, PyData.strOk z = true) : SeqAt.shaped (.list (zs.map PyData.str)) = true := by
  show (PyData.canLay0 (.list (zs.map PyData.str)) && decide (PyData.depth (.list (zs.map PyData.str)) ≤ 64)) = true
  rw [Bool.and_eq_true]
  refine ⟨?_, decide_eq_true ?_⟩
  · simp only [PyData.canLay0]
    exact strs_lay zs h
  · simp only [PyData.depth, strs_depth]
    omega
theorem dp_strs {K : PySem.W.Frag} {H : Hp} : ∀ zs : List Str, DpAll K H (zs.map V.str) (zs.map PyData.str)
  | [] => .nil
  | z :: zs => .cons (.str z) (dp_strs zs)
theorem abc_iff (c : Nat) : c ∈ ("abcdefghijklmnopqrstuvwxyz" : Str).cps.toList ↔ 97 ≤ c ∧ c ≤ 122 := by
  show c ∈ [97, 98, 99, 100, 101, 102, 103, 104, 105, 106, 107, 108, 109, 110, 111, 112, 113, 114, 115, 116, 117, 118, 119, 120, 121, 122] ↔ _
  simp only [List.mem_cons, List.not_mem_nil, or_false]
  omega
theorem all_filter : ∀ l : List Nat, l.all low = (l.filter fun c => !low c).isEmpty
  | [] => rfl
  | c :: l => by
    rw [List.all_cons, List.filter_cons]
    cases h : low c with
    | true => exact all_filter l
    | false => rfl
def sg (c : Nat) : Str := ⟨#[c]⟩
section
variable {P : Program} {w : World} {K : PySem.W.Frag} {mg : Str → Option Value} {base : Heap}
abbrev s__law_is_fact : Stmt := topS 8
theorem sc__law_is_fact : FnScope ["value", "one"] ["value"] (defScope s__law_is_fact) := ⟨rfl, rfl, rfl, by decide +kernel, rfl, by decide +kernel, by decide +kernel⟩
theorem ok_law_is_fact {f : Addr} {fd : FuncData} (F : Fun K "_law_is_fact" "_law_is_fact" s__law_is_fact f fd) (T : Txt mg) : FnOk P w K mg base CX0 1 f fd ["value"] (spFact K) := by
  refine F.ok sc__law_is_fact (fun vs H Q E h => ?_) (fun cdv A outer s H vs Q E hr h => ?_)
  · obtain ⟨v, rfl, _⟩ := h
    rfl
  · obtain ⟨v, rfl, hk, q⟩ := h
    refine ⟨_, (pss_cons (ps_if (PW.pt (pw_or (pt_not (pt_val (pe_callB (isiQ (K := K) rfl) (by rfl) T.isinstance_ (by decide +kernel) (pa_cons (pv 0) (pa_cons (pe_bltn (v := .ty "str") (by rfl) T.str_ (by decide +kernel) rfl) pa_nil))))) (pw_or (pt_not (pt_chain op_lt op_lt pe_int (pe_callB (lenQ (K := K) rfl) (by rfl) T.len_ (by decide +kernel) (pa_cons (pv 0) pa_nil)) pe_int)) (pw_or (pt_cmpR op_eq (pv 0) pe_str (nomark _)) (pw_or1 (pt_cmpR op_eq (pv 0) pe_str (nomark _)))))))
  (pss_one (ps_ret pe_bl))
  pss_nil)
  (pss_one (ps_ret (pe_cmpR (eqD (K := K) rfl (hu64 hr)) (pe_lc (own := [("one", 1)]) (g := gName 1) (by rfl) sc__law_is_fact.nd (pi_str (pv 0)) (blkOk_by (by kernel_rfl)) (fun _ _ _ _ _ => (pg_name (i := 1) sc__law_is_fact.nd rfl (.inl rfl))) (fun _ _ _ _ _ => (pts_one (pt_cmpR op_notIn_sign (pv 1) pe_str (by rfl)))) (fun _ _ _ _ _ => (pv 1))) (pe_lst pa_nil) (nomark _))))), ?_⟩
    rcases hk with ⟨z, rfl, hz, hasc⟩ | ⟨hn, t, ty, ek⟩
    · have no : factS z = false → ∀ H', Same H H' → Q (.bl false) H' := fun e H' s' => by
        have q' := q H' s'
        rw [show factV (.str z) = false from e] at q'
        exact q'
      refine ⟨_, rfl, .str z, .ty "str", .type "str", .type "str", true, rfl, .ty _, .base (.str z), kitStr, _, rfl, iteF ?_⟩
      refine ⟨_, rfl, .inr ⟨z, rfl, Nat.le_of_lt (small hz), 0, _, rfl, rfl, _, rfl, ite2 (fun h1 => ?_) (fun h1 => ?_)⟩⟩
      · have h1' : (0 : Int) < z.length := of_decide_eq_true h1
        refine ⟨_, 9, rfl, rfl, _, rfl, ?_⟩
        by_cases h8 : (z.length : Int) < 9
        · rw [decide_eq_true h8]
          refine iteF ?_
          refine ⟨_, rfl, rfl, _, rfl, ite2 (fun hy => ?_) (fun hy => ?_)⟩
          · have hy' : z = "yes" := V.str.inj (of_decide_eq_true hy)
            exact iteT (no (by rw [hy']; rfl) _ (Same.refl H))
          · have hy' : z ≠ "yes" := fun e => hy (decide_eq_true (congrArg V.str e))
            refine ⟨_, rfl, rfl, _, rfl, ite2 (fun hn => ?_) (fun hn => ?_)⟩
            · have hn' : z = "no" := V.str.inj (of_decide_eq_true hn)
              exact no (by rw [hn']; rfl) _ (Same.refl H)
            · have hn' : z ≠ "no" := fun e => hn (decide_eq_true (congrArg V.str e))
              -- the comprehension
              refine ⟨_, rfl, z, rfl, fun D nD => ?_⟩
              refine lcS (fun j acc H2 => Same H H2 ∧ acc = (((z.cps.toList.take j).filter fun c => !low c).map sg).map V.str) ⟨same_new nD, rfl⟩ ?_ ?_
              · rintro j c acc H2 hc hl e ⟨s3, ea⟩
                have hj : j < 1000000 := by
                  have := (Array.getElem?_eq_some_iff.mp hc).1
                  have e2 : z.cps.size = z.length := rfl
                  omega
                have step : z.cps.toList.take (j + 1) = z.cps.toList.take j ++ [c] := by
                  rw [List.take_add_one, Array.getElem?_toList, hc]
                  rfl
                refine ⟨_, rfl, c, _, rfl, rfl, _, rfl, ?_⟩
                rw [decide_eq_decide.mpr (abc_iff c)]
                refine ite2 (fun h => ?_) (fun h => ?_)
                · refine ⟨_, rfl, LcK.mk hl hj e ⟨fun b o eb => ?_, ?_⟩⟩
                  · rw [upd_ne (ne_of_none eb nD)]
                    exact s3 b o eb
                  · rw [ea, step, List.filter_append, List.map_append, List.map_append, show List.filter (fun c => !low c) [c] = [c] from List.filter_cons_of_pos (p := fun c => !low c) h]
                    rfl
                · refine ⟨acc, by omega, e, s3, ?_⟩
                  rw [ea, step, List.filter_append, show List.filter (fun c => !low c) [c] = [] from List.filter_cons_of_neg (p := fun c => !low c) h, List.append_nil]
              · rintro acc H2 hl e ⟨s3, ea⟩
                subst ea
                refine ⟨Nat.zero_le _, fun l nl => ?_⟩
                have s4 : Same H2 (upd H2 l (.lst [])) := same_new nl
                refine ⟨_, _, .lst (SqL.of (s4 _ _ e)) (dp_strs _), .lst (SqL.of upd_same) .nil, strs_shaped _ (fun y hy => ?_), strs_shaped [] (fun _ h => nomatch h), ?_⟩
                · obtain ⟨c, hc, rfl⟩ := List.mem_map.mp hy
                  have hc' : c ∈ z.cps.toList := List.mem_of_mem_take (List.mem_filter.mp hc).1
                  exact asc_ok (z := sg c) fun e he => by
                    have : e = c := by simpa [sg] using he
                    rw [this]
                    exact hasc c hc'
                rw [eqv_nil, List.isEmpty_map, List.isEmpty_map]
                have q' := q _ (s3.trans s4)
                rw [show factV (.str z) = (z.cps.toList.take z.cps.size |>.filter fun c => !low c).isEmpty from ?_] at q'
                · exact q'
                · show factS z = _
                  unfold factS
                  rw [decide_eq_true (show 1 ≤ z.length ∧ z.length ≤ 8 from ⟨by omega, by omega⟩), decide_eq_false hy', decide_eq_false hn', List.take_of_length_le (by rw [Array.length_toList]; exact Nat.le_refl _)]
                  exact all_filter _
        · rw [decide_eq_false h8]
          refine iteT (no ?_ _ (Same.refl H))
          unfold factS
          rw [decide_eq_false (fun h => h8 (by omega))]
          rfl
      · refine ⟨_, rfl, iteT (no ?_ _ (Same.refl H))⟩
        unfold factS
        rw [decide_eq_false (fun h => h1 (decide_eq_true (by omega)))]
        rfl
    · refine ⟨_, rfl, v, .ty "str", t, .type "str", false, rfl, .ty _, ty, ek, _, rfl, iteT ?_⟩
      have e : factV v = false := by
        cases v with
        | str z => exact absurd rfl (hn z)
        | _ => rfl
      have q' := q _ (Same.refl H)
      rw [e] at q'
      exact q'
end
end Eh

set_option Elab.async false
set_option linter.all false
set_option maxRecDepth 100000
namespace Eh
open PySem PySem.Spec PyProof.Rows L2
/-! texts -/
section
variable {X : Cx} {K : PySem.W.Frag}
theorem vals_at : ∀ {xs : List V} {us : List Value}, xs.length = us.length → (∀ (j : Nat) (x : V) (u : Value), xs[j]? = some x → us[j]? = some u → RelV x u) → Vals xs us
  | [], [], _, _ => .nil
  | x :: xs, [], h, _ => by simp at h
  | [], u :: us, h, _ => by simp at h
  | x :: xs, u :: us, h, k => .cons (k 0 x u rfl rfl) (vals_at (by simpa using h) fun j y v e1 e2 => k (j + 1) y v (by simpa using e1) (by simpa using e2))
theorem items_signs {x : Str} {acc : Array Value} (h : ItemsOf (SignAt x) acc x.cps.size) : Vals (x.cps.toList.map fun c => V.str (sg c)) acc.toList := by
  refine vals_at (by rw [List.length_map, Array.length_toList, Array.length_toList]; exact h.1.symm) fun j y u e1 e2 => ?_
  rw [Array.getElem?_toList] at e2
  obtain ⟨c, t, hc, rfl⟩ := h.2 j u e2
  rw [List.getElem?_map, Array.getElem?_toList, hc] at e1
  cases (show some (V.str (sg c)) = some y from e1)
  exact ⟨t, rfl⟩
theorem lstStr (hc : X.calm = true) : CallR X (.type "list") (fun xs H Q => ∃ z : Str, xs = [.str z] ∧ z.length ≤ sizeLine ∧ ∀ l, H l = none → Q (.ref l) (upd H l (.lst (z.cps.toList.map fun c => V.str (sg c))))) := by
  intro pins s σ H xs us Q I r h
  obtain ⟨z, rfl, hz, q⟩ := h
  cases r with
  | cons r1 r2 =>
    cases r2
    obtain ⟨t, rfl⟩ := r1
    refine call_list_str (I.ok.hd hc) z t (fun h' tk acc' c' kp e it => ?_) (hn := hz)
    exact ⟨.ref s.heap.objs.size, _, I.laid (t' := tk) kp (Nat.le_refl _) (show ObjOk X.prog X.w _ h' _ (.lst _) from ⟨by rw [List.length_map, Array.length_toList]; exact hz, acc'.toList, c', items_signs it, by rw [Array.toArray_toList]; exact e⟩), rfl, q _ (I.hok.fresh (Nat.le_refl _))⟩
theorem joinM (h : X.K = K) : MtR X "str.join" (fun x xs H Q => ∃ a p, ∃ ys : List Str, x = .str a ∧ xs = [.ref p] ∧ (SqL K H p (ys.map V.str) ∨ SqT K H p (ys.map V.str)) ∧
    (ys.map (·.length)).sum + ys.length * a.length ≤ 16777216 ∧ Q (.str (Txt.join a ys)) H) := by subst h; exact mt_join
end
/-- a text of at most n signs, all ASCII -/
def AscN (n : Nat) (z : Str) : Prop := z.length ≤ n ∧ ∀ c ∈ z.cps.toList, c < 128
def ascB (n : Nat) : V → Bool
  | .str z => decide (z.length ≤ n) && z.cps.toList.all fun c => decide (c < 128)
  | _ => false
theorem ascB_of {n : Nat} {x : V} (h : ascB n x = true) : ∃ z, x = .str z ∧ AscN n z := by
  cases x with
  | str z =>
    obtain ⟨h1, h2⟩ := (Bool.and_eq_true _ _).mp (show (decide (z.length ≤ n) && z.cps.toList.all fun c => decide (c < 128)) = true from h)
    exact ⟨z, rfl, of_decide_eq_true h1, fun c hc => of_decide_eq_true (List.all_eq_true.mp h2 c hc)⟩
  | _ => cases h
theorem asc_in {n : Nat} {x : V} {xs : List V} (h : xs.all (ascB n) = true) (hx : x ∈ xs) : ∃ z, x = .str z ∧ AscN n z := ascB_of (List.all_eq_true.mp h x hx)
theorem asc_app {m n : Nat} {a b : Str} (h1 : AscN m a) (h2 : AscN n b) : AscN (m + n) (a ++ b) := by
  refine ⟨?_, fun c hc => ?_⟩
  · have := Str.length_append a b
    have := h1.1
    have := h2.1
    omega
  · rw [Str.cps_append, Array.toList_append, List.mem_append] at hc
    exact hc.elim (h1.2 c) (h2.2 c)
theorem asc_join : ∀ {ys : List Str}, (∀ y ∈ ys, AscN 1 y) → AscN ys.length (Str.join "" ys)
  | [], _ => ⟨Nat.zero_le _, fun c hc => by cases hc⟩
  | [y], h => h y List.mem_cons_self
  | x :: z :: r, h => by
    have ih := asc_join (ys := z :: r) fun y hy => h y (List.mem_cons_of_mem _ hy)
    have e : AscN 0 ("" : Str) := ⟨Nat.le_refl _, fun c hc => by cases hc⟩
    have k := asc_app (asc_app (h x List.mem_cons_self) e) ih
    refine ⟨Nat.le_trans k.1 ?_, k.2⟩
    show 1 + 0 + (r.length + 1) ≤ r.length + 1 + 1
    omega
theorem sum_len : ∀ {ys : List Str}, (∀ y ∈ ys, AscN 1 y) → (ys.map (·.length)).sum ≤ ys.length
  | [], _ => Nat.le_refl _
  | y :: r, h => by
    have h1 := (h y List.mem_cons_self).1
    have h2 := sum_len (ys := r) fun z hz => h z (List.mem_cons_of_mem _ hz)
    rw [List.map_cons, List.sum_cons, List.length_cons]
    omega
theorem sg_asc {c : Nat} (h : c < 128) : AscN 1 (sg c) := ⟨Nat.le_refl _, fun e he => by
  have : e = c := by simpa [sg] using he
  omega⟩
/-- what `_law_value` gives -/
def Okv (d : Addr) (H : Hp) (v : V) : Prop := (∃ z, v = .str z ∧ Asc z) ∨ v = .non ∨ (∃ i, v = .int i) ∨ (∃ b, v = .bl b) ∨
  ∃ a, v = .ref a ∧ a ≠ d ∧ ((∃ xs, H a = some (.tup xs)) ∨ (∃ xs, H a = some (.lst xs)) ∨ ∃ kvs, H a = some (.dK kvs))
theorem Okv.gr {d : Addr} {H H' : Hp} {v : V} (h : Okv d H v) (g : Gr d H H') : Okv d H' v := by
  rcases h with h | h | h | h | ⟨a, e, n, h⟩
  · exact .inl h
  · exact .inr (.inl h)
  · exact .inr (.inr (.inl h))
  · exact .inr (.inr (.inr (.inl h)))
  · refine .inr (.inr (.inr (.inr ⟨a, e, n, ?_⟩)))
    rcases h with ⟨xs, h⟩ | ⟨xs, h⟩ | ⟨xs, h⟩
    · exact .inl ⟨xs, g.keep _ _ n h⟩
    · exact .inr (.inl ⟨xs, g.keep _ _ n h⟩)
    · exact .inr (.inr ⟨xs, g.keep _ _ n h⟩)
theorem Okv.kind {K : PySem.W.Frag} {d : Addr} {H : Hp} {v : V} (h : Okv d H v) : Kind K H v := by
  rcases h with h | rfl | ⟨i, rfl⟩ | ⟨b, rfl⟩ | ⟨a, rfl, n, h⟩
  · exact .inl h
  · exact .inr ⟨fun z e => (nomatch e), _, .base .non, kit_ty (by decide +kernel)⟩
  · exact .inr ⟨fun z e => (nomatch e), _, .base (.int i), kit_ty (by decide +kernel)⟩
  · exact .inr ⟨fun z e => (nomatch e), _, .base (.bl b), kit_ty (by decide +kernel)⟩
  · refine .inr ⟨fun z e => (nomatch e), ?_⟩
    rcases h with ⟨xs, h⟩ | ⟨xs, h⟩ | ⟨xs, h⟩
    · exact ⟨_, .base (.tup h), kit_ty (by decide +kernel)⟩
    · exact ⟨_, .base (.lst h), kit_ty (by decide +kernel)⟩
    · exact ⟨_, .base (.dK h), kit_ty (by decide +kernel)⟩
theorem AscN.asc {n : Nat} {z : Str} (h : AscN n z) (hn : n < 1000000) : Asc z := ⟨Nat.lt_of_le_of_lt h.1 hn, h.2⟩
end Eh

set_option Elab.async false
set_option linter.all false
set_option maxRecDepth 100000
namespace Eh
open PySem PySem.Spec PyProof.Rows L2
theorem same_gr {d : Addr} {H H' : Hp} (D : D3 H d) (s : Same H H') : Gr d H H' := by
  obtain ⟨g, b, c, e⟩ := D
  exact ⟨⟨g, b, c, s _ _ e⟩, fun a o _ z => s a o z⟩
theorem off_gr {d : Addr} {H H' : Hp} (D : D3 H' d) (k : ∀ b, b ≠ d → H' b = H b) : Gr d H H' := ⟨D, fun a o n e => by rw [k a n]; exact e⟩
section
variable {P : Program} {w : World} {K : PySem.W.Frag} {mg : Str → Option Value} {base : Heap}
abbrev s__law_value : Stmt := topS 9
theorem sc__law_value : FnScope ["dice", "signs", "some", "odd", "draw", "turn"] ["dice"] (defScope s__law_value) := ⟨rfl, rfl, rfl, by decide +kernel, rfl, by decide +kernel, by decide +kernel⟩
def spValue : Sp := fun vs H Q _ => ∃ d, vs = [.ref d] ∧ D3 H d ∧ ∀ v H', Gr d H H' → Okv d H' v → Q v H'
def extra : List V := [.str "", .str "", .str "A", .str " ", .str "!", .str "0", .str "_", .str "&", .str "|", .str ",", .str "\n"]
def odds (a1 a2 a3 a4 : Addr) : List V := [.non, .int 0, .bl true, .ref a1, .ref a2, .ref a3, .ref a4, .int (10 ^ (59 : Int).toNat), .str "Rain", .str "a b", .str "a1", .str "", .str "abcdefghi", .str "abcdefgh", .str "yes", .str "no"]
def mores : List V := [.str "yess", .str "noo", .str "not", .str "all", .str "!a", .str "Yes"]
theorem p59 : (0 : Int) ≤ 59 ∧ (59 : Int) ≤ 1000000 ∧ (10 : Int).natAbs < 2 ^ 64 := by decide
theorem lenOk22 : 16 + 6 ≤ sizeLine := by decide
theorem ok_value {f fR fP fS : Addr} {fd fdR fdP fdS : FuncData} (F : Fun K "_law_value" "_law_value" s__law_value f fd) (T : Txt mg)
    (C__law_roll : Cal P w K mg base 1 "_law_roll" fR fdR ["dice", "many"] spRoll) (C__law_pick : Cal P w K mg base 2 "_law_pick" fP fdP ["dice", "items"] (spPick K)) (C__law_some : Cal P w K mg base 2 "_law_some" fS fdS ["dice", "items", "size"] (spSome K)) :
    FnOk P w K mg base CX0 3 f fd ["dice"] spValue := by
  refine F.ok sc__law_value (fun vs H Q E h => ?_) (fun cdv A outer s H vs Q E hr h => ?_)
  · obtain ⟨d, rfl, _⟩ := h
    rfl
  · obtain ⟨d, rfl, D, q⟩ := h
    have hr1 : Room 1 (A.deeper (envOfC "_law_value" (defScope s__law_value) s.heap.objs.size f cdv)) := hr.mono (by decide)
    refine ⟨_, (pss_cons (ps_set (i := 1) sc__law_value.nd rfl (.inr rfl) (pe_op op_add_str pe_str (pe_call C__law_pick.G hr (by rfl) C__law_pick.m C__law_pick.k C__law_pick.b .nil pass0 (pa_cons (pv 0) (pa_cons (pe_lst (pa_cons pe_str (pa_cons pe_str (pa_cons pe_str (pa_cons pe_str (pa_cons pe_str (pa_cons pe_str (pa_cons pe_str (pa_cons pe_str (pa_cons pe_str (pa_cons pe_str (pa_cons pe_str pa_nil)))))))))))) pa_nil)))))
  (pss_cons (ps_setLc (i := 2) (own := [("draw", 4)]) (g := gName 4) (by rfl) sc__law_value.nd rfl rfl (sw_true rfl rfl rfl (by decide +kernel)) (pi_range1 (by rfl) T.range_ (pa_cons pe_int pa_nil)) (blkOk_by (by kernel_rfl)) (fun _ _ _ _ _ => (pg_name (i := 4) sc__law_value.nd rfl (.inl rfl))) (fun _ _ _ _ _ => pts_nil) (fun _ _ _ _ _ => (bmK (K := K) rfl (pe_bm PySem.F.plainAttrs_str PySem.F.slot_str_join PySem.F.type_str_join (joinM (K := K) rfl) pe_str (pa_cons (pe_lc (own := [("turn", 5)]) (g := gName 5) (by rfl) sc__law_value.nd (pi_range1 (by rfl) T.range_ (pa_cons (pe_call C__law_roll.G hr1 (by rfl) C__law_roll.m C__law_roll.k C__law_roll.b .nil pass0 (pa_cons (pv 0) (pa_cons pe_int pa_nil))) pa_nil)) (blkOk_by (by kernel_rfl)) (fun _ _ _ _ _ => (pg_name (i := 5) sc__law_value.nd rfl (.inl rfl))) (fun _ _ _ _ _ => pts_nil) (fun _ _ _ _ _ => (pe_call C__law_pick.G hr (by rfl) C__law_pick.m C__law_pick.k C__law_pick.b .nil pass0 (pa_cons (pv 0) (pa_cons (pe_callTy (lstStr (by rfl)) (by rfl) T.list_ (by decide +kernel) (pa_cons (pv 1) pa_nil)) pa_nil))))) pa_nil)))))
  (pss_cons (ps_set (i := 3) sc__law_value.nd rfl (.inl rfl) (pe_lst (pa_cons pe_non (pa_cons pe_int (pa_cons pe_bl (pa_cons (pe_tup pa_nil) (pa_cons (pe_tup (pa_cons pe_str pa_nil)) (pa_cons (pe_lst (pa_cons pe_str pa_nil)) (pa_cons pe_dnewK (pa_cons (pe_op op_pow pe_int pe_int) (pa_cons pe_str (pa_cons pe_str (pa_cons pe_str (pa_cons pe_str (pa_cons pe_str (pa_cons pe_str (pa_cons pe_str (pa_cons pe_str pa_nil))))))))))))))))))
  (pss_one (ps_ret (pe_call C__law_pick.G hr (by rfl) C__law_pick.m C__law_pick.k C__law_pick.b .nil pass0 (pa_cons (pv 0) (pa_cons (pe_op op_cat (pv 2) (pe_call C__law_some.G hr (by rfl) C__law_some.m C__law_some.k C__law_some.b .nil pass0 (pa_cons (pv 0) (pa_cons (pe_op op_cat (pv 3) (pe_lst (pa_cons pe_str (pa_cons pe_str (pa_cons pe_str (pa_cons pe_str (pa_cons pe_str (pa_cons pe_str pa_nil)))))))) (pa_cons pe_int pa_nil))))) pa_nil)))))))), ?_⟩
    -- signs
    refine ⟨_, rfl, lenOk 11, fun l nl => ⟨d, l, extra, rfl, (Gr.laid D nl).dice, SqL.of upd_same, D.ne nl, by decide, by decide, fun x H1 hx D1 k1 => ?_⟩⟩
    obtain ⟨e, rfl, he⟩ := asc_in (n := 1) (xs := extra) (by decide +kernel) hx
    have g1 : Gr d H H1 := (Gr.laid D nl).trans (off_gr D1 k1)
    have hB : AscN 21 ("aabcdehklnoorsstyyeez" : Str) := by
      refine ⟨by decide +kernel, fun c hc => ?_⟩
      have h : (("aabcdehklnoorsstyyeez" : Str).cps.toList.all fun c => decide (c < 128)) = true := by decide +kernel
      exact of_decide_eq_true (List.all_eq_true.mp h c hc)
    have hL : ("aabcdehklnoorsstyyeez" : Str).length = 21 := by decide +kernel
    refine ⟨_, e, rfl, rfl, ?_, ?_⟩
    · have := he.1
      rw [hL, sizeLine_eq]
      omega
    have hS := asc_app hB he
    have hS0 : 0 < (("aabcdehklnoorsstyyeez" : Str) ++ e).length := by
      rw [Str.length_append, hL]
      omega
    generalize (("aabcdehklnoorsstyyeez" : Str) ++ e) = signs at hS hS0
    -- some
    refine ⟨5, rfl, by decide, by decide, fun S nS => ?_⟩
    have nSd : S ≠ d := g1.dice.ne nS
    have nSH : H S = none := g1.free D nS
    refine lcR (fun j acc H2 => Gr d H H2 ∧ ∀ x ∈ acc, ∃ z, x = .str z ∧ AscN 20 z) ⟨g1.put nSH nSd, fun _ h => nomatch h⟩ ?_ ?_
    · rintro j acc H2 hj hl eS ⟨g2, hacc⟩
      have hj5 : j < 5 := hj
      -- ''.join([..])
      refine ⟨rfl, _, rfl, d, 11, rfl, g2.dice, by decide, by decide, fun r H3 r0 r1 D3' k3 => ?_⟩
      have g3 : Gr d H2 H3 := off_gr D3' k3
      refine ⟨r, rfl, by omega, by omega, fun R nR => ?_⟩
      have nRd : R ≠ d := g3.dice.ne nR
      have nR2 : H2 R = none := g3.free g2.dice nR
      have eS3 : H3 S = some (.lst acc) := g3.keep _ _ nSd eS
      have hRS : R ≠ S := (ne_of_none eS3 nR).symm
      refine lcR (fun i acc2 H4 => Gr d H2 H4 ∧ ∃ ys : List Str, acc2 = ys.map V.str ∧ ∀ y ∈ ys, AscN 1 y) ⟨g3.put nR2 nRd, [], rfl, fun _ h => nomatch h⟩ ?_ ?_
      · rintro i acc2 H4 hi hl2 eR ⟨g4, ys, ea, hys⟩
        have hi' : i < 1000000 := by omega
        refine ⟨_, rfl, _, rfl, signs, rfl, ?_, fun t nt => ⟨d, t, _, rfl, (Gr.laid g4.dice nt).dice, SqL.of upd_same, g4.dice.ne nt, ?_, ?_, fun x H5 hx D5 k5 => ?_⟩⟩
        · have := hS.1
          rw [sizeLine_eq]
          omega
        · rw [List.length_map, Array.length_toList]
          exact hS0
        · rw [List.length_map, Array.length_toList]
          exact Nat.lt_of_le_of_lt hS.1 (by decide)
        · obtain ⟨c, hc, rfl⟩ := List.mem_map.mp hx
          have g5 : Gr d H4 H5 := (Gr.laid g4.dice nt).trans (off_gr D5 k5)
          refine LcK.mk hl2 hi' (g5.keep _ _ nRd eR) ⟨(g4.trans g5).put nR2 nRd, ys ++ [sg c], by rw [ea, List.map_append]; rfl, fun y hy => ?_⟩
          rcases List.mem_append.mp hy with h | h
          · exact hys y h
          · rw [List.mem_singleton.mp h]
            exact sg_asc (hS.2 c hc)
      · rintro acc2 H4 hl2 eR ⟨g4, ys, ea, hys⟩
        have hly : ys.length ≤ 11 := by
          rw [ea, List.length_map] at hl2
          omega
        have hsum := sum_len hys
        refine ⟨"", R, ys, rfl, rfl, .inl (SqL.of (by rw [eR, ea])), ?_, ?_⟩
        · show _ + ys.length * 0 ≤ _
          omega
        · have hjn := asc_join hys
          rw [_root_.TL.join_eq]
          refine LcK.mk hl (by omega) (g4.keep _ _ nSd eS) ⟨(g2.trans g4).put nSH nSd, fun x hx => ?_⟩
          rcases List.mem_append.mp hx with h | h
          · exact hacc x h
          · rw [List.mem_singleton.mp h]
            exact ⟨_, rfl, by have := hjn.1; omega, hjn.2⟩
    · rintro acc H2 hl eS ⟨g2, hacc⟩
      -- odd
      refine ⟨Nat.zero_le _, fun a1 n1 => ?_⟩
      refine ⟨lenOk 1, fun a2 n2 => ⟨lenOk 1, fun a3 n3 a4 n4 => ?_⟩⟩
      refine ⟨_, _, rfl, rfl, p59, lenOk 16, fun a5 n5 => ?_⟩
      have gA := Gr.laid (o := .tup []) g2.dice n1
      have gB := Gr.laid (o := .tup [.str "a"]) gA.dice n2
      have gC := Gr.laid (o := .lst [.str "a"]) gB.dice n3
      have gD := Gr.laid (o := .dK []) gC.dice n4
      have gE := Gr.laid (o := .lst (odds a1 a2 a3 a4)) gD.dice n5
      have gAE := gB.trans (gC.trans (gD.trans gE))
      have okA : Okv d _ (.ref a1) := Okv.gr (.inr (.inr (.inr (.inr ⟨a1, rfl, g2.dice.ne n1, .inl ⟨_, upd_same⟩⟩)))) gAE
      have okB : Okv d _ (.ref a2) := Okv.gr (.inr (.inr (.inr (.inr ⟨a2, rfl, gA.dice.ne n2, .inl ⟨_, upd_same⟩⟩)))) (gC.trans (gD.trans gE))
      have okC : Okv d _ (.ref a3) := Okv.gr (.inr (.inr (.inr (.inr ⟨a3, rfl, gB.dice.ne n3, .inr (.inl ⟨_, upd_same⟩)⟩)))) (gD.trans gE)
      have okD : Okv d _ (.ref a4) := Okv.gr (.inr (.inr (.inr (.inr ⟨a4, rfl, gC.dice.ne n4, .inr (.inr ⟨_, upd_same⟩)⟩)))) gE
      have e5 : (upd (upd (upd (upd (upd H2 a1 (.tup [])) a2 (.tup [.str "a"])) a3 (.lst [.str "a"])) a4 (.dK [])) a5 (.lst (odds a1 a2 a3 a4))) a5 = some (.lst (odds a1 a2 a3 a4)) := upd_same
      have n5d : a5 ≠ d := gD.dice.ne n5
      have g6 : Gr d H2 _ := gA.trans gAE
      show gName 3 (.ref a5) _ (upd (upd (upd (upd (upd H2 a1 (.tup [])) a2 (.tup [.str "a"])) a3 (.lst [.str "a"])) a4 (.dK [])) a5 (.lst (odds a1 a2 a3 a4))) _
      generalize (upd (upd (upd (upd (upd H2 a1 (.tup [])) a2 (.tup [.str "a"])) a3 (.lst [.str "a"])) a4 (.dK [])) a5 (.lst (odds a1 a2 a3 a4))) = H6 at okA okB okC okD e5 g6 gE gAE
      refine ⟨_, rfl, _, rfl, _, rfl, _, rfl, lenOk 6, fun a6 n6 => ?_⟩
      have g7 := Gr.laid (o := .lst mores) g6.dice n6
      refine ⟨a5, a6, _, _, rfl, rfl, g7.keep _ _ n5d e5, upd_same, lenOk22, fun a7 n7 => ?_⟩
      have g8 := Gr.laid (o := .lst (odds a1 a2 a3 a4 ++ mores)) g7.dice n7
      refine ⟨d, a7, _, 4, rfl, g8.dice, SqL.of upd_same, g7.dice.ne n7, (by show 22 < 1000000; decide), by decide, fun ys p H7 hs hlen g9 np ep => ?_⟩
      have hly : ys.length = 4 := hlen
      have hla : acc.length ≤ 5 := hl
      have npd : p ≠ d := g8.dice.ne np
      have g69 := g7.trans (g8.trans g9)
      refine ⟨S, p, acc, ys, rfl, rfl, g69.keep _ _ nSd (g6.keep _ _ nSd eS), ep, by rw [sizeLine_eq]; omega, fun a8 n8 => ?_⟩
      have g10 := Gr.laid (o := .lst (acc ++ ys)) g9.dice n8
      refine ⟨d, a8, _, rfl, g10.dice, SqL.of upd_same, g9.dice.ne n8, by rw [List.length_append]; omega, by rw [List.length_append]; omega, fun x H9 hx D9 k9 => ?_⟩
      have g11 : Gr d H6 H9 := g69.trans (g10.trans (off_gr D9 k9))
      refine q x H9 (g2.trans (g6.trans g11)) ?_
      rcases List.mem_append.mp hx with hx | hx
      · obtain ⟨z, rfl, hz⟩ := hacc x hx
        exact .inl ⟨z, rfl, hz.asc (by decide)⟩
      · obtain ⟨rest, hp⟩ := hs
        have hx' : x ∈ odds a1 a2 a3 a4 ++ mores := hp.subset (List.mem_append_left _ hx)
        refine Okv.gr ?_ g11
        rcases List.mem_append.mp hx' with hx' | hx'
        · rcases List.mem_cons.mp hx' with rfl | hx'
          · exact .inr (.inl rfl)
          rcases List.mem_cons.mp hx' with rfl | hx'
          · exact .inr (.inr (.inl ⟨_, rfl⟩))
          rcases List.mem_cons.mp hx' with rfl | hx'
          · exact .inr (.inr (.inr (.inl ⟨_, rfl⟩)))
          rcases List.mem_cons.mp hx' with rfl | hx'
          · exact okA
          rcases List.mem_cons.mp hx' with rfl | hx'
          · exact okB
          rcases List.mem_cons.mp hx' with rfl | hx'
          · exact okC
          rcases List.mem_cons.mp hx' with rfl | hx'
          · exact okD
          rcases List.mem_cons.mp hx' with rfl | hx'
          · exact .inr (.inr (.inl ⟨_, rfl⟩))
          obtain ⟨z, rfl, hz⟩ := asc_in (n := 20) (by decide +kernel) hx'
          exact .inl ⟨z, rfl, hz.asc (by decide)⟩
        · obtain ⟨z, rfl, hz⟩ := asc_in (n := 20) (xs := mores) (by decide +kernel) hx'
          exact .inl ⟨z, rfl, hz.asc (by decide)⟩
end
end Eh

set_option Elab.async false
set_option linter.all false
set_option maxRecDepth 100000
namespace Eh
open PySem PySem.Spec PyProof.Rows L2
theorem gr_same {d : Addr} {H0 H H' : Hp} (n : H0 d = none) (s : Same H0 H) (g : Gr d H H') : Same H0 H' := fun b o e => g.keep b o (ne_of_none e n) (s b o e)
theorem neSelf {A B : Prop} {v : V} (h : B) : if (!decide (v = v)) = true then A else B := by
  rw [decide_eq_true rfl]
  exact iteF h
theorem iteT' {c : Bool} {A B : Prop} (e : c = true) (h : A) : if c = true then A else B := by
  rw [if_pos e]
  exact h
def words : List Str := ["rain", "", "abcdefgh", "abcdefghi", "a b", "yes", "no", "X", "not"]
theorem words_asc : ∀ z ∈ words, Asc z := fun z hz => by
  have h : (words.all fun z => ascB 20 (.str z)) = true := by decide +kernel
  obtain ⟨y, e, hy⟩ := ascB_of (List.all_eq_true.mp h z hz)
  cases e
  exact hy.asc (by decide)
theorem words_fact : words.map factS = [true, false, true, false, false, false, false, false, true] := by decide +kernel
theorem dp_bls {K : PySem.W.Frag} {H : Hp} : ∀ zs : List Bool, DpAll K H (zs.map V.bl) (zs.map PyData.bool)
  | [] => .nil
  | z :: zs => .cons (.bl z) (dp_bls zs)
section
variable {P : Program} {w : World} {K : PySem.W.Frag} {mg : Str → Option Value} {base : Heap}
abbrev s_law : Stmt := topS 10
theorem sc_law : FnScope ["script", "spot", "dice", "turn", "value", "told", "one"] ["script"] (defScope s_law) := ⟨rfl, rfl, rfl, by decide +kernel, rfl, by decide +kernel, by decide +kernel⟩
def spLaw (K : PySem.W.Frag) : Sp := fun vs H Q _ => ∃ (a : Addr) (ns : List Int), vs = [.ref a] ∧ SqL K H a (ns.map V.int) ∧ ns.length ≤ 63 ∧ ∀ H', Q (.bl true) H'
theorem ok_law {f fD fV fI fL : Addr} {fd fdD fdV fdI fdL : FuncData} (F : Fun K "law" "law" s_law f fd) (T : Txt mg) (c8 : ∃ t, mg "MAX_LETTERS" = some (.int 8 t))
    (C__law_dice : Cal P w K mg base 1 "_law_dice" fD fdD ["script", "spot"] (spDice K)) (C__law_value : Cal P w K mg base 3 "_law_value" fV fdV ["dice"] spValue)
    (C_is_fact : Cal P w K mg base 1 "is_fact" fI fdI ["value"] (spFact K)) (C__law_is_fact : Cal P w K mg base 1 "_law_is_fact" fL fdL ["value"] (spFact K)) :
    FnOk P w K mg base CX0 4 f fd ["script"] (spLaw K) := by
  obtain ⟨t8, e8⟩ := c8
  refine F.ok sc_law (fun vs H Q E h => ?_) (fun cdv A outer s H vs Q E hr h => ?_)
  · obtain ⟨a, ns, rfl, _⟩ := h
    rfl
  · obtain ⟨a, ns, rfl, hS, hl, q⟩ := h
    have hr1 : Room 1 (A.deeper (envOfC "law" (defScope s_law) s.heap.objs.size f cdv)) := hr.mono (by decide)
    refine ⟨_, (pss_cons (ps_for PassesOwn.never (by rfl) (pi_range1 (by rfl) T.range_ (pa_cons (pe_callB (call_max2 (by rfl)) (by rfl) T.max_ (by decide +kernel) (pa_cons pe_int (pa_cons (pe_callB (call_min2 (by rfl)) (by rfl) T.min_ (by decide +kernel) (pa_cons pe_int (pa_cons (pe_callB (lenQ (K := K) rfl) (by rfl) T.len_ (by decide +kernel) (pa_cons (pv 0) pa_nil)) pa_nil))) pa_nil))) pa_nil)) (pg_name (i := 1) sc_law.nd rfl (.inl rfl))
  (pss_cons (ps_set (i := 2) sc_law.nd rfl (.inl rfl) (pe_call C__law_dice.G hr1 (by rfl) C__law_dice.m C__law_dice.k C__law_dice.b .nil pass0 (pa_cons (pv 0) (pa_cons (pv 1) pa_nil))))
  (pss_one (ps_for PassesOwn.never (by rfl) (pi_range1 (by rfl) T.range_ (pa_cons pe_int pa_nil)) (pg_name (i := 3) sc_law.nd rfl (.inl rfl))
  (pss_cons (ps_set (i := 4) sc_law.nd rfl (.inl rfl) (pe_call C__law_value.G hr (by rfl) C__law_value.m C__law_value.k C__law_value.b .nil pass0 (pa_cons (pv 2) pa_nil)))
  (pss_one (ps_if (pt_cmpR op_ne (pe_callB call_repr_bl (by rfl) T.repr_ (by decide +kernel) (pa_cons (pe_call C_is_fact.G hr1 (by rfl) C_is_fact.m C_is_fact.k C_is_fact.b .nil pass0 (pa_cons (pv 4) pa_nil)) pa_nil)) (pe_callB call_repr_bl (by rfl) T.repr_ (by decide +kernel) (pa_cons (pe_call C__law_is_fact.G hr1 (by rfl) C__law_is_fact.m C__law_is_fact.k C__law_is_fact.b .nil pass0 (pa_cons (pv 4) pa_nil)) pa_nil)) (nomark _))
  (pss_one (ps_ret pe_bl))
  pss_nil)))))))
  (pss_cons (ps_setLc (i := 5) (own := [("one", 6)]) (g := gName 6) (by rfl) sc_law.nd rfl rfl (sw_true rfl rfl rfl (by decide +kernel)) (piL (K := K) rfl (pe_lst (pa_cons pe_str (pa_cons pe_str (pa_cons pe_str (pa_cons pe_str (pa_cons pe_str (pa_cons pe_str (pa_cons pe_str (pa_cons pe_str (pa_cons pe_str pa_nil))))))))))) (blkOk_by (by kernel_rfl)) (fun _ _ _ _ _ => (pg_name (i := 6) sc_law.nd rfl (.inl rfl))) (fun _ _ _ _ _ => pts_nil) (fun _ _ _ _ _ => (pe_call C_is_fact.G hr1 (by rfl) C_is_fact.m C_is_fact.k C_is_fact.b .nil pass0 (pa_cons (pv 6) pa_nil))))
  (pss_one (ps_ret (pe_and (pe_cmpR (eqD (K := K) rfl (hu64 hr)) (pv 5) (pe_lst (pa_cons pe_bl (pa_cons pe_bl (pa_cons pe_bl (pa_cons pe_bl (pa_cons pe_bl (pa_cons pe_bl (pa_cons pe_bl (pa_cons pe_bl (pa_cons pe_bl pa_nil)))))))))) (nomark _)) (pe_one (pe_cmpR op_eq (pe_glob (v := .int 8) rfl e8 ⟨_, rfl⟩) pe_int (nomark _)))))))), ?_⟩
    -- the spots
    refine ⟨_, rfl, .inl ⟨a, _, rfl, .inl hS, _, _, rfl, _, _, rfl, ?_⟩⟩
    obtain ⟨m, em, hm⟩ : ∃ m : Int, (if (if ((ns.map V.int).length : Int) < 8 then ((ns.map V.int).length : Int) else 8) > 1 then (if ((ns.map V.int).length : Int) < 8 then ((ns.map V.int).length : Int) else 8) else 1) = m ∧ 0 ≤ m ∧ m ≤ 8 := by
      refine ⟨_, rfl, ?_⟩
      split <;> (try split) <;> omega
    rw [em]
    refine ⟨m, rfl, by omega, by omega, ?_⟩
    refine for_range (lo := 0) (n := m.toNat) (fun i σ H2 => (∃ x1 x2 x3 x4, σ = [some (.ref a), x1, x2, x3, x4, none, none]) ∧ Same H H2) ⟨⟨none, none, none, none, rfl⟩, Same.refl H⟩ ?_ ?_
    · rintro i σ H2 hi ⟨⟨x1, x2, x3, x4, rfl⟩, s2⟩
      refine ⟨_, rfl, _, rfl, a, ns, i, by rw [Int.zero_add]; rfl, s2.seq hS, fun d H3 s3 n3 D3' => ?_⟩
      have nd : H d = none := s2.free n3
      refine ⟨30, rfl, by decide, by decide, ?_⟩
      refine for_range (lo := 0) (n := 30) (fun j σ H4 => (∃ x1 x3 x4, σ = [some (.ref a), x1, some (.ref d), x3, x4, none, none]) ∧ Same H H4 ∧ D3 H4 d) ⟨⟨_, _, _, rfl⟩, s2.trans s3, D3'⟩ ?_ ?_
      · rintro j σ H4 hj ⟨⟨x1, x3, x4, rfl⟩, s4, D4⟩
        refine ⟨_, rfl, d, rfl, D4, fun v H5 g5 ok => ?_⟩
        have k5 : Kind K H5 v := ok.kind
        refine ⟨_, rfl, v, rfl, k5, fun H6 s6 => ⟨_, rfl, ?_⟩⟩
        have g6 := same_gr g5.dice s6
        refine ⟨_, rfl, v, rfl, (ok.gr g6).kind, fun H7 s7 => ⟨_, rfl, rfl, _, rfl, neSelf ?_⟩⟩
        have g7 := g5.trans (g6.trans (same_gr g6.dice s7))
        exact ⟨⟨_, _, _, rfl⟩, gr_same nd s4 g7, g7.dice⟩
      · rintro σ H4 ⟨⟨x1, x3, x4, rfl⟩, s4, D4⟩
        exact ⟨⟨_, _, _, _, rfl⟩, s4⟩
    · rintro σ H2 ⟨⟨x1, x2, x3, x4, rfl⟩, s2⟩
      refine ⟨lenOk 9, fun l nl => ⟨l, rfl, ⟨_, SqL.of upd_same⟩, fun D nD => ?_⟩⟩
      have nDl : D ≠ l := fun e => by rw [e, upd_same] at nD; cases nD
      refine lcL (xs := words.map V.str) (fun j acc H3 => H3 l = some (.lst (words.map V.str)) ∧ acc = ((words.take j).map factS).map V.bl) ⟨by rw [upd_ne nDl.symm]; exact upd_same, rfl⟩ (fun j acc H3 h => SqL.of h.1) ?_ ?_
      · rintro j x acc H3 hx hl3 eD ⟨el, ea⟩
        have hj : j < 9 := by
          have := (List.getElem?_eq_some_iff.mp hx).1
          exact this
        obtain ⟨z, hz, rfl⟩ : ∃ z, words[j]? = some z ∧ x = .str z := by
          rw [List.getElem?_map] at hx
          cases hw : words[j]? with
          | none => rw [hw] at hx; cases hx
          | some z => rw [hw] at hx; exact ⟨z, rfl, (Option.some.inj hx).symm⟩
        refine yesT ?_
        refine ⟨_, rfl, _, rfl, .inl ⟨z, rfl, words_asc z (List.mem_of_getElem? hz)⟩, fun H4 s4 => ?_⟩
        refine LcK.mk hl3 (by omega) (s4 _ _ eD) ⟨?_, ?_⟩
        · rw [upd_ne nDl.symm]
          exact s4 _ _ el
        · rw [ea, all_take hz, List.map_append]
          rfl
      · rintro acc H3 hl3 eD ⟨el, ea⟩
        have ea' : acc = [true, false, true, false, false, false, false, false, true].map V.bl := by
          rw [ea, ← words_fact]
          rfl
        subst ea'
        refine ⟨_, rfl, lenOk 9, fun r nr => ?_⟩
        refine ⟨_, _, .lst (SqL.of (same_new nr _ _ eD)) (dp_bls _), .lst (SqL.of upd_same) (dp_bls [true, false, true, false, false, false, false, false, true]), by decide +kernel, by decide +kernel, _, rfl, ?_⟩
        refine iteT' (by decide +kernel) ?_
        exact ⟨rfl, q _⟩
end
end Eh

set_option Elab.async false
set_option linter.all false
set_option maxRecDepth 100000
namespace Eh
open PySem PySem.Spec PyProof.Rows L2
theorem all_mk {l : PySem.W.OpenLaw} {w : World} {K : PySem.W.Frag} {h : Heap} {mg : Str → Option Value} {fa f1 f2 f3 f4 f5 f6 f7 f8 : Addr} (X : K.In h) (G : h.Ns mainGlobals mg) (hfa : mg "law" = some (.ref fa))
    {od1 an1 od2 an2 od3 an3 od4 an4 od5 an5 od6 an6 od7 an7 od8 an8 : Option Addr} {sl1 sl2 sl3 sl4 sl5 sl6 sl7 sl8 : Array (Option Value)} {oc1 kV1 dc1 pm1 cd1 ct1 oc2 kV2 dc2 pm2 cd2 ct2 oc3 kV3 dc3 pm3 cd3 ct3 oc4 kV4 dc4 pm4 cd4 ct4 oc5 kV5 dc5 pm5 cd5 ct5 oc6 kV6 dc6 pm6 cd6 ct6 oc7 kV7 dc7 pm7 cd7 ct7 oc8 kV8 dc8 pm8 cd8 ct8 : Value}
    (a1 : PySem.W.nsIn K mainGlobals "_law_roll" = some (some (.ref f1))) (l1 : K.lookup f1 = some ⟨oc1, od1, .func (PySem.W.fnOf "_law_roll" "_law_roll" (defArgs s__law_roll) (defBody s__law_roll) (defScope s__law_roll) .none kV1 dc1 pm1 an1 cd1 ct1), sl1⟩) (c1 : PySem.W.codeIn K cd1 "_law_roll" = true) (k1 : PySem.W.keepIn K (.ref f1) = true)
    (a2 : PySem.W.nsIn K mainGlobals "_law_pick" = some (some (.ref f2))) (l2 : K.lookup f2 = some ⟨oc2, od2, .func (PySem.W.fnOf "_law_pick" "_law_pick" (defArgs s__law_pick) (defBody s__law_pick) (defScope s__law_pick) .none kV2 dc2 pm2 an2 cd2 ct2), sl2⟩) (c2 : PySem.W.codeIn K cd2 "_law_pick" = true) (k2 : PySem.W.keepIn K (.ref f2) = true)
    (a3 : PySem.W.nsIn K mainGlobals "_law_some" = some (some (.ref f3))) (l3 : K.lookup f3 = some ⟨oc3, od3, .func (PySem.W.fnOf "_law_some" "_law_some" (defArgs s__law_some) (defBody s__law_some) (defScope s__law_some) .none kV3 dc3 pm3 an3 cd3 ct3), sl3⟩) (c3 : PySem.W.codeIn K cd3 "_law_some" = true) (k3 : PySem.W.keepIn K (.ref f3) = true)
    (a4 : PySem.W.nsIn K mainGlobals "_law_dice" = some (some (.ref f4))) (l4 : K.lookup f4 = some ⟨oc4, od4, .func (PySem.W.fnOf "_law_dice" "_law_dice" (defArgs s__law_dice) (defBody s__law_dice) (defScope s__law_dice) .none kV4 dc4 pm4 an4 cd4 ct4), sl4⟩) (c4 : PySem.W.codeIn K cd4 "_law_dice" = true) (k4 : PySem.W.keepIn K (.ref f4) = true)
    (a5 : PySem.W.nsIn K mainGlobals "is_fact" = some (some (.ref f5))) (l5 : K.lookup f5 = some ⟨oc5, od5, .func (PySem.W.fnOf "is_fact" "is_fact" (defArgs s_is_fact) (defBody s_is_fact) (defScope s_is_fact) .none kV5 dc5 pm5 an5 cd5 ct5), sl5⟩) (c5 : PySem.W.codeIn K cd5 "is_fact" = true) (k5 : PySem.W.keepIn K (.ref f5) = true)
    (a6 : PySem.W.nsIn K mainGlobals "_law_is_fact" = some (some (.ref f6))) (l6 : K.lookup f6 = some ⟨oc6, od6, .func (PySem.W.fnOf "_law_is_fact" "_law_is_fact" (defArgs s__law_is_fact) (defBody s__law_is_fact) (defScope s__law_is_fact) .none kV6 dc6 pm6 an6 cd6 ct6), sl6⟩) (c6 : PySem.W.codeIn K cd6 "_law_is_fact" = true) (k6 : PySem.W.keepIn K (.ref f6) = true)
    (a7 : PySem.W.nsIn K mainGlobals "_law_value" = some (some (.ref f7))) (l7 : K.lookup f7 = some ⟨oc7, od7, .func (PySem.W.fnOf "_law_value" "_law_value" (defArgs s__law_value) (defBody s__law_value) (defScope s__law_value) .none kV7 dc7 pm7 an7 cd7 ct7), sl7⟩) (c7 : PySem.W.codeIn K cd7 "_law_value" = true) (k7 : PySem.W.keepIn K (.ref f7) = true)
    (a8 : PySem.W.nsIn K mainGlobals "law" = some (some (.ref f8))) (l8 : K.lookup f8 = some ⟨oc8, od8, .func (PySem.W.fnOf "law" "law" (defArgs s_law) (defBody s_law) (defScope s_law) .none kV8 dc8 pm8 an8 cd8 ct8), sl8⟩) (c8 : PySem.W.codeIn K cd8 "law" = true) (k8 : PySem.W.keepIn K (.ref f8) = true)
    (z1 : PySem.W.nsIn K mainGlobals "len" = some none)
    (z2 : PySem.W.nsIn K mainGlobals "int" = some none)
    (z3 : PySem.W.nsIn K mainGlobals "abs" = some none)
    (z4 : PySem.W.nsIn K mainGlobals "max" = some none)
    (z5 : PySem.W.nsIn K mainGlobals "min" = some none)
    (z6 : PySem.W.nsIn K mainGlobals "range" = some none)
    (z7 : PySem.W.nsIn K mainGlobals "list" = some none)
    (z8 : PySem.W.nsIn K mainGlobals "str" = some none)
    (z9 : PySem.W.nsIn K mainGlobals "all" = some none)
    (z10 : PySem.W.nsIn K mainGlobals "isinstance" = some none)
    (z11 : PySem.W.nsIn K mainGlobals "repr" = some none)
    {t1 : Tok} (i1 : PySem.W.nsIn K mainGlobals "MAX_LETTERS" = some (some (.int 8 t1)))
    : ∃ fd : FuncData, (∀ (s : Shared) (v : Value), BindsTo s fd ⟨[v], []⟩ [("script", v)]) ∧ ∀ base : Heap, K.In base → base.Ns mainGlobals mg → FnOk l.prog w K mg base CX0 4 fa fd ["script"] (spLaw K) := by
  have e := hfa.symm.trans (PySem.W.mg_of X G a8)
  cases e
  have T : Txt mg := ⟨PySem.W.mg_none_of X G z1, PySem.W.mg_none_of X G z2, PySem.W.mg_none_of X G z3, PySem.W.mg_none_of X G z4, PySem.W.mg_none_of X G z5, PySem.W.mg_none_of X G z6, PySem.W.mg_none_of X G z7, PySem.W.mg_none_of X G z8, PySem.W.mg_none_of X G z9, PySem.W.mg_none_of X G z10, PySem.W.mg_none_of X G z11⟩
  have F1 := fun_mk (st := s__law_roll) l1 c1 k1
  have b1 := F1.binds (ps := ["dice", "many"]) fun _ _ _ _ _ _ us hl => match us, hl with | [_, _], _ => rfl
  have m1 := PySem.W.mg_of X G a1
  have F2 := fun_mk (st := s__law_pick) l2 c2 k2
  have b2 := F2.binds (ps := ["dice", "items"]) fun _ _ _ _ _ _ us hl => match us, hl with | [_, _], _ => rfl
  have m2 := PySem.W.mg_of X G a2
  have F3 := fun_mk (st := s__law_some) l3 c3 k3
  have b3 := F3.binds (ps := ["dice", "items", "size"]) fun _ _ _ _ _ _ us hl => match us, hl with | [_, _, _], _ => rfl
  have m3 := PySem.W.mg_of X G a3
  have F4 := fun_mk (st := s__law_dice) l4 c4 k4
  have b4 := F4.binds (ps := ["script", "spot"]) fun _ _ _ _ _ _ us hl => match us, hl with | [_, _], _ => rfl
  have m4 := PySem.W.mg_of X G a4
  have F5 := fun_mk (st := s_is_fact) l5 c5 k5
  have b5 := F5.binds (ps := ["value"]) fun _ _ _ _ _ _ us hl => match us, hl with | [_], _ => rfl
  have m5 := PySem.W.mg_of X G a5
  have F6 := fun_mk (st := s__law_is_fact) l6 c6 k6
  have b6 := F6.binds (ps := ["value"]) fun _ _ _ _ _ _ us hl => match us, hl with | [_], _ => rfl
  have m6 := PySem.W.mg_of X G a6
  have F7 := fun_mk (st := s__law_value) l7 c7 k7
  have b7 := F7.binds (ps := ["dice"]) fun _ _ _ _ _ _ us hl => match us, hl with | [_], _ => rfl
  have m7 := PySem.W.mg_of X G a7
  have F8 := fun_mk (st := s_law) l8 c8 k8
  have b8 := F8.binds (ps := ["script"]) fun _ _ _ _ _ _ us hl => match us, hl with | [_], _ => rfl
  have m8 := PySem.W.mg_of X G a8
  have n1 := PySem.W.mg_of X G i1
  refine ⟨PySem.W.fnOf "law" "law" (defArgs s_law) (defBody s_law) (defScope s_law) .none kV8 dc8 pm8 an8 cd8 ct8, fun s v => .of_eq rfl, fun base _ _ => ?_⟩
  have G1 : Cal l.prog w K mg base 1 "_law_roll" f1 _ ["dice", "many"] spRoll := ⟨ok_roll F1 T, m1, k1, b1⟩
  have G2 : Cal l.prog w K mg base 2 "_law_pick" f2 _ ["dice", "items"] (spPick K) := ⟨ok_pick F2 T G1, m2, k2, b2⟩
  have G3 : Cal l.prog w K mg base 2 "_law_some" f3 _ ["dice", "items", "size"] (spSome K) := ⟨ok_some F3 T G1, m3, k3, b3⟩
  have G4 : Cal l.prog w K mg base 1 "_law_dice" f4 _ ["script", "spot"] (spDice K) := ⟨ok_dice F4 T, m4, k4, b4⟩
  have G5 : Cal l.prog w K mg base 1 "is_fact" f5 _ ["value"] (spFact K) := ⟨ok_is_fact F5 T ⟨_, n1⟩, m5, k5, b5⟩
  have G6 : Cal l.prog w K mg base 1 "_law_is_fact" f6 _ ["value"] (spFact K) := ⟨ok_law_is_fact F6 T, m6, k6, b6⟩
  have G7 : Cal l.prog w K mg base 3 "_law_value" f7 _ ["dice"] spValue := ⟨ok_value F7 T G1 G2 G3, m7, k7, b7⟩
  exact ok_law F8 T ⟨_, n1⟩ G4 G7 G5 G6
end Eh
open PySem PySem.W PyProof.Rows
set_option maxHeartbeats 0 in
theorem PySem.Challenge.cw_eitherhand_k01_facts_judged_holds : PySem.Challenge.rw_eitherhand_k01_facts_judged.Holds := by
  w_on; o_law; k_head; (case hw => w_witness2)
  k_fill
  refine L2.walk_of (l := PySem.Challenge.rw_eitherhand_k01_facts_judged) (n := 63) (k := 4) (x := "script") (CX := fun _ => L2.CX0) (sp := fun w => Eh.spLaw _) rfl (by decide) rfl ⟨rfl, by decide, by decide⟩ (fun w h Y => PySem.W.kIn_of Y) ?F (fun _ _ a ns hl _ hS => ⟨a, ns, rfl, hS, hl, fun _ => rfl⟩) (fun _ _ _ _ _ h => h)
  case F =>
    intro w mg fa h KX G hmg
    refine' Eh.all_mk KX G hmg ?a1 ?l1 ?c1 ?k1 ?a2 ?l2 ?c2 ?k2 ?a3 ?l3 ?c3 ?k3 ?a4 ?l4 ?c4 ?k4 ?a5 ?l5 ?c5 ?k5 ?a6 ?l6 ?c6 ?k6 ?a7 ?l7 ?c7 ?k7 ?a8 ?l8 ?c8 ?k8 ?z1 ?z2 ?z3 ?z4 ?z5 ?z6 ?z7 ?z8 ?z9 ?z10 ?z11 ?i1
    (case a1 => k_is); (case l1 => k_is); (case c1 => k_is); (case k1 => k_is); (case a2 => k_is); (case l2 => k_is); (case c2 => k_is); (case k2 => k_is); (case a3 => k_is); (case l3 => k_is); (case c3 => k_is); (case k3 => k_is); (case a4 => k_is); (case l4 => k_is); (case c4 => k_is); (case k4 => k_is); (case a5 => k_is); (case l5 => k_is); (case c5 => k_is); (case k5 => k_is); (case a6 => k_is); (case l6 => k_is); (case c6 => k_is); (case k6 => k_is); (case a7 => k_is); (case l7 => k_is); (case c7 => k_is); (case k7 => k_is); (case a8 => k_is); (case l8 => k_is); (case c8 => k_is); (case k8 => k_is); (case z1 => k_is); (case z2 => k_is); (case z3 => k_is); (case z4 => k_is); (case z5 => k_is); (case z6 => k_is); (case z7 => k_is); (case z8 => k_is); (case z9 => k_is); (case z10 => k_is); (case z11 => k_is); (case i1 => k_is)

