import PyProof.Rows.All
import Wide.All
import OpenK.AllK
import Wide.FinOn
import PySem.Challenge.RW_eitherhand_k05_nodes_judged
import HandS.ForMost
import HandS.Wide
import HandS.IsInst
import HandS.RaiseMore
import HandS.Text
import PyProof.FactsAll.dict_1
import PyProof.FactsAll.subtypes_3
import PyProof.FactsAll.subtypes_4
import HandS.ExcOwn
import HandS.WordsExc
import HandS.TryOnly
import HandS.Strs
import KE.GoesSet
import HandS.DictComp
import HandS.Style
import HandS.OwnIter
import HandS.TupAny
set_option Elab.async false
set_option linter.all false
set_option maxRecDepth 100000
namespace Eh
open PySem PySem.Spec PyProof.Rows L2
/-! ### the text -/
def topS (i : Nat) : Stmt := PySem.Challenge.pw_eitherhand_k05_nodes_judged.main.body.getD i (.Pass ⟨0, 0, 0, 0⟩)
abbrev s__wall : Stmt := topS 0
theorem sc__wall : FnScope ["k"] ["k"] (defScope s__wall) := ⟨rfl, rfl, rfl, by decide +kernel, rfl, by decide +kernel, by decide +kernel⟩
abbrev s__copied : Stmt := topS 2
theorem sc__copied : FnScope ["value", "item", "key"] ["value"] (defScope s__copied) := ⟨rfl, rfl, rfl, by decide +kernel, rfl, by decide +kernel, by decide +kernel⟩
abbrev s_ParseError___init__ : Stmt := inClass (topS 7) 0
abbrev s_InvalidNumber___init__ : Stmt := inClass (topS 8) 0
abbrev s_is_integer : Stmt := topS 11
theorem sc_is_integer : FnScope ["value"] ["value"] (defScope s_is_integer) := ⟨rfl, rfl, rfl, by decide +kernel, rfl, by decide +kernel, by decide +kernel⟩
abbrev s_is_index : Stmt := topS 12
theorem sc_is_index : FnScope ["value", "many"] ["value", "many"] (defScope s_is_index) := ⟨rfl, rfl, rfl, by decide +kernel, rfl, by decide +kernel, by decide +kernel⟩
abbrev s_is_fact : Stmt := topS 13
theorem sc_is_fact : FnScope ["value", "letter"] ["value"] (defScope s_is_fact) := ⟨rfl, rfl, rfl, by decide +kernel, rfl, by decide +kernel, by decide +kernel⟩
abbrev s_is_node : Stmt := topS 20
theorem sc_is_node : FnScope ["value", "kind", "told"] ["value"] (defScope s_is_node) := ⟨rfl, rfl, rfl, by decide +kernel, rfl, by decide +kernel, by decide +kernel⟩
abbrev s_depth_of : Stmt := topS 21
theorem sc_depth_of : FnScope ["nodes", "missing", "deepest", "kind", "told"] ["nodes"] (defScope s_depth_of) := ⟨rfl, rfl, rfl, by decide +kernel, rfl, by decide +kernel, by decide +kernel⟩
abbrev s_facts_of : Stmt := topS 22
theorem sc_facts_of : FnScope ["nodes", "kind", "told"] ["nodes"] (defScope s_facts_of) := ⟨rfl, rfl, rfl, by decide +kernel, rfl, by decide +kernel, by decide +kernel⟩
abbrev s_choices_of : Stmt := topS 23
theorem sc_choices_of : FnScope ["nodes", "kind", "_"] ["nodes"] (defScope s_choices_of) := ⟨rfl, rfl, rfl, by decide +kernel, rfl, by decide +kernel, by decide +kernel⟩
abbrev s_text_of : Stmt := topS 24
theorem sc_text_of : FnScope ["nodes", "texts", "kind", "told", "parts", "_"] ["nodes"] (defScope s_text_of) := ⟨rfl, rfl, rfl, by decide +kernel, rfl, by decide +kernel, by decide +kernel⟩
abbrev s_bracketed : Stmt := topS 25
theorem sc_bracketed : FnScope ["kind", "parts", "inner"] ["kind", "parts"] (defScope s_bracketed) := ⟨rfl, rfl, rfl, by decide +kernel, rfl, by decide +kernel, by decide +kernel⟩
abbrev s_plain_text : Stmt := topS 26
theorem sc_plain_text : FnScope ["kind", "told"] ["kind", "told"] (defScope s_plain_text) := ⟨rfl, rfl, rfl, by decide +kernel, rfl, by decide +kernel, by decide +kernel⟩
abbrev s_nodes_in : Stmt := topS 27
theorem sc_nodes_in : FnScope ["text", "kinds", "counts", "around", "word", "kind", "told", "at"] ["text"] (defScope s_nodes_in) := ⟨rfl, rfl, rfl, by decide +kernel, rfl, by decide +kernel, by decide +kernel⟩
abbrev s__split : Stmt := topS 28
theorem sc__split : FnScope ["text", "spaced"] ["text"] (defScope s__split) := ⟨rfl, rfl, rfl, by decide +kernel, rfl, by decide +kernel, by decide +kernel⟩
abbrev s__plain_node : Stmt := topS 29
theorem sc__plain_node : FnScope ["word"] ["word"] (defScope s__plain_node) := ⟨rfl, rfl, rfl, by decide +kernel, rfl, by decide +kernel, by decide +kernel⟩
abbrev s_turned : Stmt := topS 30
theorem sc_turned : FnScope ["nodes", "kind", "told"] ["nodes"] (defScope s_turned) := ⟨rfl, rfl, rfl, by decide +kernel, rfl, by decide +kernel, by decide +kernel⟩
abbrev s_joined : Stmt := topS 31
theorem sc_joined : FnScope ["kind", "parts", "found", "part"] ["kind", "parts"] (defScope s_joined) := ⟨rfl, rfl, rfl, by decide +kernel, rfl, by decide +kernel, by decide +kernel⟩
abbrev s_parts_of : Stmt := topS 32
theorem sc_parts_of : FnScope ["nodes", "found", "start", "end"] ["nodes"] (defScope s_parts_of) := ⟨rfl, rfl, rfl, by decide +kernel, rfl, by decide +kernel, by decide +kernel⟩
abbrev s_end_of : Stmt := topS 33
theorem sc_end_of : FnScope ["nodes", "start", "missing", "end", "kind", "told"] ["nodes", "start"] (defScope s_end_of) := ⟨rfl, rfl, rfl, by decide +kernel, rfl, by decide +kernel, by decide +kernel⟩
abbrev s_has_part : Stmt := topS 34
theorem sc_has_part : FnScope ["nodes", "part", "size", "start"] ["nodes", "part"] (defScope s_has_part) := ⟨rfl, rfl, rfl, by decide +kernel, rfl, by decide +kernel, by decide +kernel⟩
abbrev s__are_nodes : Stmt := topS 41
theorem sc__are_nodes : FnScope ["value", "node"] ["value"] (defScope s__are_nodes) := ⟨rfl, rfl, rfl, by decide +kernel, rfl, by decide +kernel, by decide +kernel⟩
abbrev s__are_parts : Stmt := topS 42
theorem sc__are_parts : FnScope ["value", "part"] ["value"] (defScope s__are_parts) := ⟨rfl, rfl, rfl, by decide +kernel, rfl, by decide +kernel, by decide +kernel⟩
abbrev s__is_kind : Stmt := topS 43
theorem sc__is_kind : FnScope ["value"] ["value"] (defScope s__is_kind) := ⟨rfl, rfl, rfl, by decide +kernel, rfl, by decide +kernel, by decide +kernel⟩
abbrev s__of_both : Stmt := topS 44
theorem sc__of_both : FnScope ["kind", "one", "other"] ["kind", "one", "other"] (defScope s__of_both) := ⟨rfl, rfl, rfl, by decide +kernel, rfl, by decide +kernel, by decide +kernel⟩
abbrev s_Promise___init__ : Stmt := inClass (topS 45) 0
theorem sc_Promise___init__ : FnScope ["self", "nodes"] ["self", "nodes"] (defScope s_Promise___init__) := ⟨rfl, rfl, rfl, by decide +kernel, rfl, by decide +kernel, by decide +kernel⟩
abbrev s_Promise_read : Stmt := inClass (topS 45) 1
theorem sc_Promise_read : FnScope ["cls", "text", "nodes"] ["cls", "text"] (defScope s_Promise_read) := ⟨rfl, rfl, rfl, by decide +kernel, rfl, by decide +kernel, by decide +kernel⟩
abbrev s_Promise_of : Stmt := inClass (topS 45) 2
theorem sc_Promise_of : FnScope ["cls", "kind", "parts", "part"] ["cls", "kind", "parts"] (defScope s_Promise_of) := ⟨rfl, rfl, rfl, by decide +kernel, rfl, by decide +kernel, by decide +kernel⟩
abbrev s_Promise_fact : Stmt := inClass (topS 45) 3
theorem sc_Promise_fact : FnScope ["cls", "word"] ["cls", "word"] (defScope s_Promise_fact) := ⟨rfl, rfl, rfl, by decide +kernel, rfl, by decide +kernel, by decide +kernel⟩
abbrev s_Promise_sure : Stmt := inClass (topS 45) 4
theorem sc_Promise_sure : FnScope ["cls"] ["cls"] (defScope s_Promise_sure) := ⟨rfl, rfl, rfl, by decide +kernel, rfl, by decide +kernel, by decide +kernel⟩
abbrev s_Promise_never : Stmt := inClass (topS 45) 5
theorem sc_Promise_never : FnScope ["cls"] ["cls"] (defScope s_Promise_never) := ⟨rfl, rfl, rfl, by decide +kernel, rfl, by decide +kernel, by decide +kernel⟩
abbrev s_Promise_nodes : Stmt := inClass (topS 45) 6
theorem sc_Promise_nodes : FnScope ["self"] ["self"] (defScope s_Promise_nodes) := ⟨rfl, rfl, rfl, by decide +kernel, rfl, by decide +kernel, by decide +kernel⟩
abbrev s_Promise_text : Stmt := inClass (topS 45) 7
theorem sc_Promise_text : FnScope ["self"] ["self"] (defScope s_Promise_text) := ⟨rfl, rfl, rfl, by decide +kernel, rfl, by decide +kernel, by decide +kernel⟩
abbrev s_Promise_kind : Stmt := inClass (topS 45) 8
theorem sc_Promise_kind : FnScope ["self"] ["self"] (defScope s_Promise_kind) := ⟨rfl, rfl, rfl, by decide +kernel, rfl, by decide +kernel, by decide +kernel⟩
abbrev s_Promise_parts : Stmt := inClass (topS 45) 9
theorem sc_Promise_parts : FnScope ["self", "nodes"] ["self"] (defScope s_Promise_parts) := ⟨rfl, rfl, rfl, by decide +kernel, rfl, by decide +kernel, by decide +kernel⟩
abbrev s_Promise_facts : Stmt := inClass (topS 45) 10
theorem sc_Promise_facts : FnScope ["self"] ["self"] (defScope s_Promise_facts) := ⟨rfl, rfl, rfl, by decide +kernel, rfl, by decide +kernel, by decide +kernel⟩
abbrev s_Promise_choices : Stmt := inClass (topS 45) 11
theorem sc_Promise_choices : FnScope ["self"] ["self"] (defScope s_Promise_choices) := ⟨rfl, rfl, rfl, by decide +kernel, rfl, by decide +kernel, by decide +kernel⟩
abbrev s_Promise_depth : Stmt := inClass (topS 45) 12
theorem sc_Promise_depth : FnScope ["self"] ["self"] (defScope s_Promise_depth) := ⟨rfl, rfl, rfl, by decide +kernel, rfl, by decide +kernel, by decide +kernel⟩
abbrev s_Promise___and__ : Stmt := inClass (topS 45) 13
theorem sc_Promise___and__ : FnScope ["self", "other"] ["self", "other"] (defScope s_Promise___and__) := ⟨rfl, rfl, rfl, by decide +kernel, rfl, by decide +kernel, by decide +kernel⟩
abbrev s_Promise___or__ : Stmt := inClass (topS 45) 14
theorem sc_Promise___or__ : FnScope ["self", "other"] ["self", "other"] (defScope s_Promise___or__) := ⟨rfl, rfl, rfl, by decide +kernel, rfl, by decide +kernel, by decide +kernel⟩
abbrev s_Promise___add__ : Stmt := inClass (topS 45) 15
theorem sc_Promise___add__ : FnScope ["self", "other"] ["self", "other"] (defScope s_Promise___add__) := ⟨rfl, rfl, rfl, by decide +kernel, rfl, by decide +kernel, by decide +kernel⟩
abbrev s_Promise___mul__ : Stmt := inClass (topS 45) 16
theorem sc_Promise___mul__ : FnScope ["self", "other"] ["self", "other"] (defScope s_Promise___mul__) := ⟨rfl, rfl, rfl, by decide +kernel, rfl, by decide +kernel, by decide +kernel⟩
abbrev s_Promise___neg__ : Stmt := inClass (topS 45) 17
theorem sc_Promise___neg__ : FnScope ["self"] ["self"] (defScope s_Promise___neg__) := ⟨rfl, rfl, rfl, by decide +kernel, rfl, by decide +kernel, by decide +kernel⟩
abbrev s_Promise_renamed : Stmt := inClass (topS 45) 18
theorem sc_Promise_renamed : FnScope ["self", "names"] ["self", "names"] (defScope s_Promise_renamed) := ⟨rfl, rfl, rfl, by decide +kernel, rfl, by decide +kernel, by decide +kernel⟩
abbrev s_Promise_put : Stmt := inClass (topS 45) 19
theorem sc_Promise_put : FnScope ["self", "word", "other"] ["self", "word", "other"] (defScope s_Promise_put) := ⟨rfl, rfl, rfl, by decide +kernel, rfl, by decide +kernel, by decide +kernel⟩
abbrev s_Promise_with_part : Stmt := inClass (topS 45) 20
theorem sc_Promise_with_part : FnScope ["self", "index", "other"] ["self", "index", "other"] (defScope s_Promise_with_part) := ⟨rfl, rfl, rfl, by decide +kernel, rfl, by decide +kernel, by decide +kernel⟩
abbrev s_Promise_many : Stmt := inClass (topS 45) 21
theorem sc_Promise_many : FnScope ["self", "kind", "first", "_"] ["self", "kind"] (defScope s_Promise_many) := ⟨rfl, rfl, rfl, by decide +kernel, rfl, by decide +kernel, by decide +kernel⟩
abbrev s_Promise___len__ : Stmt := inClass (topS 45) 22
theorem sc_Promise___len__ : FnScope ["self"] ["self"] (defScope s_Promise___len__) := ⟨rfl, rfl, rfl, by decide +kernel, rfl, by decide +kernel, by decide +kernel⟩
abbrev s_Promise___iter__ : Stmt := inClass (topS 45) 23
theorem sc_Promise___iter__ : FnScope ["self"] ["self"] (defScope s_Promise___iter__) := ⟨rfl, rfl, rfl, by decide +kernel, rfl, by decide +kernel, by decide +kernel⟩
abbrev s_Promise___getitem__ : Stmt := inClass (topS 45) 24
theorem sc_Promise___getitem__ : FnScope ["self", "index"] ["self", "index"] (defScope s_Promise___getitem__) := ⟨rfl, rfl, rfl, by decide +kernel, rfl, by decide +kernel, by decide +kernel⟩
abbrev s_Promise___contains__ : Stmt := inClass (topS 45) 25
theorem sc_Promise___contains__ : FnScope ["self", "value"] ["self", "value"] (defScope s_Promise___contains__) := ⟨rfl, rfl, rfl, by decide +kernel, rfl, by decide +kernel, by decide +kernel⟩
abbrev s_Promise___eq__ : Stmt := inClass (topS 45) 26
theorem sc_Promise___eq__ : FnScope ["self", "value"] ["self", "value"] (defScope s_Promise___eq__) := ⟨rfl, rfl, rfl, by decide +kernel, rfl, by decide +kernel, by decide +kernel⟩
abbrev s_Promise___str__ : Stmt := inClass (topS 45) 27
theorem sc_Promise___str__ : FnScope ["self"] ["self"] (defScope s_Promise___str__) := ⟨rfl, rfl, rfl, by decide +kernel, rfl, by decide +kernel, by decide +kernel⟩
abbrev s__law_dice : Stmt := topS 47
theorem sc__law_dice : FnScope ["script", "spot", "cell", "great", "blend"] ["script", "spot"] (defScope s__law_dice) := ⟨rfl, rfl, rfl, by decide +kernel, rfl, by decide +kernel, by decide +kernel⟩
abbrev s__law_roll : Stmt := topS 48
theorem sc__law_roll : FnScope ["dice", "many", "found", "one", "two"] ["dice", "many"] (defScope s__law_roll) := ⟨rfl, rfl, rfl, by decide +kernel, rfl, by decide +kernel, by decide +kernel⟩
abbrev s__law_pick : Stmt := topS 49
theorem sc__law_pick : FnScope ["dice", "items"] ["dice", "items"] (defScope s__law_pick) := ⟨rfl, rfl, rfl, by decide +kernel, rfl, by decide +kernel, by decide +kernel⟩
abbrev s__law_some : Stmt := topS 50
theorem sc__law_some : FnScope ["dice", "items", "size", "left", "turn"] ["dice", "items", "size"] (defScope s__law_some) := ⟨rfl, rfl, rfl, by decide +kernel, rfl, by decide +kernel, by decide +kernel⟩
abbrev s__law_is_leaf : Stmt := topS 51
theorem sc__law_is_leaf : FnScope ["plain"] ["plain"] (defScope s__law_is_leaf) := ⟨rfl, rfl, rfl, by decide +kernel, rfl, by decide +kernel, by decide +kernel⟩
abbrev s__law_leaf : Stmt := topS 52
theorem sc__law_leaf : FnScope ["dice", "words", "way"] ["dice", "words"] (defScope s__law_leaf) := ⟨rfl, rfl, rfl, by decide +kernel, rfl, by decide +kernel, by decide +kernel⟩
abbrev s__law_drawn : Stmt := topS 53
theorem sc__law_drawn : FnScope ["dice", "words", "most", "choices", "kind", "many", "left", "parts", "room", "at", "more", "share"] ["dice", "words", "most", "choices"] (defScope s__law_drawn) := ⟨rfl, rfl, rfl, by decide +kernel, rfl, by decide +kernel, by decide +kernel⟩
abbrev s__law_promise : Stmt := topS 54
theorem sc__law_promise : FnScope ["dice", "words", "word"] ["dice"] (defScope s__law_promise) := ⟨rfl, rfl, rfl, by decide +kernel, rfl, by decide +kernel, by decide +kernel⟩
abbrev s__law_known : Stmt := topS 55
theorem sc__law_known : FnScope ["dice", "a", "b", "c", "not_a", "not_b", "not_c", "some"] ["dice"] (defScope s__law_known) := ⟨rfl, rfl, rfl, by decide +kernel, rfl, by decide +kernel, by decide +kernel⟩
abbrev s__law_nodes : Stmt := topS 56
theorem sc__law_nodes : FnScope ["plain", "found", "part"] ["plain"] (defScope s__law_nodes) := ⟨rfl, rfl, rfl, by decide +kernel, rfl, by decide +kernel, by decide +kernel⟩
abbrev s__law_count : Stmt := topS 57
theorem sc__law_count : FnScope ["plain", "kinds", "node"] ["plain", "kinds"] (defScope s__law_count) := ⟨rfl, rfl, rfl, by decide +kernel, rfl, by decide +kernel, by decide +kernel⟩
abbrev s__law_is_made : Stmt := topS 58
theorem sc__law_is_made : FnScope ["nodes"] ["nodes"] (defScope s__law_is_made) := ⟨rfl, rfl, rfl, by decide +kernel, rfl, by decide +kernel, by decide +kernel⟩
abbrev s__law_parts_at : Stmt := topS 59
theorem sc__law_parts_at : FnScope ["node", "told", "sign"] ["node"] (defScope s__law_parts_at) := ⟨rfl, rfl, rfl, by decide +kernel, rfl, by decide +kernel, by decide +kernel⟩
abbrev s__law_due : Stmt := topS 60
theorem sc__law_due : FnScope ["nodes", "left", "node", "many"] ["nodes"] (defScope s__law_due) := ⟨rfl, rfl, rfl, by decide +kernel, rfl, by decide +kernel, by decide +kernel⟩
abbrev s__law_bent : Stmt := topS 61
theorem sc__law_bent : FnScope ["dice", "nodes", "found", "at", "way", "kind", "told", "node"] ["dice", "nodes"] (defScope s__law_bent) := ⟨rfl, rfl, rfl, by decide +kernel, rfl, by decide +kernel, by decide +kernel⟩
abbrev s__law_right : Stmt := topS 62
theorem sc__law_right : FnScope ["dice", "nodes", "turn", "near", "odd", "value"] ["dice"] (defScope s__law_right) := ⟨rfl, rfl, rfl, by decide +kernel, rfl, by decide +kernel, by decide +kernel⟩
abbrev s_law : Stmt := topS 63
theorem sc_law : FnScope ["script", "spot", "dice", "turn", "rows", "nodes"] ["script"] (defScope s_law) := ⟨rfl, rfl, rfl, by decide +kernel, rfl, by decide +kernel, by decide +kernel⟩
/-- the names of built-ins that the text reads and has not taken -/
structure Txt (mg : Str → Option Value) : Prop where
  classmethod_ : mg "classmethod" = none
  property_ : mg "property" = none
  isinstance_ : mg "isinstance" = none
  list_ : mg "list" = none
  tuple_ : mg "tuple" = none
  dict_ : mg "dict" = none
  len_ : mg "len" = none
  reversed_ : mg "reversed" = none
  any_ : mg "any" = none
  all_ : mg "all" = none
  range_ : mg "range" = none
  bool_ : mg "bool" = none
  abs_ : mg "abs" = none
  str_ : mg "str" = none
  max_ : mg "max" = none
  sorted_ : mg "sorted" = none
  iter_ : mg "iter" = none
  int_ : mg "int" = none
  sum_ : mg "sum" = none
  min_ : mg "min" = none
  super_ : mg "super" = none
end Eh

set_option Elab.async false
set_option linter.all false
set_option maxRecDepth 100000
namespace Eh
open PySem PySem.Spec PyProof.Rows L2
/-! ### what is called -/
structure Cal (P : Program) (w : World) (K : PySem.W.Frag) (mg : Str → Option Value) (base : Heap) (k : Nat) (x : Str) (f : Addr) (fd : FuncData) (ps : List Str) (sp : Sp) : Prop where
  G : FnOk P w K mg base CX0 k f fd ps sp
  m : mg x = some (.ref f)
  k : PySem.W.keepIn K (.ref f) = true
  b : Binds K fd ps []
/-! ### rules that the layer lacks -/
section
variable {X : Cx}
theorem op_powB : OpR X (binaryOp .Pow) (rI (fun i j => 0 ≤ j ∧ (Builtin.Int.intBits i : Int) * j ≤ 2 ^ 27) fun i j => .int (i ^ j.toNat)) :=
  opI fun _ _ _ _ _ _ _ hc q => pow_int hc.1 hc.2 q
theorem call_repr_bl : CallR X (.builtin "repr") (fun xs H Q => ∃ b, xs = [.bl b] ∧ Q (.str (if b then "True" else "False")) H) := by
  intro pins s σ H xs us Q I r h
  obtain ⟨b, rfl, q⟩ := h
  cases r with
  | cons r1 r2 =>
    cases r2
    cases r1
    exact PySem.P.repr_of_bool ⟨.str _, H, I.tok _, ⟨_, rfl⟩, q⟩
end
/-! ### the dice -/
/-- the list of the dice's three numbers stands at d -/
def D3 (H : Hp) (d : Addr) : Prop := ∃ g b c : Int, H d = some (.lst [.int g, .int b, .int c])
/-- from H to H' only the dice at d were turned, and new objects laid -/
structure Gr (d : Addr) (H H' : Hp) : Prop where
  dice : D3 H' d
  keep : ∀ a o, a ≠ d → H a = some o → H' a = some o
theorem Gr.refl {d : Addr} {H : Hp} (h : D3 H d) : Gr d H H := ⟨h, fun _ _ _ e => e⟩
theorem Gr.trans {d : Addr} {H H1 H2 : Hp} (a : Gr d H H1) (b : Gr d H1 H2) : Gr d H H2 := ⟨b.dice, fun p o n e => b.keep p o n (a.keep p o n e)⟩
theorem Gr.laid {d p : Addr} {H : Hp} {o : HO} (h : D3 H d) (n : H p = none) : Gr d H (upd H p o) := by
  obtain ⟨g, b, c, e⟩ := h
  exact ⟨⟨g, b, c, by rw [upd_ne (ne_of_none e n)]; exact e⟩, fun a u _ z => by rw [upd_ne (ne_of_none z n)]; exact z⟩
theorem D3.ne {d p : Addr} {H : Hp} (h : D3 H d) (n : H p = none) : p ≠ d := by
  obtain ⟨g, b, c, e⟩ := h
  exact (ne_of_none e n).symm
theorem Gr.seq {K : PySem.W.Frag} {d a : Addr} {H H' : Hp} {xs : List V} (r : Gr d H H') (n : a ≠ d) (h : SqL K H a xs) : SqL K H' a xs := by
  rcases h with (h | ⟨o, h⟩) | h
  · exact .inl (.inl (r.keep _ _ n h))
  · exact .inl (.inr ⟨o, r.keep _ _ n h⟩)
  · exact .inr h
theorem Gr.put {d l : Addr} {H H' : Hp} {o : HO} (r : Gr d H H') (n : H l = none) (m : l ≠ d) : Gr d H (upd H' l o) := by
  obtain ⟨g, b, c, e⟩ := r.dice
  exact ⟨⟨g, b, c, by rw [upd_ne m.symm]; exact e⟩, fun a u q z => by rw [upd_ne (ne_of_none z n)]; exact r.keep a u q z⟩
theorem Gr.free {d l : Addr} {H H' : Hp} (r : Gr d H H') (h : D3 H d) (n : H' l = none) : H l = none := by
  cases q : H l with
  | none => rfl
  | some o =>
    by_cases e : l = d
    · obtain ⟨g, b, c, z⟩ := r.dice
      rw [e, z] at n
      cases n
    · rw [r.keep l o e q] at n
      cases n
section
variable {P : Program} {w : World} {K : PySem.W.Frag} {mg : Str → Option Value} {base : Heap}
def spRoll : Sp := fun vs H Q _ => ∃ (d : Addr) (many : Int), vs = [.ref d, .int many] ∧ D3 H d ∧ 0 < many ∧ many < 1073741824 ∧
  ∀ (r : Int) H', 0 ≤ r → r < many → D3 H' d → (∀ a, a ≠ d → H' a = H a) → Q (.int r) H'
theorem fmod_in {i m : Int} (h : 0 < m) : 0 ≤ i.fmod m ∧ i.fmod m < m := by
  rw [Int.fmod_eq_emod_of_nonneg i (by omega)]
  exact ⟨Int.emod_nonneg i (by omega), Int.emod_lt_of_pos i h⟩
theorem in64 {x : Int} (h : 0 ≤ x ∧ x < 2305843009213693951) : -(2 ^ 64) < x ∧ x < 2 ^ 64 := by omega
theorem in64' {x : Int} (h : 0 ≤ x ∧ x < 2305843009213693807) : -(2 ^ 64) < x ∧ x < 2 ^ 64 := by omega
theorem m1N : (2305843009213693951 : Int) ≠ 0 := by decide
theorem m2N : (2305843009213693807 : Int) ≠ 0 := by decide
theorem m3N : (2305843009213693537 : Int) ≠ 0 := by decide
theorem d8N : (8192 : Int) ≠ 0 ∧ (8192 : Int).natAbs < 1073741824 := by decide
theorem ok_roll {f : Addr} {fd : FuncData} (F : Fun K "_law_roll" "_law_roll" s__law_roll f fd) (T : Txt mg) : FnOk P w K mg base CX0 1 f fd ["dice", "many"] spRoll := by
  refine F.ok sc__law_roll (fun vs H Q E h => ?_) (fun cdv A outer s H vs Q E hr h => ?_)
  · obtain ⟨d, m, rfl, _⟩ := h
    rfl
  · obtain ⟨d, m, rfl, ⟨g, b, c, eH⟩, m0, m1, q⟩ := h
    refine ⟨_, (pss_cons (ps_if (pt_cmpR op_gt (pe_ix ix_list (pv 0) pe_int (fun _ _ => rfl)) pe_int (nomark _))
  (pss_cons (ps_set (i := 2) sc__law_roll.nd rfl (.inl rfl) (pe_op op_modN (pe_callTy call_int1 (by rfl) T.int_ (by decide +kernel) (pa_cons (pe_ix ix_list (pv 0) pe_int (fun _ _ => rfl)) pa_nil)) (pv 1)))
  (pss_cons (ps_asg (pe_op op_fdivN (pe_ix ix_list (pv 0) pe_int (fun _ _ => rfl)) (pv 1)) (pg_sub (pv 0) pe_int set_list))
  (pss_one (ps_ret (pv 2)))))
  pss_nil)
  (pss_cons (ps_asg (pe_op op_add (pe_ix ix_list (pv 0) pe_int (fun _ _ => rfl)) pe_int) (pg_sub (pv 0) pe_int set_list))
  (pss_cons (ps_set (i := 3) sc__law_roll.nd rfl (.inl rfl) (pe_op op_modN (pe_callTy call_int1 (by rfl) T.int_ (by decide +kernel) (pa_cons (pe_op op_add (pe_ix ix_list (pv 0) pe_int (fun _ _ => rfl)) (pe_op op_mul pe_int (pe_ix ix_list (pv 0) pe_int (fun _ _ => rfl)))) pa_nil)) pe_int))
  (pss_cons (ps_set (i := 4) sc__law_roll.nd rfl (.inl rfl) (pe_op op_add (pe_op op_mul (pe_op op_modN (pe_callTy call_int1 (by rfl) T.int_ (by decide +kernel) (pa_cons (pe_op op_mul (pv 3) (pv 3)) pa_nil)) pe_int) (pv 3)) (pe_op op_mul pe_int (pe_ix ix_list (pv 0) pe_int (fun _ _ => rfl)))))
  (pss_cons (ps_set (i := 4) sc__law_roll.nd rfl (.inl rfl) (pe_op op_modN (pe_callTy call_int1 (by rfl) T.int_ (by decide +kernel) (pa_cons (pv 4) pa_nil)) pe_int))
  (pss_one (ps_ret (pe_op op_modN (pe_callTy call_int1 (by rfl) T.int_ (by decide +kernel) (pa_cons (pe_op op_fdivN (pv 4) pe_int) pa_nil)) (pv 1))))))))), ?_⟩
    refine ⟨_, rfl, d, _, 0, _, rfl, rfl, SqL.of eH, atI_nat (j := 0) rfl, g, 0, rfl, rfl, _, rfl, ite2 (fun _ => ?_) (fun _ => ?_)⟩
    · refine ⟨_, rfl, d, _, 0, _, rfl, rfl, SqL.of eH, atI_nat (j := 0) rfl, .inl ⟨g, rfl, ?_⟩⟩
      refine ⟨_, rfl, g, m, rfl, rfl, by omega, ?_⟩
      refine ⟨_, rfl, d, _, 0, _, rfl, rfl, SqL.of eH, atI_nat (j := 0) rfl, _, rfl, g, m, rfl, rfl, ⟨by omega, by omega⟩, ?_⟩
      refine ⟨_, rfl, d, _, 0, 0, rfl, rfl, eH, rfl, ?_⟩
      refine ⟨_, rfl, q _ _ (fmod_in m0).1 (fmod_in m0).2 ⟨_, b, c, upd_same⟩ fun a n => upd_ne n⟩
    · refine ⟨_, rfl, d, _, 2, _, rfl, rfl, SqL.of eH, atI_nat (j := 2) rfl, c, 1, rfl, rfl, ?_⟩
      refine ⟨_, rfl, d, _, 2, 2, rfl, rfl, eH, rfl, ?_⟩
      have e1 : (upd H d (.lst [.int g, .int b, .int (c + 1)])) d = some (.lst [.int g, .int b, .int (c + 1)]) := upd_same
      refine ⟨_, rfl, d, _, 1, _, rfl, rfl, SqL.of e1, atI_nat (j := 1) rfl, _, rfl, d, _, 2, _, rfl, rfl, SqL.of e1, atI_nat (j := 2) rfl, _, _, rfl, rfl, .inl ⟨by decide, by decide⟩, _, _, rfl, rfl, .inl ⟨_, rfl, ?_⟩⟩
      refine ⟨_, _, rfl, rfl, m1N, ?_⟩
      refine ⟨_, rfl, _, rfl, _, _, rfl, rfl, .inl (in64 (fmod_in (by decide))), .inl ⟨_, rfl, ?_⟩⟩
      refine ⟨_, _, rfl, rfl, m2N, ?_⟩
      refine ⟨_, rfl, _, _, rfl, rfl, .inl (in64' (fmod_in (by decide))), ?_⟩
      refine ⟨_, rfl, d, _, 2, _, rfl, rfl, SqL.of e1, atI_nat (j := 2) rfl, _, _, rfl, rfl, .inl ⟨by decide, by decide⟩, _, _, rfl, rfl, ?_⟩
      refine ⟨_, rfl, .inl ⟨_, rfl, _, _, rfl, rfl, m3N, ?_⟩⟩
      refine ⟨_, rfl, _, _, rfl, rfl, d8N, .inl ⟨_, rfl, _, rfl, _, m, rfl, rfl, by omega, ?_⟩⟩
      exact q _ _ (fmod_in m0).1 (fmod_in m0).2 ⟨g, b, _, upd_same⟩ fun a n => upd_ne n
end
end Eh

set_option Elab.async false
set_option linter.all false
set_option maxRecDepth 100000
namespace Eh
open PySem PySem.Spec PyProof.Rows L2
/-! ### the rules with the written part named (within a comprehension the context's own name of it is out of reach) -/
section
variable {X : Cx} {K : PySem.W.Frag}
theorem ixL (h : X.K = K) : IxR X (rIxL K) := by subst h; exact ix_list
theorem ixT (h : X.K = K) : IxR X (rIxT K) := by subst h; exact ix_tup
theorem slL (h : X.K = K) : SlR X (rSlL K) := by subst h; exact sl_list
theorem inQ (h : X.K = K) : OpR X (compareOp .In) (rIn K false) := by subst h; exact op_in_seq
theorem niQ (h : X.K = K) : OpR X (compareOp .NotIn) (rIn K true) := by subst h; exact op_notIn_seq
theorem eqD (h : X.K = K) (hu : X.A.units + 64 < cLine) : OpR X (compareOp .Eq) (rEqD K) := by subst h; exact op_eqD hu
theorem neD (h : X.K = K) (hu : X.A.units + 64 < cLine) : OpR X (compareOp .NotEq) (rNeD K) := by subst h; exact op_neD hu
def rLen (K : PySem.W.Frag) : List V → Hp → VK → Prop := fun xs H Q => (∃ p ys, xs = [.ref p] ∧ (SqL K H p ys ∨ SqT K H p ys) ∧ Q (.int ys.length) H) ∨ (∃ z : Str, xs = [.str z] ∧ z.length ≤ sizeLine ∧ Q (.int z.length) H)
theorem lenQ (h : X.K = K) : CallR X (.builtin "len") (rLen K) := by subst h; exact call_len_seq.or call_len_str
def rLstOf (K : PySem.W.Frag) : List V → Hp → VK → Prop := fun xs H Q => ∃ p ys, xs = [.ref p] ∧ (SqL K H p ys ∨ SqT K H p ys) ∧ ∀ l, H l = none → Q (.ref l) (upd H l (.lst ys))
theorem lstOf (h : X.K = K) : CallR X (.type "list") (rLstOf K) := by subst h; exact call_list_of
theorem isiQ (h : X.K = K) : CallR X (.builtin "isinstance") (rIsi K) := by subst h; exact call_isi
theorem allQ (h : X.K = K) (hc : X.calm = true) : CallR X (.builtin "all") (rAll K) := by subst h; exact cr_all hc
theorem bmK {e : Expr} {T : String} {r : V → List V → Hp → VK → Prop} {to : TE} {t : TA} (h : X.K = K) (p : PE X e (tBM X.K T r to t)) : PE X e (tBM K T r to t) := by subst h; exact p
theorem bm0K {e : Expr} {T : String} {r : V → List V → Hp → VK → Prop} {to : TE} (h : X.K = K) (p : PE X e (tBM0 X.K T r to)) : PE X e (tBM0 K T r to) := by subst h; exact p
theorem piL {tg l : Expr} {tl : TE} (h : X.K = K) (hl : PE X l tl) : PI X tg l (iList K tl) := by subst h; exact pi_list hl
end
end Eh

set_option Elab.async false
set_option linter.all false
set_option maxRecDepth 100000
namespace Eh
open PySem PySem.Spec PyProof.Rows L2
/-! ### comprehensions over one name, the list that grows told -/
theorem small {n : Nat} (h : n < 1000000) : n < sizeLine := Nat.lt_of_lt_of_le h (by decide)
theorem wipe1 {σ : L2.St} {i : Nat} {x : Option V} : wipe ((wipe σ [i]).set i x) [i] = wipe σ [i] := by
  show ((σ.set i none).set i x).set i none = σ.set i none
  rw [List.set_set, List.set_set]
/-- ahead of turn j: what is made stands at D, and R -/
def LcP (R : Nat → List V → Hp → Prop) (D : Addr) (j : Nat) (H : Hp) : Prop := ∃ acc, acc.length ≤ j ∧ H D = some (.lst acc) ∧ R j acc H
/-- behind the element of turn j -/
def LcK (R : Nat → List V → Hp → Prop) (D : Addr) (j : Nat) : VK := fun y H4 => ∃ acc, H4 D = some (.lst acc) ∧ acc.length < sizeLine ∧ LcP R D (j + 1) (upd H4 D (.lst (acc ++ [y])))
theorem LcK.mk {R : Nat → List V → Hp → Prop} {D : Addr} {j : Nat} {acc : List V} {y : V} {H : Hp} (hl : acc.length ≤ j) (hj : j < 1000000) (e : H D = some (.lst acc)) (r : R (j + 1) (acc ++ [y]) (upd H D (.lst (acc ++ [y])))) : LcK R D j y H :=
  ⟨acc, e, small (by omega), acc ++ [y], by rw [List.length_append]; show acc.length + 1 ≤ j + 1; omega, upd_same, r⟩
/-- what a comprehension's reading asks behind its new list -/
def LcGoal (J : It) (g : TG) (tt : TT) (te : TE) (vs : List Nat) (σ : L2.St) (H1 : Hp) (D : Addr) (Qd : Hp → Prop) : Prop :=
  ∃ W : Nat → Nat → Hp → Prop, (∃ m, W 0 m (upd H1 D (.lst []))) ∧ ∀ i m H, W i m H → (J.stop i H ∧ Qd H) ∨ (J.go i H ∧ ∃ Nx : Hp → Prop, (∀ H', Nx H' → ∃ m', m' < m ∧ W (i + 1) m' H') ∧
    ∀ x H', J.yld i H x H' → g x (wipe σ vs) H' fun σ2 H2 => wipe σ2 vs = wipe σ vs ∧ tt σ2 H2 fun b H3 => if b = true then te σ2 H3 fun y H4 => ∃ acc, H4 D = some (.lst acc) ∧ acc.length < sizeLine ∧ Nx (upd H4 D (.lst (acc ++ [y]))) else Nx H3)
theorem yesT {τ : L2.St} {H : Hp} {A B : Hp → Prop} (h : A H) : tYes τ H (fun b H3 => if b = true then A H3 else B H3) := by
  show (if true = true then A H else B H)
  rw [if_pos rfl]
  exact h
section
variable {te : TE} {tt : TT} {σ : L2.St} {H1 : Hp} {D : Addr} {Qd : Hp → Prop} {i : Nat}
theorem lc_any {J : It} {n : Nat} (R : Nat → List V → Hp → Prop) (h0 : R 0 [] (upd H1 D (.lst [])))
    (hgo : ∀ j acc H, j < n → acc.length ≤ j → H D = some (.lst acc) → R j acc H → J.go j H ∧ ∀ x H', J.yld j H x H' → H' = H ∧
      tt ((wipe σ [i]).set i (some x)) H fun b H3 => if b = true then te ((wipe σ [i]).set i (some x)) H3 (LcK R D j) else LcP R D (j + 1) H3)
    (hstop : ∀ acc H, acc.length ≤ n → H D = some (.lst acc) → R n acc H → J.stop n H ∧ Qd H) : LcGoal J (gName i) tt te [i] σ H1 D Qd := by
  refine ⟨fun j m H => m = n - j ∧ j ≤ n ∧ LcP R D j H, ⟨n, by omega, Nat.zero_le _, [], Nat.le_refl _, upd_same, h0⟩, ?_⟩
  rintro j m H ⟨rfl, hj, acc, hl, e, r⟩
  by_cases hlt : j < n
  · obtain ⟨g1, g2⟩ := hgo j acc H hlt hl e r
    refine .inr ⟨g1, LcP R D (j + 1), fun H' q => ⟨n - (j + 1), by omega, rfl, hlt, q⟩, fun x H' y => ?_⟩
    obtain ⟨eH, k⟩ := g2 x H' y
    subst eH
    exact ⟨wipe1, k⟩
  · have ej : j = n := by omega
    subst ej
    exact .inl (hstop acc H hl e r)
/-- over a range, no test -/
theorem lcR {lo : Int} {n : Nat} (R : Nat → List V → Hp → Prop) (h0 : R 0 [] (upd H1 D (.lst [])))
    (hs : ∀ j acc H, j < n → acc.length ≤ j → H D = some (.lst acc) → R j acc H → te ((wipe σ [i]).set i (some (.int (lo + j)))) H (LcK R D j))
    (hd : ∀ acc H, acc.length ≤ n → H D = some (.lst acc) → R n acc H → Qd H) : LcGoal (Itr lo n) (gName i) tYes te [i] σ H1 D Qd :=
  lc_any R h0 (fun j acc H hj hl e r => ⟨hj, fun x H' y => ⟨y.1, by
    rw [show x = .int (lo + j) from y.2]
    exact hs j acc H hj hl e r⟩⟩) fun acc H hl e r => ⟨Nat.le_refl _, hd acc H hl e r⟩
/-- over a text, no test; with one -/
theorem lcS {z : Str} (R : Nat → List V → Hp → Prop) (h0 : R 0 [] (upd H1 D (.lst [])))
    (hs : ∀ j c acc H, z.cps[j]? = some c → acc.length ≤ j → H D = some (.lst acc) → R j acc H →
      tt ((wipe σ [i]).set i (some (.str ⟨#[c]⟩))) H fun b H3 => if b = true then te ((wipe σ [i]).set i (some (.str ⟨#[c]⟩))) H3 (LcK R D j) else LcP R D (j + 1) H3)
    (hd : ∀ acc H, acc.length ≤ z.cps.size → H D = some (.lst acc) → R z.cps.size acc H → Qd H) : LcGoal (Its z) (gName i) tt te [i] σ H1 D Qd :=
  lc_any R h0 (fun j acc H hj hl e r => ⟨hj, fun x H' y => by
    obtain ⟨y1, c, hc, rfl⟩ := y
    exact ⟨y1, hs j c acc H hc hl e r⟩⟩) fun acc H hl e r => ⟨Nat.le_refl _, hd acc H hl e r⟩
/-- over a list that stays -/
theorem lcL {K : PySem.W.Frag} {a : Addr} {xs : List V} (R : Nat → List V → Hp → Prop) (h0 : R 0 [] (upd H1 D (.lst []))) (hl : ∀ j acc H, R j acc H → SqL K H a xs)
    (hs : ∀ j x acc H, xs[j]? = some x → acc.length ≤ j → H D = some (.lst acc) → R j acc H →
      tt ((wipe σ [i]).set i (some x)) H fun b H3 => if b = true then te ((wipe σ [i]).set i (some x)) H3 (LcK R D j) else LcP R D (j + 1) H3)
    (hd : ∀ acc H, acc.length ≤ xs.length → H D = some (.lst acc) → R xs.length acc H → Qd H) : LcGoal (Itl K a) (gName i) tt te [i] σ H1 D Qd :=
  lc_any R h0 (fun j acc H hj hl' e r => ⟨⟨xs, xs[j], hl _ _ _ r, List.getElem?_eq_getElem hj⟩, fun x H' y => ⟨y.1, hs j x acc H (y.2 xs (hl _ _ _ r)) hl' e r⟩⟩)
    fun acc H hl' e r => ⟨⟨xs, hl _ _ _ r, Nat.le_refl _⟩, hd acc H hl' e r⟩
/-- over a tuple that stays -/
theorem lcT {K : PySem.W.Frag} {a : Addr} {xs : List V} (R : Nat → List V → Hp → Prop) (h0 : R 0 [] (upd H1 D (.lst []))) (hl : ∀ j acc H, R j acc H → SqT K H a xs)
    (hs : ∀ j x acc H, xs[j]? = some x → acc.length ≤ j → H D = some (.lst acc) → R j acc H →
      tt ((wipe σ [i]).set i (some x)) H fun b H3 => if b = true then te ((wipe σ [i]).set i (some x)) H3 (LcK R D j) else LcP R D (j + 1) H3)
    (hd : ∀ acc H, acc.length ≤ xs.length → H D = some (.lst acc) → R xs.length acc H → Qd H) : LcGoal (Itt K a) (gName i) tt te [i] σ H1 D Qd :=
  lc_any R h0 (fun j acc H hj hl' e r => ⟨⟨xs, xs[j], hl _ _ _ r, List.getElem?_eq_getElem hj⟩, fun x H' y => ⟨y.1, hs j x acc H (y.2 xs (hl _ _ _ r)) hl' e r⟩⟩)
    fun acc H hl' e r => ⟨⟨xs, hl _ _ _ r, Nat.le_refl _⟩, hd acc H hl' e r⟩
end
end Eh

set_option Elab.async false
set_option linter.all false
set_option maxRecDepth 100000
namespace Eh
open PySem PySem.Spec PyProof.Rows L2
section
variable {P : Program} {w : World} {K : PySem.W.Frag} {mg : Str → Option Value} {base : Heap}
theorem seq_off {d a : Addr} {H H' : Hp} {xs : List V} (n : a ≠ d) (k : ∀ b, b ≠ d → H' b = H b) (h : SqL K H a xs) : SqL K H' a xs := by
  rcases h with (h | ⟨o, h⟩) | h
  · exact .inl (.inl (by rw [k a n]; exact h))
  · exact .inl (.inr ⟨o, by rw [k a n]; exact h⟩)
  · exact .inr h
/-! pick -/
def spPick (K : PySem.W.Frag) : Sp := fun vs H Q _ => ∃ (d a : Addr) (xs : List V), vs = [.ref d, .ref a] ∧ D3 H d ∧ SqL K H a xs ∧ a ≠ d ∧ 0 < xs.length ∧ xs.length < 1000000 ∧
  ∀ x H', x ∈ xs → D3 H' d → (∀ b, b ≠ d → H' b = H b) → Q x H'
theorem at_in {xs : List V} {r : Int} (h0 : 0 ≤ r) (h1 : r < xs.length) : ∃ x, atI xs r = some x ∧ x ∈ xs := by
  have h : r.toNat < xs.length := by omega
  refine ⟨xs[r.toNat], ?_, List.getElem_mem h⟩
  have e := atI_nat (xs := xs) (j := r.toNat) (List.getElem?_eq_getElem h)
  rwa [Int.toNat_of_nonneg h0] at e
theorem ok_pick {f fR : Addr} {fd fdR : FuncData} (F : Fun K "_law_pick" "_law_pick" s__law_pick f fd) (T : Txt mg) (C__law_roll : Cal P w K mg base 1 "_law_roll" fR fdR ["dice", "many"] spRoll) :
    FnOk P w K mg base CX0 2 f fd ["dice", "items"] (spPick K) := by
  refine F.ok sc__law_pick (fun vs H Q E h => ?_) (fun cdv A outer s H vs Q E hr h => ?_)
  · obtain ⟨d, a, xs, rfl, _⟩ := h
    rfl
  · obtain ⟨d, a, xs, rfl, D, hS, hn, h0, h1, q⟩ := h
    refine ⟨_, (pss_one (ps_ret (pe_ix (ixL (K := K) rfl) (pv 1) (pe_call C__law_roll.G hr (by rfl) C__law_roll.m C__law_roll.k C__law_roll.b .nil pass0 (pa_cons (pv 0) (pa_cons (pe_callB (lenQ (K := K) rfl) (by rfl) T.len_ (by decide +kernel) (pa_cons (pv 1) pa_nil)) pa_nil))) (fun _ _ => rfl)))), ?_⟩
    refine ⟨_, rfl, _, rfl, _, rfl, (.inl ⟨a, xs, rfl, .inl hS, d, _, rfl, D, by omega, by omega, fun r H' r0 r1 D' k => ?_⟩)⟩
    obtain ⟨x, e, hx⟩ := at_in r0 r1
    exact ⟨a, xs, r, x, rfl, rfl, seq_off hn k hS, e, q x H' hx D' k⟩
end
end Eh

set_option Elab.async false
set_option linter.all false
set_option maxRecDepth 100000
namespace Eh
open PySem PySem.Spec PyProof.Rows L2
section
variable {P : Program} {w : World} {K : PySem.W.Frag} {mg : Str → Option Value} {base : Heap}
/-! dice -/
def spDice (K : PySem.W.Frag) : Sp := fun vs H Q _ => ∃ (a : Addr) (ns : List Int) (k : Nat), vs = [.ref a, .int k] ∧ SqL K H a (ns.map V.int) ∧
  ∀ d H', Same H H' → H d = none → D3 H' d → Q (.ref d) H'
theorem p60 : (0 : Int) ≤ 60 ∧ (60 : Int) ≤ 1000000 ∧ (10 : Int).natAbs < 2 ^ 64 := by decide
theorem p18 : (0 : Int) ≤ 18 ∧ (18 : Int) ≤ 1000000 ∧ (10 : Int).natAbs < 2 ^ 64 := by decide
theorem p600 : (0 : Int) ≤ 10 ∧ (Builtin.Int.intBits ((10 : Int) ^ (60 : Int).toNat) : Int) * 10 ≤ 2 ^ 27 := by decide +kernel
theorem n600 : ((10 : Int) ^ (60 : Int).toNat) ^ (10 : Int).toNat ≠ 0 := by decide +kernel
theorem mulR {i j : Int} (h : -(2 ^ 64) < j ∧ j < 2 ^ 64) : CMul i j := .inr h
theorem mulL {i j : Int} (h : -(2 ^ 64) < i ∧ i < 2 ^ 64) : CMul i j := .inl h
theorem same_new {H : Hp} {p : Addr} {o : HO} (h : H p = none) : Same H (upd H p o) := fun b x e => by
  rw [upd_ne (ne_of_none e h)]
  exact e
theorem lenOk (n : Nat) {xs : List V} (e : xs.length = n := by rfl) (h : n < 1000000 := by decide) : xs.length ≤ sizeLine := by
  rw [e]
  exact Nat.le_of_lt (small h)
theorem ok_dice {f : Addr} {fd : FuncData} (F : Fun K "_law_dice" "_law_dice" s__law_dice f fd) (T : Txt mg) : FnOk P w K mg base CX0 1 f fd ["script", "spot"] (spDice K) := by
  refine F.ok sc__law_dice (fun vs H Q E h => ?_) (fun cdv A outer s H vs Q E hr h => ?_)
  · obtain ⟨a, ns, k, rfl, _⟩ := h
    rfl
  · obtain ⟨a, ns, k, rfl, hS, q⟩ := h
    refine ⟨_, (pss_cons (ps_set (i := 2) sc__law_dice.nd rfl (.inl rfl) (pe_op op_add (pe_op op_mul pe_int (pv 1)) pe_int))
  (pss_cons (ps_if (pt_cmpR op_lt (pv 1) (pe_callB (lenQ (K := K) rfl) (by rfl) T.len_ (by decide +kernel) (pa_cons (pv 0) pa_nil)) (nomark _))
  (pss_one (ps_set (i := 2) sc__law_dice.nd rfl (.inl rfl) (pe_ix (ixL (K := K) rfl) (pv 0) (pv 1) (fun _ _ => rfl))))
  pss_nil)
  (pss_cons (ps_set (i := 3) sc__law_dice.nd rfl (.inl rfl) (pe_op op_modN (pe_callTy call_int1 (by rfl) T.int_ (by decide +kernel) (pa_cons (pe_callB call_abs (by rfl) T.abs_ (by decide +kernel) (pa_cons (pv 2) pa_nil)) pa_nil)) (pe_op op_powB (pe_op op_pow pe_int pe_int) pe_int)))
  (pss_cons (ps_set (i := 4) sc__law_dice.nd rfl (.inl rfl) (pe_op op_add (pe_op op_add (pe_op op_add (pe_op op_mul (pe_op op_modN (pe_callTy call_int1 (by rfl) T.int_ (by decide +kernel) (pa_cons (pv 3) pa_nil)) pe_int) pe_int) (pe_op op_mul pe_int (pv 1))) (pe_op op_mul pe_int (pe_callTy call_int1 (by rfl) T.int_ (by decide +kernel) (pa_cons (pe_cmpR op_lt (pv 2) pe_int (nomark _)) pa_nil)))) pe_int))
  (pss_one (ps_ret (pe_lst (pa_cons (pe_callB (call_max2 (by rfl)) (by rfl) T.max_ (by decide +kernel) (pa_cons pe_int (pa_cons (pe_op op_sub (pv 3) (pe_op op_pow pe_int pe_int)) pa_nil))) (pa_cons (pe_op op_modN (pe_callTy call_int1 (by rfl) T.int_ (by decide +kernel) (pa_cons (pv 4) pa_nil)) pe_int) (pa_cons pe_int pa_nil)))))))))), ?_⟩
    refine ⟨_, rfl, _, _, rfl, rfl, mulL (by decide), _, _, rfl, rfl, ?_⟩
    refine ⟨_, rfl, _, rfl, .inl ⟨a, _, rfl, .inl hS, _, _, rfl, rfl, _, rfl, ite2 (fun hk => ?A) (fun _ => ?B)⟩⟩
    case' A =>
      have hk : (k : Int) < ((ns.map V.int).length : Int) := of_decide_eq_true hk
      have hk' : k < ns.length := by rw [List.length_map] at hk; omega
      refine ⟨_, rfl, _, rfl, a, _, k, .int ns[k], rfl, rfl, hS, atI_nat (by rw [List.getElem?_map, List.getElem?_eq_getElem hk']; rfl), ?_⟩
    all_goals
      refine ⟨_, rfl, _, rfl, .inl ⟨_, rfl, _, _, rfl, rfl, p60, _, _, rfl, rfl, p600, _, _, rfl, rfl, n600, ?_⟩⟩
      refine ⟨_, rfl, .inl ⟨_, rfl, _, _, rfl, rfl, m3N, _, _, rfl, rfl, mulR (by decide), _, rfl, _, _, rfl, rfl, mulL (by decide), _, _, rfl, rfl, _, rfl, _, _, rfl, rfl, .inr ⟨_, rfl, _, _, rfl, rfl, mulL (by decide), _, _, rfl, rfl, _, _, rfl, rfl, ?_⟩⟩⟩
      refine ⟨_, rfl, _, _, rfl, rfl, p18, _, _, rfl, rfl, _, _, rfl, _, rfl, .inl ⟨_, rfl, _, _, rfl, rfl, m3N, lenOk 3, fun l nl => ?_⟩⟩
      exact q l _ (same_new nl) nl ⟨_, _, _, upd_same⟩
end
end Eh

set_option Elab.async false
set_option linter.all false
set_option maxRecDepth 100000
/-! a text == a dict; a value of any kind in a tuple of texts -/
namespace Eh
open PySem PySem.SeqAt
theorem dictNoStr (l : Addr) (dd : Option Addr) (es : Array DictEntry) (n : Nat) (sl : Array (Option Value)) (b : Str) (u : Tok) :
    Meets (Builtin.«dict.__eq__» ⟨[.ref l, .str b u], []⟩) (fun _ R s => s.heap.get? l = some { cls := .type "dict", dict := dd, data := .dict es n, slots := sl } ∧ R (.ok (.ret .notImplemented)) s) :=
  .of_wp fun prog w A R s h => by
    obtain ⟨hp, g, d, tk, os⟩ := s
    obtain ⟨hl, h⟩ := h
    have f1 := PySem.F.sub_str_dict
    wp_walk using wpAny_loadPart' hl
    exact ⟨_, rfl, h⟩
theorem strNoDict (l : Addr) (dd : Option Addr) (es : Array DictEntry) (n : Nat) (sl : Array (Option Value)) (b : Str) (u : Tok) :
    Meets (Builtin.«str.__eq__» ⟨[.str b u, .ref l], []⟩) (fun _ R s => s.heap.get? l = some { cls := .type "dict", dict := dd, data := .dict es n, slots := sl } ∧ R (.ok (.ret .notImplemented)) s) :=
  .of_wp fun prog w A R s h => by
    obtain ⟨hp, g, d, tk, os⟩ := s
    obtain ⟨hl, h⟩ := h
    wp_walk using wpAny_loadPart' hl, wpAny_load hl
    exact ⟨_, rfl, h⟩
section
variable {A : Around} {s : Shared}
theorem rcStrDict {l : Addr} {dd : Option Addr} {es : Array DictEntry} {n : Nat} {sl : Array (Option Value)} (b : Str) (u : Tok) (ho : s.heap.get? l = some { cls := .type "dict", dict := dd, data := .dict es n, slots := sl }) (hu : A.units < cLine) :
    RcAt A s (.str b u) (.ref l) false := fun prog w E Q h =>
  rc_eq_decline_or (k := false) (typeIs_str s b u) ⟨_, ho, rfl⟩ (by decide) PySem.F.sub_dict_str PySem.F.slot_str_eq PySem.F.slot_dict_eq_refl
    (fun _ hq => call_meets PySem.F.slot_str_eq (typeIs_str s b u) PySem.F.entry_str_eq (PySem.F.args_str_eq_2 _ _) (strNoDict l dd es n sl b u) ⟨ho, hq⟩)
    (fun _ hq => call_meets PySem.F.slot_dict_eq_refl ⟨_, ho, rfl⟩ PySem.F.entry_dict_eq (PySem.F.args_dict_eq_2 _ _) (dictNoStr l dd es n sl b u) ⟨ho, hq⟩)
    (fun _ hq => wpAny_of_eq (rfl : isSame (.str b u) (.ref l) = pure false) hq) (.inr hu) h
theorem eqStrDict {l : Addr} {dd : Option Addr} {es : Array DictEntry} {n : Nat} {sl : Array (Option Value)} (b : Str) (u : Tok) (ho : s.heap.get? l = some { cls := .type "dict", dict := dd, data := .dict es n, slots := sl }) (hu : A.units < cLine) :
    EqAt A s (.str b u) (.ref l) false := fun prog w E Q h => by
  unfold eqBool
  exact wpAny_holding (wpAny_ite_split (fun z => absurd (eq_of_beq z) nofun) fun _ => wpAny_bind (rcStrDict b u ho hu prog w E _ (wpAny_truthy_bool h)))
end
end Eh
namespace Eh
open PySem PySem.Spec PyProof.Rows L2
/-- what may stand on the left of `in` here: flat, or a list, a tuple, a dict -/
def Sorted5 (H : Hp) (x : V) : Prop := flatV x = true ∨ ∃ a, x = .ref a ∧ ((∃ xs, H a = some (.tup xs)) ∨ (∃ xs, H a = some (.lst xs)) ∨ ∃ kvs, H a = some (.dK kvs))
def rInS (K : PySem.W.Frag) : R2 := fun x y H Q => ∃ (p : Addr) (ws : List Str), y = .ref p ∧ SqT K H p (ws.map V.str) ∧ Sorted5 H x ∧ Q (.bl (inV x (ws.map V.str))) H
theorem flat_strs (ws : List Str) : (ws.map V.str).all flatV = true := by
  rw [List.all_eq_true]
  intro x hx
  obtain ⟨z, _, rfl⟩ := List.mem_map.mp hx
  rfl
theorem strs_only : ∀ {ws : List Str} {us : List Value}, Vals (ws.map V.str) us → ∀ u ∈ us, ∃ z t, u = .str z t
  | [], _, .nil, _, h => by cases h
  | z :: ws, _, .cons r t, u, h => by
    rcases List.mem_cons.mp h with rfl | h
    · obtain ⟨t, e⟩ := r
      exact ⟨z, t, e⟩
    · exact strs_only t u h
theorem inV_ref {a : Addr} (ws : List Str) : inV (.ref a) (ws.map V.str) = false := by
  unfold inV
  rw [List.any_map, List.any_eq_false]
  intro z _
  exact fun h => by cases h
theorem inS {X : Cx} {K : PySem.W.Frag} (hK : X.K = K) (hu : X.A.units + 1 < cLine) : OpR X (compareOp .In) (rInS K) := by
  subst hK
  intro pins s σ H x y v u Q I rx ry h
  obtain ⟨p, ws, rfl, hq, so, q⟩ := h
  rcases so with fl | ⟨a, rfl, so⟩
  · exact op_in_seq pins s σ H x (.ref p) v u Q I rx ry ⟨p, _, rfl, .inr hq, fl, flat_strs ws, q⟩
  · cases rx
    cases ry
    rw [inV_ref] at q
    obtain ⟨its, r, pl, hz⟩ := I.tuple hq
    have e0 : its.toArray.any (fun _ => false) = false := by simp
    refine SeqAt.in_tupleAt (fun _ => false) pl (fun w hw => ?_) ⟨.bl _, H, I, rfl, by rw [e0]; exact q⟩
    obtain ⟨z, t, rfl⟩ := strs_only r w (by simpa using hw)
    have hu1 : X.A.in1.units < cLine := hu
    rcases so with ⟨xs, h⟩ | ⟨xs, h⟩ | ⟨kvs, h⟩
    · obtain ⟨i2, r2, p2, _⟩ := I.tuple (SqT.of h)
      exact SeqAt.EqAt.str_tuple z t p2 hu1
    · obtain ⟨i2, r2, p2, _⟩ := I.list (SqL.of h)
      exact SeqAt.EqAt.str_list z t p2.isList hu1
    · obtain ⟨_, _, _, _, o, es, ep, h1, h2, h3, _⟩ := (show ObjOk X.prog X.w H s.heap a (.dK kvs) from I.hok a _ h)
      obtain ⟨oc, od, dt, sl⟩ := o
      have e1 : oc = .type "dict" := h2.1
      simp only at h3
      subst e1 h3
      exact eqStrDict z t h1 hu1
end Eh

set_option Elab.async false
set_option linter.all false
set_option maxRecDepth 100000
namespace Eh
open PySem PySem.Spec PyProof.Rows L2
section
variable {P : Program} {w : World} {K : PySem.W.Frag} {mg : Str → Option Value} {base : Heap}
/-! some -/
/-- ys are some of xs -/
def SomeOf (ys xs : List V) : Prop := ∃ rest, (ys ++ rest).Perm xs
def spSome (K : PySem.W.Frag) : Sp := fun vs H Q _ => ∃ (d a : Addr) (xs : List V) (n : Nat), vs = [.ref d, .ref a, .int n] ∧ D3 H d ∧ SqL K H a xs ∧ a ≠ d ∧ xs.length < 1000000 ∧ n < 1000000 ∧
  ∀ ys p H', SomeOf ys xs → ys.length = min n xs.length → Gr d H H' → H p = none → H' p = some (.lst ys) → Q (.ref p) H'
theorem perm_erase {α : Type} : ∀ {xs : List α} {i : Nat} {x : α}, xs[i]? = some x → (x :: xs.eraseIdx i).Perm xs
  | [], _, _, h => by simp at h
  | y :: r, 0, x, h => by
    cases (show some y = some x from h)
    exact List.Perm.refl _
  | y :: r, i + 1, x, h => by
    have ih := perm_erase (xs := r) (i := i) (x := x) h
    exact (List.Perm.swap y x _).trans (ih.cons y)
theorem seqIndex_nat {n j : Nat} (h : j < n) : seqIndex? (j : Int) n = some j := (ixN_seq (n := n) (i := (j : Int)) (j := j) (by
  unfold ixN
  rw [if_pos (by omega), if_pos (by omega)]
  rfl)).1
theorem ok_some {f fR : Addr} {fd fdR : FuncData} (F : Fun K "_law_some" "_law_some" s__law_some f fd) (T : Txt mg) (C__law_roll : Cal P w K mg base 1 "_law_roll" fR fdR ["dice", "many"] spRoll) :
    FnOk P w K mg base CX0 2 f fd ["dice", "items", "size"] (spSome K) := by
  refine F.ok sc__law_some (fun vs H Q E h => ?_) (fun cdv A outer s H vs Q E hr h => ?_)
  · obtain ⟨d, a, xs, n, rfl, _⟩ := h
    rfl
  · obtain ⟨d, a, xs, n, rfl, D, hS, hn, h1, h2, q⟩ := h
    refine ⟨_, (pss_cons (ps_set (i := 3) sc__law_some.nd rfl (.inr rfl) (pe_callTy (lstOf (K := K) rfl) (by rfl) T.list_ (by decide +kernel) (pa_cons (pv 1) pa_nil)))
  (pss_one (ps_ret (pe_lc (own := [("turn", 4)]) (g := gName 4) (by rfl) sc__law_some.nd (pi_range1 (by rfl) T.range_ (pa_cons (pe_callB (call_min2 (by rfl)) (by rfl) T.min_ (by decide +kernel) (pa_cons (pv 2) (pa_cons (pe_callB (lenQ (K := K) rfl) (by rfl) T.len_ (by decide +kernel) (pa_cons (pv 3) pa_nil)) pa_nil))) pa_nil)) (blkOk_by (by kernel_rfl)) (fun _ _ _ _ _ => (pg_name (i := 4) sc__law_some.nd rfl (.inl rfl))) (fun _ _ _ _ _ => pts_nil) (fun _ _ _ _ _ => (bmK (K := K) rfl (pe_bm PySem.F.plainAttrs_list PySem.F.slot_list_pop PySem.F.type_list_pop mt_popAt (pv 3) (pa_cons (pe_call C__law_roll.G hr (by rfl) C__law_roll.m C__law_roll.k C__law_roll.b .nil pass0 (pa_cons (pv 0) (pa_cons (pe_callB (lenQ (K := K) rfl) (by rfl) T.len_ (by decide +kernel) (pa_cons (pv 3) pa_nil)) pa_nil))) pa_nil)))))))), ?_⟩
    -- left = list(items)
    refine ⟨_, rfl, a, xs, rfl, .inl hS, fun l nl => ?_⟩
    have nld : l ≠ d := D.ne nl
    have g0 : Gr d H (upd H l (.lst xs)) := .laid D nl
    -- min(size, len(left))
    refine ⟨_, rfl, _, rfl, .inl ⟨l, xs, rfl, .inl (SqL.of upd_same), n, xs.length, rfl, ?_⟩⟩
    obtain ⟨m, em, hm⟩ : ∃ m : Nat, (if (xs.length : Int) < (n : Int) then (xs.length : Int) else (n : Int)) = (m : Int) ∧ m = min n xs.length := by
      refine ⟨min n xs.length, ?_, rfl⟩
      split <;> omega
    rw [em]
    refine ⟨m, rfl, by omega, by omega, fun p np => ?_⟩
    have npl : p ≠ l := fun e => by rw [e, upd_same] at np; cases np
    have npH : H p = none := by rw [upd_ne npl] at np; exact np
    have npd : p ≠ d := D.ne npH
    refine lcR (fun i ys H2 => ∃ zs, (ys ++ zs).Perm xs ∧ ys.length = i ∧ Gr d H H2 ∧ H2 l = some (.lst zs)) ⟨xs, List.Perm.refl _, rfl, g0.put npH npd, by rw [upd_ne npl.symm, upd_same]⟩ ?_ ?_
    · rintro i ys H2 hi hly e1 ⟨zs, hp, hl, g2, e2⟩
      have hlen : ys.length + zs.length = xs.length := by rw [← hp.length_eq, List.length_append]
      refine ⟨_, rfl, .inl ⟨rfl, _, SqL.of e2⟩, _, rfl, _, rfl, .inl ⟨l, zs, rfl, .inl (SqL.of e2), d, _, rfl, g2.dice, by omega, by omega, fun r H3 r0 r1 D3' k => ?_⟩⟩
      have hr' : r.toNat < zs.length := by omega
      have e2' : H3 l = some (.lst zs) := by rw [k l nld]; exact e2
      have e1' : H3 p = some (.lst ys) := by rw [k p npd]; exact e1
      have er := seqIndex_nat hr'
      rw [Int.toNat_of_nonneg r0] at er
      refine ⟨l, zs, r, r.toNat, zs[r.toNat], rfl, rfl, e2', by omega, by omega, er, List.getElem?_eq_getElem hr', ?_⟩
      refine LcK.mk hly (by omega) (by rw [upd_ne npl]; exact e1') ⟨zs.eraseIdx r.toNat, ?_, ?_, ?_, ?_⟩
      · rw [List.append_assoc]
        exact (List.Perm.append_left ys (perm_erase (List.getElem?_eq_getElem hr'))).trans hp
      · rw [List.length_append]
        show ys.length + 1 = i + 1
        omega
      · have g3 : Gr d H H3 := ⟨D3', fun b o nb e => by rw [k b nb]; exact g2.keep b o nb e⟩
        exact (g3.put nl nld).put npH npd
      · rw [upd_ne npl.symm, upd_same]
    · rintro ys H2 _ e1 ⟨zs, hp, hl, g2, e2⟩
      exact q ys p H2 ⟨zs, hp⟩ (by omega) g2 npH e1
end
end Eh

set_option Elab.async false
set_option linter.all false
set_option maxRecDepth 100000
/-! promises of defs that are only asked where nothing is being shown (no list's repr runs around them) -/
namespace Eh
open PySem PySem.Spec PyProof.Rows L2
structure FnG (P : Program) (w : World) (K : PySem.W.Frag) (mg : Str → Option Value) (base : Heap) (k : Nat) (f : Addr) (fd : FuncData) (ps : List Str) (sp : Sp) : Prop where
  len : ∀ vs H Q E, sp vs H Q E → vs.length = ps.length
  run : ∀ (A : Around) (outer : List Env) (s : Shared) (H : Hp) (args : Args) (us : List Value) (vs : List V) (Q : VK) (E : XK), A.guards = some [] → Room k A → Env0 P w K mg base A outer s H →
    BindsTo s fd args (ps.zip us) → Vals vs us → sp vs H Q E → codeAny (model P w) A (.call (.ref f) args) (CR CX0 outer P w H s Q E) s
section
variable {P : Program} {w : World} {K : PySem.W.Frag} {mg : Str → Option Value} {base : Heap}
theorem funG {x qual : Str} {st : Stmt} {f : Addr} {fd : FuncData} {N ps : List Str} {k : Nat} {sp : Sp} (F : Fun K x qual st f fd) (S : FnScope N ps (defScope st)) (len : ∀ vs H Q E, sp vs H Q E → vs.length = ps.length)
    (body : ∀ (cdv : Value) (A : Around) (outer : List Env) (s : Shared) (H : Hp) (vs : List V) (Q : VK) (E : XK), (A.deeper (envOfC qual (defScope st) s.heap.objs.size f cdv)).guards = some [] →
      Room k (A.deeper (envOfC qual (defScope st) s.heap.objs.size f cdv)) → sp vs H Q E →
      ∃ t, PSs (cxOf CX0 P w K mg base N qual (defScope st) f cdv A outer s H E).nox (defBody st) t ∧ t { nx := fun _ H' => Q .non H', rt := Q } (start N vs) H) : FnG P w K mg base (k + 1) f fd ps sp where
  len := len
  run A outer s H args us vs Q E hg hr e0 hb r hsp := by
    obtain ⟨oc, od, kV, doc, pm, an, cdv, ct, osl, rfl, lk, hcd⟩ := F.ex
    have old := fun b o e => (e0.bs b o e).1
    have KX := e0.mod.kin.keeps old
    have ok := fun (y : Str × Value) (hy : y ∈ ps.zip us) => S.par y.1 (List.of_mem_zip (a := y.1) (b := y.2) hy).1
    refine codeAny_call_function hr.depth (KX _ _ lk) rfl S.co S.gen rfl (PySem.W.codeRec_of KX hcd) (hb _ _ _ _ ?_)
    refine wpAny_newFunctionEnv_cells S.kind (fun y hy => (ok y hy).imp id fun q => ⟨q, PySem.W.cellsFrom_some _ _ _ (.inl q)⟩) fun env he s1 x => ?_
    cases he
    obtain ⟨t, ht, hq⟩ := body cdv A outer s H vs Q E hg (hr.deeper _) hsp
    refine ⟨(e0.mod.nolimit.keeps old).keeps x.toInCall.keep, codeAny_func ?_⟩
    have I := inv_start (CX := CX0) (E := E) S hr.hd e0 (len _ _ _ _ hsp) r x
    refine wpAny_mono (ht.nox.run [] s1 (start N vs) H _ I hq) (fun fl s' hs => ?_) fun _ _ h => h
    have fin {σ' : L2.St} {H' : Hp} {v : V} {u : Value} (J : Inv (cxOf CX0 P w K mg base N qual (defScope st) f cdv A outer s H E) [] σ' H' s') (rv : RelV v u) (q : Q v H') : CE outer P w H s Q u s' := ⟨v, H', J.os, J.bare, J.base, J.hok, rv, q⟩
    match fl, hs with
    | .ret u, ⟨v, _, _, J, rv, q⟩ => exact fin J rv q
    | .next, ⟨_, _, J, q⟩ => exact fin (v := V.non) J rfl q
    | .brk, ⟨_, _, _, q⟩ => exact q.elim
    | .cont, ⟨_, _, _, q⟩ => exact q.elim
end
section
variable {X : Cx} {k : Nat} {f : Addr} {fd : FuncData} {ps : List Str} {sp : Sp} {x : Str} {p pos : Pos} {e : Expr} {es : List Expr} {t : TA}
theorem pe_callG (F : FnG X.prog X.w X.K X.mg X.base k f fd ps sp) (hgd : X.A.guards = some []) (hr : Room k X.A) (hg : Gl X x) (hm : X.mg x = some (.ref f)) (hk : PySem.W.keepIn X.K (.ref f) = true) (hb : Binds X.K fd ps []) (ha : PA X (e :: es) t)
    (hdb : (x == ("__debug__" : Str)) = false := by decide) (he : starEach (e :: es) X.env = (false, eval e X.env) :: starEach es X.env := by rfl)
    (hpl : (backTo pos (starEach es X.env)).any (·.1) = false := by rfl) : PE X (.Call (.Name x p) (e :: es) [] pos) (fun σ H Q => t σ H fun vs H1 => sp vs H1 Q E0) where
  run pins s σ H Q I h := by
    refine wpAny_Call_Name_kw (ld_glob I hg hm (PySem.W.callWith_K (h₀ := X.base) I.ok.mod.kin hk (thn (ha.run pos pins s σ H _ I h) fun us s1 hh => ?_) he hpl) hdb)
    obtain ⟨vs, H1, I1, r, q⟩ := hh
    refine ⟨I1.kIn, wpAny_call (codeAny_mono (F.run X.A X.stack s1 H1 ⟨us, []⟩ us vs Q E0 hgd hr I1.env0 ?_ r q) fun rr s' hq => ?_)⟩
    · have z := hb s1 us I1.kIn
      rw [List.append_nil] at z
      exact z (by rw [← r.length]; exact F.len _ _ _ _ q)
    · match rr, hq with
      | .ok (.ret u), hq => exact I1.after hq
      | .error _, hq => exact (show False from hq).elim
      | .ok .next, hq => exact (show False from hq).elim
      | .ok .brk, hq => exact (show False from hq).elim
      | .ok .cont, hq => exact (show False from hq).elim
end
/-! an own error is what its class names -/
theorem exmSelf {K : PySem.W.Frag} {C : Addr} (b : PySem.W.subIn K (.ref C) (.type "BaseException") = some true) (i : PySem.W.isClsIn K C = true)
    (t : PySem.W.typeIn K (.ref C) = some (.type "type")) (s : PySem.W.subIn K (.ref C) (.ref C) = some true) : PySem.W.exmOne K (.ref C) (.ref C) = some true := by
  unfold PySem.W.exmOne
  rw [b, if_pos (by decide)]
  have j : ((PySem.W.clsIn K C).isSome && PySem.W.typeIn K (.ref C) == some (.type "type")) = true := by
    rw [show (PySem.W.clsIn K C).isSome = true from i, t]
    decide
  exact (if_pos j).trans s
/-! repr of data -/
section
variable {X : Cx} {K : PySem.W.Frag}
def rRepr (K : PySem.W.Frag) : List V → Hp → VK → Prop := fun xs H Q => ∃ (x : V) (d : PyData), xs = [x] ∧ (∃ a, x = .ref a) ∧ Dp K H x d ∧ d.showable = true ∧ d.hasDict = false ∧ d.depth < 60 ∧ d.shown.length ≤ sizeLine ∧ Q (.str d.shown) H
theorem reprD (h : X.K = K) (hgd : X.A.guards = some []) (hu : X.A.units + 64 < cLine) : CallR X (.builtin "repr") (rRepr K) := by
  subst h
  intro pins s σ H xs us Q I r h
  obtain ⟨x, d, rfl, ⟨a, rfl⟩, hd, hs, hnd, hdp, hsz, q⟩ := h
  cases r with
  | cons r1 r2 =>
    cases r2
    cases r1
    obtain ⟨as, rd⟩ := Dp.reads I d (.ref a) (.ref a) hd rfl
    refine repr_of_reads' rd hs (fun z => by rw [hnd] at z; cases z) hgd (by omega) (fun _ _ e => e) (fun h' u tk kp => ?_) (hsz := hsz)
    exact ⟨.str d.shown, H, I.kept (t' := tk) kp, ⟨u, rfl⟩, q⟩
end
/-! the head: the script is known to its object, all else is below -/
/-- nothing stands in H but, perhaps, the script at a -/
structure Bare1 (K : PySem.W.Frag) (a : Addr) (ob : Obj) (xs : List V) (H : Hp) : Prop where
  none : ∀ b, b ≠ a → H b = Option.none
  at_ : H a = Option.none ∨ (H a = some (.frz ob (.lst xs)) ∧ K.lookup a = Option.none)
theorem Bare1.hid {K : PySem.W.Frag} {a b : Addr} {ob o : Obj} {xs : List V} {H : Hp} {h : Heap} (B : Bare1 K a ob xs H) (e : h.get? b = some o) (n : b ≠ a ∨ H a = Option.none) : (hidT h H).get? b = some o := by
  refine hidT_get e ?_
  by_cases z : b = a
  · rcases n with n | n
    · exact absurd z n
    · rw [z]; exact n
  · exact B.none b z
section
variable {P : Program} {w : World} {K : PySem.W.Frag} {mg mb : Str → Option Value} {k : Nat} {fa a : Addr} {fd : FuncData} {x : Str} {sp : Sp} {s₁ : Shared} {vs : List Value} {ns : List Int} {H : Hp}
theorem law_runG (B : Bare1 K a { cls := .type "list", data := .seq vs.toArray } (ns.map V.int) H) (ok : HOk P w H s₁.heap) (hS : SqL K H a (ns.map V.int))
    (KX : K.In s₁.heap) (hns : s₁.heap.Ns mainGlobals mg) (hb : s₁.heap.Ns builtinsNs mb) (hbb : ∀ x : Str, x ≠ "__name__" → mb x = bootBuiltins x) (hlim : s₁.heap.NoLimit) (hg : s₁.gens = #[])
    (ha : s₁.heap.get? a = some { cls := .type "list", data := .seq vs.toArray }) (hr : Room k callerA)
    (F : ∀ base : Heap, K.In base → base.Ns mainGlobals mg → FnG P w K mg base k fa fd [x] sp) (hbind : ∀ (s : Shared) (u : Value), BindsTo s fd ⟨[u], []⟩ [(x, u)])
    (hsp : sp [.ref a] H (fun v _ => v = .bl true) fun _ _ _ => False) :
    codeAny (model P w) callerA (.call (.ref fa) ⟨[.ref a], []⟩) (fun r s' => r = .ok (.ret (.bool true)) ∧ OldK s₁.heap s'.heap ∧ s'.os = s₁.os ∧ AllBare s'.gens) s₁ := by
  have names {b : Addr} {m : Str → Option Value} (hm : s₁.heap.Ns b m) : (hidT s₁.heap H).Ns b m := by
    obtain ⟨o, es, ep, e, d, r⟩ := hm
    refine ⟨o, es, ep, B.hid e (.inl fun z => ?_), d, r⟩
    rw [z, ha] at e
    cases e
    cases d
  have KB : K.In (hidT s₁.heap H) := fun b o e => B.hid (KX b o e) (by
    by_cases z : b = a
    · rcases B.at_ with q | ⟨_, q⟩
      · exact .inr q
      · rw [z, q] at e; cases e
    · exact .inl z)
  obtain ⟨mc, l1, l2⟩ := hlim
  have E : Env0 P w K mg (hidT s₁.heap H) callerA [] s₁ H := {
    frames := rfl
    mod := ⟨KB, names hns, ⟨mb, names hb, hbb⟩, ⟨mc, names l1, l2⟩⟩
    bs := fun b o e => of_hidT e
    bsz := Nat.le_of_eq (hidT_size _ _)
    funs := trivial
    frf := fun b hb => by cases hb
    hok := ok
    bare := .of_eq hg }
  refine codeAny_mono ((F _ KB (names hns)).run callerA [] s₁ H ⟨[.ref a], []⟩ [.ref a] [.ref a] _ _ rfl hr E (hbind s₁ (.ref a)) (.cons rfl .nil) hsp) fun r s' q => ?_
  match r, q with
  | .error _, q => exact (show False from q).elim
  | .ok .next, q => exact (show False from q).elim
  | .ok .brk, q => exact (show False from q).elim
  | .ok .cont, q => exact (show False from q).elim
  | .ok (.ret u), q =>
    obtain ⟨v, H', os, bare, un, ok', rv, ev⟩ := q
    cases (show v = .bl true from ev)
    cases (show u = Value.bool true from rv)
    refine ⟨rfl, OldK.of_keep fun b o e => ?_, os, bare⟩
    have free : H b = Option.none → s'.heap.get? b = some o := fun n => un.keep b o e n (fun z => by cases z) (fun z => by cases z)
    by_cases z : b = a
    · rcases B.at_ with q | ⟨q, _⟩
      · exact free (by rw [z]; exact q)
      · have e2 := (ok' _ _ (un.frzs _ _ _ q)).1
        rw [z, ha] at e
        cases e
        rw [z]
        exact e2
    · exact free (B.none b z)
theorem law_callG (KX : K.In s₁.heap) (hns : s₁.heap.Ns mainGlobals mg) (hb : s₁.heap.Ns builtinsNs mb) (hbb : ∀ x : Str, x ≠ "__name__" → mb x = bootBuiltins x) (hlim : s₁.heap.NoLimit) (hg : s₁.gens = #[])
    (ha : s₁.heap.get? a = some { cls := .type "list", data := .seq vs.toArray }) (hi : IntsAre vs ns) (hl : ns.length ≤ sizeLine) (hr : Room k callerA)
    (F : ∀ base : Heap, K.In base → base.Ns mainGlobals mg → FnG P w K mg base k fa fd [x] sp) (hbind : ∀ (s : Shared) (u : Value), BindsTo s fd ⟨[u], []⟩ [(x, u)])
    (hsp : ∀ H : Hp, SqL K H a (ns.map V.int) → sp [.ref a] H (fun v _ => v = .bl true) fun _ _ _ => False) :
    codeAny (model P w) callerA (.call (.ref fa) ⟨[.ref a], []⟩) (fun r s' => r = .ok (.ret (.bool true)) ∧ OldK s₁.heap s'.heap ∧ s'.os = s₁.os ∧ AllBare s'.gens) s₁ := by
  have rv := vals_ints hi
  have hlv := rv.length
  rw [List.length_map] at hlv
  rcases hk : K.lookup a with _ | o
  · -- the script is tracked, frozen
    have hS : SqL K (fun b => if b = a then some (.frz { cls := .type "list", data := .seq vs.toArray } (.lst (ns.map V.int))) else Option.none) a (ns.map V.int) := .inl (.inr ⟨_, if_pos rfl⟩)
    refine law_runG ⟨fun b z => if_neg z, .inr ⟨if_pos rfl, hk⟩⟩ (fun b u e => ?_) hS KX hns hb hbb hlim hg ha hr F hbind (hsp _ hS)
    by_cases z : b = a
    · subst z
      rw [if_pos rfl] at e
      cases e
      exact ⟨ha, by rw [List.length_map]; exact hl, vs, _, rv, ha⟩
    · rw [if_neg z] at e
      cases e
  · -- it is the module's own
    have e := KX a o hk
    rw [ha] at e
    cases e
    have hS : SqL K (fun _ => Option.none) a (ns.map V.int) := .inr ⟨_, vs.toArray, _, hk, rfl, rfl, rfl, by rw [List.size_toArray, ← hlv]; exact hl, by rw [List.toList_toArray]; exact rv⟩
    exact law_runG ⟨fun _ _ => rfl, .inl rfl⟩ (fun b u e => by cases e) hS KX hns hb hbb hlim hg ha hr F hbind (hsp _ hS)
end
theorem walk_ofG {l : PySem.W.OpenLaw} {n k : Nat} {q : Program} {loose : List Str} {XP : (Str → Option Value) → Heap → Prop} {YP : World → Heap → Prop} {d : DefRec} {K : Params → PySem.W.Frag} {sp : World → Sp} {x : Str}
    (hn : l.most = some n) (hn2 : n ≤ sizeLine) (hdf : d.params.defaults = []) (hr : Room k callerA) (hY : ∀ (w : World) (h : Heap), YP w h → (K w.params).In h)
    (F : ∀ (w : World) (mg : Str → Option Value) (fa : Addr) (h : Heap), (K w.params).In h → h.Ns mainGlobals mg → mg d.name = some (.ref fa) →
      ∃ fd : FuncData, (∀ (s : Shared) (u : Value), BindsTo s fd ⟨[u], []⟩ [(x, u)]) ∧ ∀ base : Heap, (K w.params).In base → base.Ns mainGlobals mg → FnG l.prog w (K w.params) mg base k fa fd [x] (sp w))
    (hsp : ∀ (w : World) (H : Hp) (a : Addr) (ns : List Int), ns.length ≤ n → SqL (K w.params) H a (ns.map V.int) → sp w [.ref a] H (fun v _ => v = .bl true) fun _ _ _ => False) :
    PySem.W.WalkO q loose XP YP l.row.toRowW d [] (fun f vs => PySem.call f vs) :=
  Att.attach_call hn hdf fun w s₀ s₁ mg mb fa o pm cd doc a vs ns G Y ho hd hcd hmg hobj hints hlen hg =>
    match F w mg fa _ (hY w _ Y) G.T.g hmg with
    | ⟨_, hb, hF⟩ => law_callG (hY w _ Y) G.T.g G.T.b G.T.builtins G.T.nolimit hg hobj hints (Nat.le_trans hlen hn2) hr hF hb fun H hS => hsp w H a ns hlen hS
end Eh

set_option Elab.async false
set_option linter.all false
set_option maxRecDepth 100000
set_option maxHeartbeats 2000000
/-! sets of texts: what stands at a set, set.add, sorted -/
namespace Eh
open PySem PySem.Spec PyProof.Rows L2
def txtOf (e : Int × Value) : Str := match e.2 with
  | .str x _ => x
  | _ => Str.empty
def GoodT (w : World) (e : Int × Value) : Prop := ∃ x tk, e.2 = Value.str x tk ∧ e.1 = hashStr w x
/-- the table es, t holds the texts ts -/
structure TB (w : World) (ts : List Str) (es : Array (Int × Value)) (t : SetTable) : Prop where
  good : ∀ e ∈ es.toList, GoodT w e
  perm : (es.toList.map txtOf).Perm ts
  room : es.size < scanBound
  fits : t.fits es.size = true
  ris : Ris t.place.toList
  led : w.params.followText "set-order" = true ∨ t.led = true
theorem TB.size {w : World} {ts : List Str} {es : Array (Int × Value)} {t : SetTable} (b : TB w ts es t) : es.size = ts.length := by
  rw [← b.perm.length_eq, List.length_map, Array.length_toList]
theorem TB.elems {P : Program} {w : World} {ts : List Str} {es : Array (Int × Value)} {t : SetTable} (b : TB w ts es t) : ElemsOf (strKind P w) es.toList := fun e he => by
  obtain ⟨x, tk, h1, h2⟩ := b.good e he
  refine ⟨⟨x, ?_, h2⟩, by rw [h1]; rfl⟩
  rw [h1]
  exact strKind_is P w x tk
theorem good_str {P : Program} {w : World} {e : Int × Value} (g : GoodT w e) (x : Str) : (strKind P w).is x e.2 = true ↔ txtOf e = x := by
  obtain ⟨y, tk, h1, _⟩ := g
  unfold txtOf
  rw [h1]
  constructor
  · intro h
    obtain ⟨t, ht⟩ := Value.isStrOf_shape (x := x) (v := Value.str y tk) h
    injection ht
  · intro h
    have h' : y = x := h
    rw [h']
    exact strKind_is P w x tk
theorem TB.mem {P : Program} {w : World} {ts : List Str} {es : Array (Int × Value)} {t : SetTable} (b : TB w ts es t) (x : Str) : x ∈ ts ↔ ∃ e ∈ es.toList, (strKind P w).is x e.2 = true := by
  rw [← b.perm.mem_iff, List.mem_map]
  exact ⟨fun ⟨e, he, q⟩ => ⟨e, he, (good_str (b.good e he) x).2 q⟩, fun ⟨e, he, q⟩ => ⟨e, he, (good_str (P := P) (b.good e he) x).1 q⟩⟩
theorem TB.relay {w : World} {ts : List Str} {es : Array (Int × Value)} {t : SetTable} (b : TB w ts es t) (n : Nat) : TB w ts (relayAll t es n).1 (relayAll t es n).2.1 := by
  have pm := relayAll_perm t es n
  have sz : (relayAll t es n).1.size = es.size := by rw [← Array.length_toList, pm.length_eq, Array.length_toList]
  exact ⟨fun e he => b.good e (pm.mem_iff.mp he), (pm.map txtOf).trans b.perm, by rw [sz]; exact b.room, relayAll_fits t es n, relayAll_ris t es n, b.led.imp id fun z => by rw [relayAll_led]; exact z⟩
theorem TB.lay {P : Program} {w : World} {ts : List Str} {es : Array (Int × Value)} {t : SetTable} (b : TB w ts es t) (x : Str) (tk : Tok) (hr : ts.length + 1 < scanBound) :
    TB w (x :: ts) (layNew t es ((strKind P w).hash x) (.str x tk)).1 (layNew t es ((strKind P w).hash x) (.str x tk)).2.1 := by
  have pm := layNew_perm t es ((strKind P w).hash x) (.str x tk)
  rw [Array.toList_push] at pm
  have pc := pm.trans (List.perm_append_singleton _ _)
  refine ⟨fun e he => ?_, (pc.map txtOf).trans (b.perm.cons x), ?_, layNew_fits t es _ _, layNew_ris t es _ _ b.ris, b.led.imp id fun z => by rw [layNew_led]; exact z⟩
  · rcases List.mem_cons.mp (pc.mem_iff.mp he) with z | z
    · exact ⟨x, tk, by rw [z], by rw [z]; rfl⟩
    · exact b.good e z
  · rw [← Array.length_toList, pc.length_eq, List.length_cons, Array.length_toList, b.size]
    exact hr
/-- the set of the texts ts stands at a -/
def SetT (w : World) (h : Heap) (a : Addr) (ts : List Str) : Prop := ts.Nodup ∧ ∃ o es ep t, h.get? a = some o ∧ o.ExactSet ∧ o.data = .set es ep t ∧ TB w ts es t
section
variable {P : Program} {w : World} {A : Around} {E : Value → Shared → Prop} {s : Shared} {a : Addr} {ts : List Str}
theorem setT_stored {o : Obj} {es es1 : Array (Int × Value)} {ep : Nat} {t t1 : SetTable} {R : Unit → Shared → Prop} (ho : s.heap.get? a = some o) (hx : o.ExactSet) (hd : o.data = .set es ep t) (b : TB w ts es1 t1) (nd : ts.Nodup)
    (k : ∀ h' o' ep', Heap.SameBut a s.heap h' → h'.get? a = some o' → o'.ExactSet → o'.data = .set es1 ep' t1 → R () { s with heap := h' }) : wpAny (model P w) A (storeSet a es1 t1) R E s :=
  wpAny_storeSet_of ho hd (k _ _ _ (Heap.SameBut.update s.heap a (Obj.putSet es1 t1)) (store_at (es' := es1) (t' := t1) ho hd) hx rfl) (fits_of_scanBound b.room)
end
end Eh

set_option Elab.async false
set_option linter.all false
set_option maxRecDepth 100000
set_option maxHeartbeats 2000000
namespace Eh
open PySem PySem.Spec PyProof.Rows L2
section
variable {P : Program} {w : World} {A : Around} {E : Value → Shared → Prop} {s : Shared} {a : Addr} {ts : List Str}
/-- the end of an add: the new table stored, perhaps laid again -/
theorem setT_tail {g : Bool → Sem Unit} (hg : ∀ (b : Bool) (s₁ : Shared) (Q' : Unit → Shared → Prop), Q' () s₁ → wpAny (model P w) A (g b) Q' E s₁)
    {o : Obj} {es es1 : Array (Int × Value)} {ep : Nat} {t t1 : SetTable} {R : Option Bool → Shared → Prop} {wd : Bool} (ho : s.heap.get? a = some o) (hx : o.ExactSet) (hd : o.data = .set es ep t) (b : TB w ts es1 t1) (nd : ts.Nodup)
    (k : ∀ h', Heap.SameBut a s.heap h' → SetT w h' a ts → R (some true) { s with heap := h' }) :
    wpAny (model P w) A (do
        storeSet a es1 t1
        if (!wd && t1.tooFull) = true then do
            g (relayAll t1 es1 (SetTable.grown es1.size)).2.2
            storeSet a (relayAll t1 es1 (SetTable.grown es1.size)).1 (relayAll t1 es1 (SetTable.grown es1.size)).2.1
            pure (some true)
          else pure (some true)) R E s := by
  refine wpAny_bind (setT_stored ho hx hd b nd fun h1 o1 ep1 sb1 g1 x1 d1 => ?_)
  split
  · refine wpAny_bind (hg _ _ _ ?_)
    refine wpAny_bind (setT_stored (s := { s with heap := h1 }) g1 x1 d1 (b.relay _) nd fun h2 o2 ep2 sb2 g2 x2 d2 => ?_)
    exact wpAny_pure (k h2 (sb1.trans sb2) ⟨nd, o2, _, ep2, _, g2, x2, d2, b.relay _⟩)
  · exact wpAny_pure (k h1 sb1 ⟨nd, o1, es1, ep1, t1, g1, x1, d1, b⟩)
/-- the text x put in -/
def put (x : Str) (ts : List Str) : List Str := if x ∈ ts then ts else x :: ts
theorem setT_hashed {x : Str} {tk : Tok} {Q : Bool → Shared → Prop} (R : SetT w s.heap a ts) (room : ts.length + 1 < scanBound) (k : ∀ r h', Heap.SameBut a s.heap h' → SetT w h' a (put x ts) → Q r { s with heap := h' }) :
    wpAny (model P w) A (setAddHashed a (.str x tk) ((strKind P w).hash x)) Q E s := by
  obtain ⟨nd, o, es, ep, t, ho, hx, hd, b⟩ := R
  have hkey := strKind_is P w x tk
  have hsc : (Value.str x tk).scannable = true := rfl
  unfold setAddHashed setAddHashedIn
  refine wpAny_holding (wpAny_bind (wpAny_setState_of ho hd b.fits ?_))
  dsimp only
  rw [byScan_of hsc b.room (b.elems (P := P))]
  simp only [↓reduceIte]
  unfold setAddByScan
  refine wpAny_bind (wpAny_bind (wpAny_rule (wpAny_bind (wpAny_setScan_of hkey ho hd b.fits (b.elems (P := P)) ?_))))
  cases hf : List.findIdx? (fun e => (strKind P w).is x e.2) es.toList with
  | some j =>
    dsimp only
    obtain ⟨hj, pj, _⟩ := List.findIdx?_eq_some_iff_getElem.mp hf
    have hm : x ∈ ts := (b.mem (P := P) x).2 ⟨es.toList[j], List.getElem_mem hj, pj⟩
    have e : put x ts = ts := if_pos hm
    refine wpAny_pure (wpAny_pure (k _ s.heap (Heap.SameBut.refl a s.heap) ?_))
    rw [e]
    exact ⟨nd, o, es, ep, t, ho, hx, hd, b⟩
  | none =>
    dsimp only
    have hm : x ∉ ts := fun z => by
      obtain ⟨e, he, q⟩ := (b.mem (P := P) x).1 z
      have c := List.findIdx?_eq_none_iff.mp hf e he
      rw [q] at c
      cases c
    have e : put x ts = x :: ts := if_neg hm
    have nd1 : (x :: ts).Nodup := List.nodup_cons.mpr ⟨hm, nd⟩
    have b1 := b.lay (P := P) x tk room
    have fin : ∀ r h', Heap.SameBut a s.heap h' → SetT w h' a (x :: ts) → Q r { s with heap := h' } := fun r h' sb z => k r h' sb (by rw [e]; exact z)
    have gave : ∀ (c : Bool) {s₁ : Shared} {Q' : Unit → Shared → Prop}, Q' () s₁ → wpAny (model P w) A (match c with | true => rule "set.scan.the-table-gave-way" | false => pure ()) Q' E s₁ :=
      fun c s₁ Q' q => match c with
        | true => wpAny_rule q
        | false => wpAny_pure q
    generalize layNew t es ((strKind P w).hash x) (.str x tk) = Z at b1 ⊢
    obtain ⟨es1, t1, wd, gv⟩ := Z
    dsimp only at b1 ⊢
    refine wpAny_bind (gave _ ?_)
    split
    · refine wpAny_bind ?_
      rw [hashByValue_scannable 8 hsc]
      refine wpAny_pure ?_
      refine setT_tail (fun c s₁ Q' q => by cases c <;> first | exact wpAny_pure q | exact wpAny_rule q) ho hx hd (ts := x :: ts) ?_ nd1 fun h' sb z => ?_
      · refine ⟨b1.good, b1.perm, b1.room, ?_, ?_, ?_⟩
        · have := b1.fits
          first | (split <;> first | exact this | exact SetTable.fits_plain_off this) | exact this
        · have := b1.ris
          first | (split <;> exact this) | exact this
        · have := b1.led
          first | (split <;> exact this) | exact this
      · dsimp only
        exact wpAny_pure (fin _ h' sb z)
    · refine wpAny_bind (wpAny_pure ?_)
      simp only [↓reduceIte]
      refine setT_tail (fun c s₁ Q' q => by cases c <;> first | exact wpAny_pure q | exact wpAny_rule q) ho hx hd b1 nd1 fun h' sb z => ?_
      dsimp only
      exact wpAny_pure (fin _ h' sb z)
theorem SetT.typeIs (R : SetT w s.heap a ts) : s.TypeIs (.ref a) "set" := by
  obtain ⟨_, o, es, ep, t, ho, hx, _⟩ := R
  exact ⟨o, ho, hx.1⟩
/-- found.add(x) -/
theorem setT_add {x : Str} {tk : Tok} {Q : Value → Shared → Prop} (R : SetT w s.heap a ts) (room : ts.length + 1 < scanBound)
    (k : ∀ h', Heap.SameBut a s.heap h' → SetT w h' a (put x ts) → Q .none { s with heap := h', toks := s.toks + 1 }) : wpAny (model P w) A (call (.builtin "set.add") [.ref a, .str x tk]) Q E s := by
  refine wpAny_call_entry PySem.F.slot_set_add R.typeIs PySem.F.entry_set_add ?_ (PySem.F.args_set_add_2 _ _)
  unfold Builtin.«set.add» Builtin.Frozenset.oneOther
  simp only [List.isEmpty_nil, bind_assoc]
  unfold Builtin.Frozenset.addrOf setAdd
  refine wpAny_bind (wpAny_pure ?_)
  try dsimp only
  refine wpAny_bind (wpAny_pure ?_)
  try dsimp only
  refine wpAny_bind (wpAny_holding (wpAny_bind ((strKind P w).pyHash (strKind_is P w x tk) (setT_hashed (s := { s with toks := s.toks + 1 }) R room fun r h' sb z => ?_))))
  show wpAny _ _ (ret Value.none) _ _ _
  exact wpAny_pure ⟨_, rfl, k h' sb z⟩
end
end Eh

set_option Elab.async false
set_option linter.all false
set_option maxRecDepth 100000
set_option maxHeartbeats 4000000
namespace Eh
open PySem PySem.Spec PyProof.Rows L2
/-- the set of the texts ts, at a -/
def SetX (w : World) (a : Addr) (ts : List Str) : HO := .ext fun h => SetT w h a ts
theorem SetT.at {w : World} {h h' : Heap} {a : Addr} {ts : List Str} (R : SetT w h a ts) (k : ∀ o, h.get? a = some o → h'.get? a = some o) : SetT w h' a ts := by
  obtain ⟨nd, o, es, ep, t, ho, r⟩ := R
  exact ⟨nd, o, es, ep, t, k o ho, r⟩
theorem setX_ok {w : World} {P : Program} {H : Hp} {h : Heap} {a : Addr} {ts : List Str} (R : SetT w h a ts) : ObjOk P w H h a (SetX w a ts) := by
  obtain ⟨nd, o, es, ep, t, ho, r⟩ := id R
  exact ⟨R, ⟨o, ho⟩, fun _ _ p k => p.at k⟩
section
variable {X : Cx} {pins : List (Addr × Obj)} {σ : L2.St} {H : Hp} {s : Shared} {a : Addr} {ts : List Str}
theorem setX_get (I : Inv X pins σ H s) (ha : H a = some (SetX X.w a ts)) : SetT X.w s.heap a ts := (I.hok a _ ha).1
theorem setT_empty (w : World) (h : Heap) : SetT w (h.push { cls := .type "set", dict := none, data := .set #[] 0 (.fresh 0 0 (!w.params.followText "set-order")) }) h.objs.size [] := by
  refine ⟨List.nodup_nil, _, #[], 0, _, Heap.get?_push_size _ rfl, ⟨rfl, rfl, rfl⟩, rfl, fun e he => by simp at he, List.Perm.refl _, by decide, rfl, List.Pairwise.nil, ?_⟩
  cases hq : w.params.followText "set-order" with
  | true => exact .inl rfl
  | false => exact .inr rfl
/-- set.add of a tracked set -/
theorem add_run {z : Str} {v : Value} {Q : Value → Shared → Prop} {E : Value → Shared → Prop} (I : Inv X pins σ H s) (ha : H a = some (SetX X.w a ts)) (hz : ts.length < 1000) (r : RelV (.str z) v)
    (k : ∀ s', Inv X pins σ (upd H a (SetX X.w a (put z ts))) s' → Q .none s') : wpAny (model X.prog X.w) X.A (call (.builtin "set.add") [.ref a, v]) Q E s := by
  obtain ⟨t, rfl⟩ := r
  refine setT_add (setX_get I ha) (Nat.lt_trans (by omega : ts.length + 1 < 1002) (by decide)) fun h' sb R => k _ ?_
  obtain ⟨_, o, _, _, _, ho, _⟩ := id R
  exact I.write (e := a) (t' := s.toks + 1) (by rw [ha]; trivial) (.inl rfl) (fun b u hb hu => (sb.2 b hb).trans hu) ⟨o, ho⟩ (setX_ok R)
end
/-- {e for target in iter if ..}, the elements texts: D the new set -/
def tSc (w : World) (wi : TI) (g : TG) (tt : TT) (te : TE) (vs : List Nat) : TE := fun σ H Q => wi σ H fun J H1 => ∀ D, H1 D = none → ∃ W : Nat → Nat → Hp → Prop, (∃ m, W 0 m (upd H1 D (SetX w D []))) ∧ ∀ i m H, W i m H →
  (J.stop i H ∧ Q (.ref D) H) ∨ (J.go i H ∧ ∃ Nx : Hp → Prop, (∀ H', Nx H' → ∃ m', m' < m ∧ W (i + 1) m' H') ∧ ∀ x H', J.yld i H x H' → g x (wipe σ vs) H' fun σ2 H2 => wipe σ2 vs = wipe σ vs ∧ tt σ2 H2 fun b H3 =>
    if b = true then te σ2 H3 fun y H4 => ∃ ts z, y = .str z ∧ H4 D = some (SetX w D ts) ∧ ts.length < 1000 ∧ Nx (upd H4 D (SetX w D (put z ts))) else Nx H3)
section
variable {X : Cx} {elt tg iter : Expr} {ifs : List Expr} {scope : Scope} {own : List (Str × Nat)} {pos : Pos} {wi : TI} {g : TG} {tt : TT} {te : TE}
theorem pe_sc (hc : X.calm = true) (hN : X.N.Nodup) (hi : PI X tg iter wi) (ok : BlkOk X.N X.env.scope scope own)
    (hg : ∀ (s : Shared) (H : Hp) (C : Addr) (cl : List (Str × Addr)) (fp : List Addr), PG (X.blk s H scope (compEnvC scope cl C X.env) fp) tg g)
    (ht : ∀ (s : Shared) (H : Hp) (C : Addr) (cl : List (Str × Addr)) (fp : List Addr), PTs (X.blk s H scope (compEnvC scope cl C X.env) fp) ifs tt)
    (he : ∀ (s : Shared) (H : Hp) (C : Addr) (cl : List (Str × Addr)) (fp : List Addr), PE (X.blk s H scope (compEnvC scope cl C X.env) fp) elt te)
    (hs : ∀ x, foldedSetIterable iter X.env x = pure x := by intro _; rfl) :
    PE X (.SetComp elt [⟨tg, iter, ifs, 0⟩] scope pos) (tSc X.w wi g tt te (own.map (·.2))) where
  run pins s σ H Q I h := by
    rw [arm_eval_SetComp]
    have cells : ∀ y ∈ scope.names, y.2 = .free → ∃ c, X.env.cells.lookup y.1 = some c := fun y hy e => (ok.free y hy e).elim (fun k => I.ok.has _ (.inl k)) fun k => I.ok.has _ (.inr k)
    refine wpAny_comprehension_free (use := none) rfl hs (closure_ok cells) ok.kind (fun y hy e => by rw [ok.uniq y hy, e]) (thn (hi.run pins s σ H _ I h) fun xv s1 hx => thn hx fun itv s2 h2 => ?_)
    obtain ⟨it, fp, tn, J, H2, rfl, I2, T, st2, f2, q⟩ := h2
    refine wpAny_newSet_raw fun led hled => newEnv_comp ?_
    subst hled
    obtain ⟨D, hD⟩ : ∃ D, D = s2.heap.objs.size := ⟨_, rfl⟩
    obtain ⟨W, ⟨m0, w0⟩, turn⟩ := q D (I2.hok.fresh (Nat.le_of_eq hD.symm))
    obtain ⟨h3, e3⟩ : ∃ h3, h3 = s2.heap.push { cls := .type "set", dict := none, data := .set #[] 0 (.fresh 0 0 (!X.w.params.followText "set-order")) } := ⟨_, rfl⟩
    have new : SetT X.w h3 D [] := by
      rw [e3, hD]
      exact setT_empty X.w s2.heap
    have I3 : Inv X pins σ (upd H2 D (SetX X.w D [])) { s2 with heap := h3 } := I2.laid (t' := s2.toks) (fun b o e => by rw [e3]; exact Heap.get?_push_of_some _ e) (Nat.le_of_eq hD.symm) (setX_ok new)
    have f3 : ∀ b ∈ fp, FpOk X pins (upd H2 D (SetX X.w D [])) b ∧ b < h3.objs.size := fun b hb => by
      obtain ⟨o, e, _⟩ := T.obj _ _ st2 b hb
      have lt := Heap.lt_size e
      refine ⟨⟨(upd_ne (by rw [hD]; exact Nat.ne_of_lt lt)).trans (f2 b hb).1, (f2 b hb).2⟩, ?_⟩
      rw [e3, Heap.size_push]
      exact Nat.lt_succ_of_lt lt
    have st3 : tn 0 h3 := T.keep _ _ _ st2 fun b _ o e => by rw [e3]; exact Heap.get?_push_of_some _ e
    show codeAny _ _ (.compStart _ 0 (.ref it) (.ref s2.heap.objs.size) _) (compPost _ _ _ _ _ (.ref s2.heap.objs.size) _) _
    rw [← hD, ← e3]
    show codeAny _ _ (.compStart _ 0 (.ref it) (.ref D) (compEnvC scope (cellsFrom (h3.objs.size + 1) scope.names (cloFrom X.env.cells scope.names [])) h3.objs.size X.env))
      (compPost _ _ _ _ _ (.ref D) h3.objs.size) { s2 with heap := pushCells (h3.push { cls := .type "dict", data := .dict #[] }) scope.names }
    have I4 := block_start I3 ok hN f3
    have pg := hg { s2 with heap := h3 } (upd H2 D (SetX X.w D [])) h3.objs.size (cellsFrom (h3.objs.size + 1) scope.names (cloFrom X.env.cells scope.names [])) fp
    have pt := ht { s2 with heap := h3 } (upd H2 D (SetX X.w D [])) h3.objs.size (cellsFrom (h3.objs.size + 1) scope.names (cloFrom X.env.cells scope.names [])) fp
    have pe := he { s2 with heap := h3 } (upd H2 D (SetX X.w D [])) h3.objs.size (cellsFrom (h3.objs.size + 1) scope.names (cloFrom X.env.cells scope.names [])) fp
    have nfp : ∀ b ∈ fp, (upd H2 D (SetX X.w D [])) b = none := fun b hb => (f3 b hb).1.1
    generalize hce : compEnvC scope (cellsFrom (h3.objs.size + 1) scope.names (cloFrom X.env.cells scope.names [])) h3.objs.size X.env = ce at I4 pg pt pe ⊢
    have cL : ce.locals = h3.objs.size := by rw [← hce]; rfl
    obtain ⟨H3, hH3⟩ : ∃ H3, H3 = upd H2 D (SetX X.w D []) := ⟨_, rfl⟩
    rw [← hH3] at I3 I4 pg pt pe w0 nfp f3
    obtain ⟨S3, hS3⟩ : ∃ S3 : Shared, S3 = { s2 with heap := h3 } := ⟨_, rfl⟩
    have sz3 : S3.heap = h3 := by rw [hS3]
    rw [← hS3] at I3 pg pt pe
    replace I4 : Inv (X.blk S3 H3 scope ce fp) [] (wipe σ (own.map (·.2))) H3 { s2 with heap := pushCells (h3.push { cls := .type "dict", data := .dict #[] }) scope.names } := by
      rw [hS3]
      exact I4
    -- the places of the iterator are free in the block
    have free : ∀ {τ : L2.St} {H' : Hp} {s' : Shared}, Inv (X.blk S3 H3 scope ce fp) [] τ H' s' → (∀ b ∈ fp, H' b = none) → ∀ b ∈ fp, FpOk (X.blk S3 H3 scope ce fp) [] H' b := fun I' n b hb =>
      ⟨n b hb, (I'.ok.exf b hb).1, I'.ok.exfs b hb, .inl hb, fun x c e => (I'.ok.exf b hb).2 x c e, fun p hp => by cases hp⟩
    have st4 : tn 0 (pushCells (h3.push { cls := .type "dict", data := .dict #[] }) scope.names) := T.keep _ _ _ st3 fun b _ o e => pushCells_keeps _ _ _ _ (Heap.get?_push_of_some _ e)
    have loop : codeAny (model X.prog X.w) X.A (.compLoop (.SetComp elt [⟨tg, iter, ifs, 0⟩] scope pos) 0 (.ref it) (.ref D) ce) (compPost (model X.prog X.w) X.A X.xe none (EP X pins σ Q) (.ref D) h3.objs.size)
        { s2 with heap := pushCells (h3.push { cls := .type "dict", data := .dict #[] }) scope.names } := by
      refine compLoop_set_any (fun n s' => ∃ i H', Inv (X.blk S3 H3 scope ce fp) [] (wipe σ (own.map (·.2))) H' s' ∧ tn i s'.heap ∧ (∀ b ∈ fp, H' b = none) ∧ W i n H') ?_ m0 ⟨0, H3, I4, st4, nfp, w0⟩
      rintro n s5 ⟨i, H5, I5, st5, n5, w5⟩
      rcases turn i n H5 w5 with ⟨stop, qq⟩ | ⟨go, Nx, hNx, step⟩
      · refine thnF (T.done (X.blk S3 H3 scope ce fp) rfl rfl rfl hc i [] s5 _ H5 (fun _ _ => False) I5 (free I5 n5) st5 stop) fun r s6 ⟨hr, I6⟩ => ?_
        subst hr
        have I7 : Inv X pins σ H5 s6 := I3.call' (ch := fp) I6.os I6.base I6.hok I6.bare fun b hb => ⟨(f3 b hb).1.2.2.2.1, (f3 b hb).1.2.1, (f3 b hb).1.2.2.2.2.1, (f3 b hb).1.2.2.2.2.2⟩
        have nC : H5 h3.objs.size = none := by
          rw [← cL]
          exact I6.free
        obtain ⟨m, hn, _⟩ := I6.loc
        have hn : s6.heap.Ns ce.locals m := hn
        rw [cL] at hn
        have fp7 : FpOk X pins H5 h3.objs.size := I3.fpOk (Nat.le_of_eq (by rw [sz3])) nC
        obtain ⟨a0, a1, _, a3, a4, a5⟩ := fp7
        exact ⟨m, hn, fun h'' sb => ⟨.ref D, H5, I7.turned (t' := s6.toks) (fun b o hb e => (sb.2 b hb).trans e) a0 a1 a3 a4 a5, rfl, qq⟩⟩
      · refine thnF (T.item (X.blk S3 H3 scope ce fp) rfl rfl rfl hc i [] s5 _ H5 (fun _ _ => False) I5 (free I5 n5) st5 go) fun r s6 ⟨u, hr, h6⟩ => ?_
        subst hr
        refine thnF h6 fun _ s7 ⟨x, H7, I7, r7, y7, st7, n7⟩ => ?_
        have J7 := I7.pinned (free I7 n7) (T.obj _ _ st7)
        refine thnF (pg.run _ s7 _ H7 x u _ J7 r7 (step x H7 y7)) fun _ s8 ⟨σ8, H8, I8, hw8, q8⟩ => thnF (pt.run _ s8 σ8 H8 _ I8 q8) fun b s9 ⟨H9, I9, q9⟩ => ?_
        have back : ∀ {s' : Shared} {H' : Hp}, Inv (X.blk S3 H3 scope ce fp) ([] ++ pinsAt fp s7.heap) σ8 H' s' → Nx H' → ∃ m, m < n ∧ ∃ i H', Inv (X.blk S3 H3 scope ce fp) [] (wipe σ (own.map (·.2))) H' s' ∧ tn i s'.heap ∧ (∀ b ∈ fp, H' b = none) ∧ W i m H' := fun {s' H'} I' nx => by
          obtain ⟨m', hm, w'⟩ := hNx H' nx
          have held {b : Addr} {o : Obj} (hb : b ∈ fp) (e : s7.heap.get? b = some o) : s'.heap.get? b = some o ∧ H' b = none :=
            have z := I'.pin (b, o) (List.mem_append_right _ (List.mem_append_right _ (mem_pinsAt hb e)))
            ⟨z.1, z.2.1⟩
          refine ⟨m', hm, i + 1, H', (I'.unpinned (pins := [])).weak (by rw [← hw8, wipe_length]) (fun j v e => ?_), T.keep _ _ _ st7 fun b hb o e => (held hb e).1, fun b hb => ?_, w'⟩
          · rw [← hw8] at e
            exact (wipe_some e).1
          · obtain ⟨o, e, _⟩ := T.obj _ _ st7 b hb
            exact (held hb e).2
        cases b with
        | false =>
          simp only [Bool.false_eq_true, if_false] at q9 ⊢
          exact back I9 q9
        | true =>
          simp only [if_true] at q9 ⊢
          refine thnF (pe.run _ s9 σ8 H9 _ I9 q9) fun z s10 ⟨y, H10, I10, r10, ts, x, ey, hD10, hz10, nx⟩ => ?_
          subst ey
          exact add_run (X := X.blk S3 H3 scope ce fp) I10 hD10 hz10 r10 fun s12 I12 => back I12 nx
    exact codeAny_compStart_set loop (T.self X.A 0 _ _ _ st4 loop)
end
end Eh

set_option Elab.async false
set_option linter.all false
set_option maxRecDepth 100000
set_option maxHeartbeats 2000000
namespace Eh
open PySem PySem.Spec PyProof.Rows L2
section
variable {P : Program} {w : World} {A : Around} {E : Value → Shared → Prop} {s : Shared} {a : Addr} {ts : List Str}
theorem strs_txt : ∀ (l : List Value), (∀ v ∈ l, ∃ x tk, v = Value.str x tk) → StrsAre l (l.map fun v => txtOf (0, v))
  | [], _ => .nil
  | v :: l, h => by
    obtain ⟨x, tk, rfl⟩ := h v List.mem_cons_self
    exact .cons x tk (strs_txt l fun u hu => h u (List.mem_cons_of_mem _ hu))
theorem setT_sorted {Q : Value → Shared → Prop} (R : SetT w s.heap a ts) (hh : A.handled = none) (h64 : ts.length < 64)
    (k : ∀ s' p (out : Array Value) (c : Nat) (ys : List Str), (∀ b o, s.heap.get? b = some o → s'.heap.get? b = some o) → s'.gens = s.gens → s'.os = s.os → s.heap.objs.size ≤ p →
      s'.heap.get? p = some (seqObj "list" out c) → StrsAre out.toList ys → ys.Perm ts → sortedS ys = true → Q (.ref p) s') : wpAny (model P w) A (call (.builtin "sorted") [.ref a]) Q E s := by
  obtain ⟨nd, o, es, ep, t, ho, hx, hd, b⟩ := R
  refine Calls.call_function_entry kind_sorted plain_sorted entry_sorted (args_sorted1 _) ?_
  unfold Builtin.«sorted»
  refine wpAny_bind (m := checkCount "sorted" 1 1 _) (wpAny_pure (wpAny_bind (collect_set (A := A.in1) hh ⟨o, ho, hx.1, hd⟩ b.fits b.room b.ris b.led fun s1 vs k1 hz g1 o1 pm => ?_)))
  have hvl : vs.length = ts.length := by rw [pm.length_eq, List.length_map, Array.length_toList, b.size]
  have hS := strs_txt vs fun v hv => by
    obtain ⟨e, he, q⟩ := List.mem_map.mp (pm.mem_iff.mp hv)
    obtain ⟨x, tk, h1, _⟩ := b.good e he
    exact ⟨x, tk, by rw [← q]; exact h1⟩
  have pk : (vs.map fun v => txtOf (0, v)).Perm ts := by
    have q := pm.map fun v => txtOf (0, v)
    rw [List.map_map] at q
    exact q.trans b.perm
  refine wpAny_bind (wpAny_newList ?_ (by rw [hvl, sizeLine_eq]; omega))
  have hoL : (s1.heap.push (seqObj "list" vs.toArray 0)).get? s1.heap.objs.size = some (seqObj "list" vs.toArray 0) := Heap.get?_push_size _ rfl
  refine wpAny_bind (wpAny_holding (wpAny_call_entry slot_list_sort ⟨_, hoL, rfl⟩ entry_list_sort (list_sort_treeK strKind_oneLt hoL hS.keysOf (fun v₁ v₂ rest e => keyKind_strs (by rw [← e]; exact hS)) (by rw [hvl]; exact h64) fun st' hp hs => ⟨_, rfl, ?_⟩) (args_list_sort _)))
  obtain ⟨ys, y1, y2, y3⟩ := sorted_out_str hS hp hs
  obtain ⟨c, hc⟩ := sortedHeap_at (vs := vs) (out := (arrOf st').map (·.2)) hoL
  refine wpAny_pure ⟨_, rfl, k _ s1.heap.objs.size _ c ys (fun d u e => ?_) g1 o1 hz hc y1 (y2.trans pk) y3⟩
  have q := k1 d u e
  have hlt := Heap.lt_size q
  show (sortedHeap (s1.heap.push (seqObj "list" vs.toArray 0)) s1.heap.objs.size vs _).get? d = some u
  rw [sortedHeap_old (Nat.ne_of_lt hlt) (by rw [size_push']; exact Nat.lt_succ_of_lt hlt)]
  exact Heap.get?_push_of_some _ q
end
section
variable {X : Cx}
def rSortX (w : World) : List V → Hp → VK → Prop := fun vs H Q => ∃ (a : Addr) (ts : List Str), vs = [.ref a] ∧ H a = some (SetX w a ts) ∧ ts.Nodup ∧ ts.length < 64 ∧ ∀ (ys : List Str) p, ys.Perm ts → sortedS ys = true → H p = none → Q (.ref p) (upd H p (.lst (ys.map V.str)))
theorem sortX (hc : X.calm = true) : CallR X (.builtin "sorted") (rSortX X.w) := by
  intro pins s σ H vs us Q I r h
  obtain ⟨a, ts, rfl, ha, nd, h64, q⟩ := h
  rw [Vals.ref1 r]
  refine setT_sorted (setX_get I ha) (I.ok.hd hc) h64 fun s' p out c ys k g o hp hg hs h1 h2 => ?_
  have hlen : (ys.map V.str).length ≤ sizeLine := by rw [List.length_map, h1.length_eq, sizeLine_eq]; omega
  have hn : H p = none := I.hok.fresh hp
  obtain ⟨h', g', d', t', o'⟩ := s'
  obtain rfl : o' = s.os := o
  have J : Inv X pins σ (upd H p (.lst (ys.map V.str))) { s with heap := h', gens := g', drawn := d', toks := t' } :=
    I.call (ch := []) (Un.laid k hp hn) (I.hok.laid k hp ⟨hlen, out.toList, c, vals_of_strs hs, hg⟩) (by rw [show g' = s.gens from g]; exact I.bare) (fun _ z => nomatch z)
  exact ⟨.ref p, _, J, rfl, q ys p h1 h2 hn⟩
end
/-! comprehensions over a tuple, any target -/
section
variable {te : TE} {tt : TT} {g : TG} {σ : L2.St} {H1 : Hp} {D : Addr} {Qd : Hp → Prop} {vs : List Nat} {K : PySem.W.Frag} {a : Addr} {xs : List V}
theorem lcTg (R : Nat → List V → Hp → Prop) (h0 : R 0 [] (upd H1 D (.lst []))) (hl : ∀ j acc H, R j acc H → SqT K H a xs)
    (hs : ∀ j x acc H, xs[j]? = some x → acc.length ≤ j → H D = some (.lst acc) → R j acc H →
      g x (wipe σ vs) H fun σ2 H2 => wipe σ2 vs = wipe σ vs ∧ tt σ2 H2 fun b H3 => if b = true then te σ2 H3 (LcK R D j) else LcP R D (j + 1) H3)
    (hd : ∀ acc H, acc.length ≤ xs.length → H D = some (.lst acc) → R xs.length acc H → Qd H) : LcGoal (Itt K a) g tt te vs σ H1 D Qd := by
  refine ⟨fun j m H => m = xs.length - j ∧ j ≤ xs.length ∧ LcP R D j H, ⟨xs.length, by omega, Nat.zero_le _, [], Nat.le_refl _, upd_same, h0⟩, ?_⟩
  rintro j m H ⟨rfl, hj, acc, hlen, e, r⟩
  have q := hl _ _ _ r
  by_cases hlt : j < xs.length
  · refine .inr ⟨⟨xs, xs[j], q, List.getElem?_eq_getElem hlt⟩, LcP R D (j + 1), fun H' p => ⟨xs.length - (j + 1), by omega, rfl, hlt, p⟩, fun x H' y => ?_⟩
    obtain ⟨rfl, y⟩ := y
    exact hs j x acc _ (y xs q) hlen e r
  · have ej : j = xs.length := by omega
    subst ej
    exact .inl ⟨⟨xs, q, Nat.le_refl _⟩, hd acc H hlen e r⟩
def ScP (w : World) (R : Nat → List Str → Hp → Prop) (D : Addr) (j : Nat) (H : Hp) : Prop := ∃ ts, ts.length ≤ j ∧ H D = some (SetX w D ts) ∧ R j ts H
def ScK (w : World) (R : Nat → List Str → Hp → Prop) (D : Addr) (j : Nat) : VK := fun y H4 => ∃ ts z, y = .str z ∧ H4 D = some (SetX w D ts) ∧ ts.length < 1000 ∧ ScP w R D (j + 1) (upd H4 D (SetX w D (put z ts)))
theorem put_len (z : Str) (ts : List Str) : (put z ts).length ≤ ts.length + 1 := by
  unfold put
  split
  · omega
  · simp
theorem ScK.mk {w : World} {R : Nat → List Str → Hp → Prop} {j : Nat} {ts : List Str} {z : Str} {H : Hp} (hl : ts.length ≤ j) (hj : j < 1000) (e : H D = some (SetX w D ts)) (r : R (j + 1) (put z ts) (upd H D (SetX w D (put z ts)))) : ScK w R D j (.str z) H :=
  ⟨ts, z, rfl, e, by omega, put z ts, Nat.le_trans (put_len z ts) (by omega), upd_same, r⟩
theorem scTg {w : World} (R : Nat → List Str → Hp → Prop) (h0 : R 0 [] (upd H1 D (SetX w D []))) (hl : ∀ j acc H, R j acc H → SqT K H a xs)
    (hs : ∀ j x ts H, xs[j]? = some x → ts.length ≤ j → H D = some (SetX w D ts) → R j ts H →
      g x (wipe σ vs) H fun σ2 H2 => wipe σ2 vs = wipe σ vs ∧ tt σ2 H2 fun b H3 => if b = true then te σ2 H3 (ScK w R D j) else ScP w R D (j + 1) H3)
    (hd : ∀ ts H, ts.length ≤ xs.length → H D = some (SetX w D ts) → R xs.length ts H → Qd H) :
    ∃ W : Nat → Nat → Hp → Prop, (∃ m, W 0 m (upd H1 D (SetX w D []))) ∧ ∀ i m H, W i m H →
      ((Itt K a).stop i H ∧ Qd H) ∨ ((Itt K a).go i H ∧ ∃ Nx : Hp → Prop, (∀ H', Nx H' → ∃ m', m' < m ∧ W (i + 1) m' H') ∧ ∀ x H', (Itt K a).yld i H x H' → g x (wipe σ vs) H' fun σ2 H2 => wipe σ2 vs = wipe σ vs ∧ tt σ2 H2 fun b H3 =>
        if b = true then te σ2 H3 fun y H4 => ∃ ts z, y = .str z ∧ H4 D = some (SetX w D ts) ∧ ts.length < 1000 ∧ Nx (upd H4 D (SetX w D (put z ts))) else Nx H3) := by
  refine ⟨fun j m H => m = xs.length - j ∧ j ≤ xs.length ∧ ScP w R D j H, ⟨xs.length, by omega, Nat.zero_le _, [], Nat.le_refl _, upd_same, h0⟩, ?_⟩
  rintro j m H ⟨rfl, hj, ts, hlen, e, r⟩
  have q := hl _ _ _ r
  by_cases hlt : j < xs.length
  · refine .inr ⟨⟨xs, xs[j], q, List.getElem?_eq_getElem hlt⟩, ScP w R D (j + 1), fun H' p => ⟨xs.length - (j + 1), by omega, rfl, hlt, p⟩, fun x H' y => ?_⟩
    obtain ⟨rfl, y⟩ := y
    exact hs j x ts _ (y xs q) hlen e r
  · have ej : j = xs.length := by omega
    subst ej
    exact .inl ⟨⟨xs, q, Nat.le_refl _⟩, hd ts H hlen e r⟩
end
end Eh

set_option Elab.async false
set_option linter.all false
set_option maxRecDepth 100000
namespace Eh
open PySem PySem.Spec PyProof.Rows L2
/-! ### plain promises: trees, their nodes, how they stand -/
inductive Pl
  | leaf (k : Str) (t : V)
  | node (k : Str) (ps : List Pl)
mutual
def nodesOf : Pl → List (Str × V)
  | .leaf k t => [(k, t)]
  | .node k ps => (k, .int (ps.length : Int)) :: nodesAll ps
def nodesAll : List Pl → List (Str × V)
  | [] => []
  | p :: ps => nodesOf p ++ nodesAll ps
end
def leafOk (k : Str) (t : V) : Bool := match t with
  | .str _ => k == "fact" || k == "not"
  | .int i => (k == "yes" || k == "no") && decide (i = 0)
  | _ => false
def nodeKinds : List Str := ["all", "some", "mine", "yours"]
def nodeOk (k : Str) : Bool := nodeKinds.contains k
mutual
inductive At (K : PySem.W.Frag) (H : Hp) : V → Pl → Prop
  | leaf {a : Addr} {k : Str} {t : V} : SqT K H a [.str k, t] → leafOk k t = true → At K H (.ref a) (.leaf k t)
  | node {a b : Addr} {k : Str} {vs : List V} {ps : List Pl} : SqT K H a [.str k, .ref b] → SqT K H b vs → nodeOk k = true → 2 ≤ ps.length → ps.length ≤ 4 → AtAll K H vs ps → At K H (.ref a) (.node k ps)
inductive AtAll (K : PySem.W.Frag) (H : Hp) : List V → List Pl → Prop
  | nil : AtAll K H [] []
  | cons {v : V} {vs : List V} {p : Pl} {ps : List Pl} : At K H v p → AtAll K H vs ps → AtAll K H (v :: vs) (p :: ps)
end
/-- the tuples stay -/
def Tk (H H' : Hp) : Prop := ∀ a xs, Rd H a (.tup xs) → Rd H' a (.tup xs)
theorem Tk.refl {H : Hp} : Tk H H := fun _ _ h => h
theorem Tk.trans {H H1 H2 : Hp} (a : Tk H H1) (b : Tk H1 H2) : Tk H H2 := fun p xs h => b p xs (a p xs h)
theorem Tk.seq {K : PySem.W.Frag} {H H' : Hp} {a : Addr} {xs : List V} (t : Tk H H') (h : SqT K H a xs) : SqT K H' a xs := h.imp (t a xs) id
theorem stk {H H' : Hp} (s : Same H H') : Tk H H' := fun a xs h => h.imp (s a _) fun ⟨o, e⟩ => ⟨o, s a _ e⟩
theorem Gr.tk {d : Addr} {H H' : Hp} (g : Gr d H H') (D : D3 H d) : Tk H H' := fun a xs h => by
  obtain ⟨x, b, c, e⟩ := D
  rcases h with h | ⟨o, h⟩
  · exact .inl (g.keep a _ (fun z => by rw [z, e] at h; cases h) h)
  · exact .inr ⟨o, g.keep a _ (fun z => by rw [z, e] at h; cases h) h⟩
theorem Tk.new {H : Hp} {l : Addr} {o : HO} (n : H l = none) : Tk H (upd H l o) := stk (same_new n)
theorem Tk.put {H : Hp} {l : Addr} {xs ys : List V} (e : H l = some (.lst xs)) : Tk H (upd H l (.lst ys)) := fun a zs h => by
  have n : a ≠ l := fun z => by
    rw [z] at h
    rcases h with h | ⟨o, h⟩
    · rw [e] at h; cases h
    · rw [e] at h; cases h
  rcases h with h | ⟨o, h⟩
  · exact .inl (by rw [upd_ne n]; exact h)
  · exact .inr ⟨o, by rw [upd_ne n]; exact h⟩
mutual
theorem At.tk {K : PySem.W.Frag} {H H' : Hp} (t : Tk H H') : ∀ {v : V} {p : Pl}, At K H v p → At K H' v p
  | _, _, .leaf h o => .leaf (t.seq h) o
  | _, _, .node h1 h2 o a b r => .node (t.seq h1) (t.seq h2) o a b (AtAll.tk t r)
theorem AtAll.tk {K : PySem.W.Frag} {H H' : Hp} (t : Tk H H') : ∀ {vs : List V} {ps : List Pl}, AtAll K H vs ps → AtAll K H' vs ps
  | _, _, .nil => .nil
  | _, _, .cons h r => .cons (At.tk t h) (AtAll.tk t r)
end
theorem AtAll.length {K : PySem.W.Frag} {H : Hp} : ∀ {vs : List V} {ps : List Pl}, AtAll K H vs ps → vs.length = ps.length
  | _, _, .nil => rfl
  | _, _, .cons _ r => by rw [List.length_cons, List.length_cons, r.length]
theorem AtAll.get {K : PySem.W.Frag} {H : Hp} : ∀ {vs : List V} {ps : List Pl}, AtAll K H vs ps → ∀ {i : Nat} {v : V}, vs[i]? = some v → ∃ p, ps[i]? = some p ∧ At K H v p
  | _, _, .nil, i, v, h => by simp at h
  | _, _, .cons (v := x) (p := p) hp r, 0, v, h => by
    cases (show some x = some v from h)
    exact ⟨p, rfl, hp⟩
  | _, _, .cons hp r, i + 1, v, h => r.get (i := i) h
theorem AtAll.snoc {K : PySem.W.Frag} {H : Hp} : ∀ {vs : List V} {ps : List Pl} {v : V} {p : Pl}, AtAll K H vs ps → At K H v p → AtAll K H (vs ++ [v]) (ps ++ [p])
  | _, _, _, _, .nil, h => .cons h .nil
  | _, _, _, _, .cons h r, h' => .cons h (r.snoc h')
theorem nodesAll_append : ∀ (ps qs : List Pl), nodesAll (ps ++ qs) = nodesAll ps ++ nodesAll qs
  | [], qs => by rw [List.nil_append, nodesAll, List.nil_append]
  | p :: ps, qs => by rw [List.cons_append, nodesAll, nodesAll, nodesAll_append ps qs, List.append_assoc]
theorem nodesOf_pos (p : Pl) : 0 < (nodesOf p).length := by
  cases p with
  | leaf k t => rw [nodesOf]; exact Nat.one_pos
  | node k ps => rw [nodesOf]; exact Nat.succ_pos _
theorem nodesOf_get : ∀ {ps : List Pl} {i : Nat} {p : Pl}, ps[i]? = some p → (nodesOf p).length ≤ (nodesAll ps).length
  | [], _, _, h => by simp at h
  | q :: ps, 0, p, h => by
    cases (show some q = some p from h)
    rw [nodesAll, List.length_append]
    omega
  | q :: ps, i + 1, p, h => by
    have := nodesOf_get (ps := ps) (i := i) h
    rw [nodesAll, List.length_append]
    omega
theorem nodesAll_take : ∀ {ps : List Pl} {i : Nat} {p : Pl}, ps[i]? = some p → nodesAll (ps.take (i + 1)) = nodesAll (ps.take i) ++ nodesOf p
  | [], _, _, h => by simp at h
  | q :: ps, 0, p, h => by
    cases (show some q = some p from h)
    show nodesAll [q] = nodesAll [] ++ nodesOf q
    show nodesOf q ++ nodesAll [] = [] ++ nodesOf q
    rw [show nodesAll [] = [] from by rw [nodesAll], List.append_nil, List.nil_append]
  | q :: ps, i + 1, p, h => by
    show nodesAll (q :: ps.take (i + 1)) = nodesAll (q :: ps.take i) ++ nodesOf p
    rw [nodesAll, nodesAll, nodesAll_take (ps := ps) (i := i) h, List.append_assoc]
/-- nodes as they stand: pairs -/
inductive NdsAt (K : PySem.W.Frag) (H : Hp) : List V → List (Str × V) → Prop
  | nil : NdsAt K H [] []
  | cons {a : Addr} {k : Str} {t : V} {vs : List V} {ns : List (Str × V)} : SqT K H a [.str k, t] → NdsAt K H vs ns → NdsAt K H (.ref a :: vs) ((k, t) :: ns)
theorem NdsAt.tk {K : PySem.W.Frag} {H H' : Hp} (t : Tk H H') : ∀ {vs : List V} {ns : List (Str × V)}, NdsAt K H vs ns → NdsAt K H' vs ns
  | _, _, .nil => .nil
  | _, _, .cons h r => .cons (t.seq h) (r.tk t)
theorem NdsAt.length {K : PySem.W.Frag} {H : Hp} : ∀ {vs : List V} {ns : List (Str × V)}, NdsAt K H vs ns → vs.length = ns.length
  | _, _, .nil => rfl
  | _, _, .cons _ r => by rw [List.length_cons, List.length_cons, r.length]
theorem NdsAt.app {K : PySem.W.Frag} {H : Hp} : ∀ {vs us : List V} {ns ms : List (Str × V)}, NdsAt K H vs ns → NdsAt K H us ms → NdsAt K H (vs ++ us) (ns ++ ms)
  | _, _, _, _, .nil, h => h
  | _, _, _, _, .cons h r, h' => .cons h (r.app h')
theorem NdsAt.get {K : PySem.W.Frag} {H : Hp} : ∀ {vs : List V} {ns : List (Str × V)}, NdsAt K H vs ns → ∀ {i : Nat} {v : V}, vs[i]? = some v → ∃ a k t, v = .ref a ∧ ns[i]? = some (k, t) ∧ SqT K H a [.str k, t]
  | _, _, .nil, i, v, h => by simp at h
  | _, _, .cons (a := a) (k := k) (t := t) hp r, 0, v, h => by
    cases (show some (V.ref a) = some v from h)
    exact ⟨a, k, t, rfl, rfl, hp⟩
  | _, _, .cons hp r, i + 1, v, h => r.get (i := i) h
def isLeaf : Pl → Bool
  | .leaf _ _ => true
  | .node _ _ => false
def leafKinds : List Str := ["fact", "not", "yes", "no"]
theorem leaf_kind {k : Str} {t : V} (h : leafOk k t = true) : leafKinds.contains k = true := by
  unfold leafOk at h
  cases t with
  | str z =>
    rcases (Bool.or_eq_true _ _).mp h with h | h
    · rw [eq_of_beq h]; decide +kernel
    · rw [eq_of_beq h]; decide +kernel
  | int i =>
    rcases (Bool.or_eq_true _ _).mp ((Bool.and_eq_true _ _).mp h).1 with h | h
    · rw [eq_of_beq h]; decide +kernel
    · rw [eq_of_beq h]; decide +kernel
  | _ => cases h
theorem node_cases {k : Str} (h : nodeOk k = true) : k = "all" ∨ k = "some" ∨ k = "mine" ∨ k = "yours" := by
  unfold nodeOk nodeKinds at h
  rw [List.contains_iff_mem] at h
  simpa only [List.mem_cons, List.not_mem_nil, or_false] using h
theorem node_kind {k : Str} (h : nodeOk k = true) : leafKinds.contains k = false := by
  rcases node_cases h with rfl | rfl | rfl | rfl <;> decide +kernel
theorem inV_strs (k : Str) (ws : List Str) : inV (.str k) (ws.map V.str) = ws.contains k := by
  unfold inV
  rw [List.any_map, List.contains_eq_any_beq]
  congr 1
  funext z
  show (z == k) = (k == z)
  rw [Bool.eq_iff_iff, beq_iff_eq, beq_iff_eq]
  exact eq_comm
section
variable {P : Program} {w : World} {K : PySem.W.Frag} {mg : Str → Option Value} {base : Heap}
def spIsLeaf (K : PySem.W.Frag) : Sp := fun vs H Q _ => ∃ v pl, vs = [v] ∧ At K H v pl ∧ ∀ H', Same H H' → Q (.bl (isLeaf pl)) H'
theorem ok_is_leaf {f : Addr} {fd : FuncData} (F : Fun K "_law_is_leaf" "_law_is_leaf" s__law_is_leaf f fd) (T : Txt mg) : FnOk P w K mg base CX0 1 f fd ["plain"] (spIsLeaf K) := by
  refine F.ok sc__law_is_leaf (fun vs H Q E h => ?_) (fun cdv A outer s H vs Q E hr h => ?_)
  · obtain ⟨v, pl, rfl, _⟩ := h
    rfl
  · obtain ⟨v, pl, rfl, hA, q⟩ := h
    refine ⟨_, (pss_one (ps_ret (pe_cmpR (inQ (K := K) rfl) (pe_ix (ixT (K := K) rfl) (pv 0) pe_int (fun _ _ => rfl)) (pe_lst (pa_cons pe_str (pa_cons pe_str (pa_cons pe_str (pa_cons pe_str pa_nil))))) (by rfl)))), ?_⟩
    obtain ⟨a, k, t, rfl, hk, hb⟩ : ∃ a k t, v = .ref a ∧ SqT K H a [.str k, t] ∧ leafKinds.contains k = isLeaf pl := by
      cases hA with
      | leaf h o => exact ⟨_, _, _, rfl, h, leaf_kind o⟩
      | node h1 _ o _ _ _ => exact ⟨_, _, _, rfl, h1, node_kind o⟩
    refine ⟨_, rfl, a, _, 0, .str k, rfl, rfl, hk, rfl, lenOk 4, fun p np => ?_⟩
    refine ⟨p, leafKinds.map V.str, rfl, .inl (SqL.of upd_same), rfl, flat_strs _, ?_⟩
    rw [inV_strs, hb]
    exact q _ (same_new np)
/-! nodes -/
def spNodes (K : PySem.W.Frag) (n : Nat) : Sp := fun vs H Q _ => ∃ v pl, vs = [v] ∧ At K H v pl ∧ (nodesOf pl).length ≤ n ∧ n < 1000 ∧ ∀ xs p H', Same H H' → H p = none → H' p = some (.lst xs) → NdsAt K H' xs (nodesOf pl) → Q (.ref p) H'
theorem ok_nodes {f fL : Addr} {fd fdL : FuncData} (F : Fun K "_law_nodes" "_law_nodes" s__law_nodes f fd) (T : Txt mg) (C__law_is_leaf : Cal P w K mg base 1 "_law_is_leaf" fL fdL ["plain"] (spIsLeaf K))
    (m : mg "_law_nodes" = some (.ref f)) (kp : PySem.W.keepIn K (.ref f) = true) (b : Binds K fd ["plain"] []) : ∀ n : Nat, FnOk P w K mg base CX0 (n + 1) f fd ["plain"] (spNodes K n)
  | 0 => F.ok sc__law_nodes (fun vs H Q E h => by
      obtain ⟨v, pl, rfl, _⟩ := h
      rfl) (fun cdv A outer s H vs Q E hr h => by
      obtain ⟨v, pl, rfl, _, h0, _⟩ := h
      have := nodesOf_pos pl
      omega)
  | n + 1 => by
    have G := ok_nodes F T C__law_is_leaf m kp b n
    refine F.ok sc__law_nodes (fun vs H Q E h => ?_) (fun cdv A outer s H vs Q E hr h => ?_)
    · obtain ⟨v, pl, rfl, _⟩ := h
      rfl
    · obtain ⟨v, pl, rfl, hA, hn, hn1, q⟩ := h
      have hr1 := hr.mono (j := 1) (by omega)
      refine ⟨_, (pss_cons (ps_if (pt_val (pe_call C__law_is_leaf.G hr1 (by rfl) C__law_is_leaf.m C__law_is_leaf.k C__law_is_leaf.b .nil pass0 (pa_cons (pv 0) pa_nil)))
  (pss_one (ps_ret (pe_lst (pa_cons (pv 0) pa_nil))))
  pss_nil)
  (pss_cons (ps_set (i := 1) sc__law_nodes.nd rfl (.inl rfl) (pe_lst (pa_cons (pe_tup (pa_cons (pe_ix (ixT (K := K) rfl) (pv 0) pe_int (fun _ _ => rfl)) (pa_cons (pe_callB (lenQ (K := K) rfl) (by rfl) T.len_ (by decide +kernel) (pa_cons (pe_ix (ixT (K := K) rfl) (pv 0) pe_int (fun _ _ => rfl)) pa_nil)) pa_nil))) pa_nil)))
  (pss_cons (ps_for PassesOwn.never (by rfl) (pi_tup (pe_ix (ixT (K := K) rfl) (pv 0) pe_int (fun _ _ => rfl))) (pg_name (i := 2) sc__law_nodes.nd rfl (.inl rfl))
  (pss_one (ps_set (i := 1) sc__law_nodes.nd rfl (.inl rfl) (pe_op op_cat (pv 1) (pe_call G hr (by rfl) m kp b .nil pass0 (pa_cons (pv 2) pa_nil))))))
  (pss_one (ps_ret (pv 1)))))), ?_⟩
      refine ⟨_, rfl, v, pl, rfl, hA, fun H1 s1 => ?_⟩
      refine ⟨_, rfl, ?_⟩
      cases hA with
      | leaf h o =>
        rename_i a k t
        refine iteT ?_
        refine ⟨_, rfl, lenOk 1, fun p np => ?_⟩
        have s2 := s1.trans (same_new (o := .lst [V.ref a]) np)
        refine q _ p _ s2 (s1.free np) upd_same ?_
        rw [nodesOf]
        exact .cons ((stk s2).seq h) .nil
      | node h1 h2 o a1 a2 r =>
        rename_i a c k vs ps
        refine iteF ?_
        refine ⟨_, rfl, a, _, 0, .str k, rfl, rfl, (stk s1).seq h1, rfl, _, rfl, a, _, 1, .ref c, rfl, rfl, (stk s1).seq h1, rfl, ?_⟩
        refine .inl ⟨c, vs, rfl, .inr ((stk s1).seq h2), lenOk 2, fun t nt => ⟨lenOk 1, fun l nl => ?_⟩⟩
        have s2 := s1.trans (same_new (o := .tup [.str k, .int (vs.length : Int)]) nt)
        have s3 := s2.trans (same_new (o := .lst [V.ref t]) nl)
        have nlt : l ≠ t := fun e => by rw [e, upd_same] at nl; cases nl
        have nH : H l = none := s2.free nl
        have hlen := r.length
        have hn' : (nodesAll ps).length ≤ n := by
          rw [nodesOf, List.length_cons] at hn
          omega
        refine ⟨_, rfl, a, _, 1, .ref c, rfl, rfl, (stk s3).seq h1, rfl, c, rfl, ⟨vs, (stk s3).seq h2⟩, for_tup (K := K) (a := c) (xs := vs) (fun i σ H2 => ∃ x l xs, σ = [some (.ref a), some (.ref l), x] ∧ Same H H2 ∧ H l = none ∧ H2 l = some (.lst xs) ∧ NdsAt K H2 xs ((k, .int (ps.length : Int)) :: nodesAll (ps.take i))) ?_ (fun i σ H2 _ h => ?_) ?_ ?_⟩
        · refine ⟨none, l, _, rfl, s3, nH, upd_same, ?_⟩
          rw [← hlen]
          have e : (nodesAll (ps.take 0)) = [] := by rw [List.take_zero, nodesAll]
          rw [e]
          exact .cons (SqT.of (by rw [upd_ne nlt.symm]; exact upd_same)) .nil
        · obtain ⟨_, _, _, _, s4, _⟩ := h
          exact (stk s4).seq h2
        · rintro i v2 σ H2 hi ⟨x, l2, xs, rfl, s4, n4, e4, d4⟩
          obtain ⟨p2, hp2, hA2⟩ := r.get hi
          refine ⟨_, rfl, _, rfl, v2, p2, rfl, hA2.tk (stk s4), Nat.le_trans (nodesOf_get hp2) hn', by omega, fun ys p5 H5 s5 n5 e5 d5 => ?_⟩
          have b1 := (d4.tk (stk s5)).length
          have b2 := d5.length
          have b3 := nodesOf_get hp2
          have b4 : (nodesAll (ps.take i)).length ≤ n := by
            have := congrArg List.length (nodesAll_append (ps.take i) (ps.drop i))
            rw [List.take_append_drop, List.length_append] at this
            omega
          rw [List.length_cons] at b1
          refine ⟨l2, p5, xs, ys, rfl, rfl, s5 _ _ e4, e5, Nat.le_of_lt (small (by omega)), fun p6 n6 => ?_⟩
          have s6 := s5.trans (same_new (o := .lst (xs ++ ys)) n6)
          refine ⟨_, p6, _, rfl, s4.trans s6, (s4.trans s5).free n6, upd_same, ?_⟩
          rw [nodesAll_take hp2, ← List.cons_append]
          exact (d4.tk (stk s6)).app (d5.tk (Tk.new n6))
        · rintro σ H2 ⟨x, l2, xs, rfl, s4, n4, e4, d4⟩
          refine ⟨_, rfl, q xs l2 H2 s4 n4 e4 ?_⟩
          rw [nodesOf]
          have e : ps.take vs.length = ps := by rw [hlen]; exact List.take_length
          rw [e] at d4
          exact d4
end
end Eh

set_option Elab.async false
set_option linter.all false
set_option maxRecDepth 100000
namespace Eh
open PySem PySem.Spec PyProof.Rows L2
theorem off_gr {d : Addr} {H H' : Hp} (D : D3 H' d) (k : ∀ b, b ≠ d → H' b = H b) : Gr d H H' := ⟨D, fun a o n e => by rw [k a n]; exact e⟩
theorem same_gr {d : Addr} {H H' : Hp} (D : D3 H d) (s : Same H H') : Gr d H H' := by
  obtain ⟨g, b, c, e⟩ := D
  exact ⟨⟨g, b, c, s _ _ e⟩, fun a o _ z => s a o z⟩
theorem gr_same {d : Addr} {H0 H H' : Hp} (n : H0 d = none) (s : Same H0 H) (g : Gr d H H') : Same H0 H' := fun b o e => g.keep b o (ne_of_none e n) (s b o e)
theorem lenS (n : Nat) {m : Nat} (e : m = n := by rfl) (h : n < 1000000 := by decide) : m ≤ sizeLine := by
  rw [e]
  exact Nat.le_of_lt (small h)
theorem iteT' {c : Bool} {A B : Prop} (e : c = true) (h : A) : if c = true then A else B := by
  rw [if_pos e]
  exact h
theorem iteF' {c : Bool} {A B : Prop} (e : c = false) (h : B) : if c = true then A else B := by
  rw [e]
  exact iteF h
/-- how many nodes are of some kinds -/
def countIn (ws : List Str) (ns : List (Str × V)) : Nat := (ns.filter fun n => ws.contains n.1).length
theorem countIn_app (ws : List Str) (a b : List (Str × V)) : countIn ws (a ++ b) = countIn ws a + countIn ws b := by
  unfold countIn
  rw [List.filter_append, List.length_append]
theorem countIn_le (ws : List Str) (a : List (Str × V)) : countIn ws a ≤ a.length := List.length_filter_le _ _
theorem countIn_one (ws : List Str) (k : Str) (u : V) : countIn ws [(k, u)] = if ws.contains k = true then 1 else 0 := by
  unfold countIn
  rw [List.filter_cons]
  show (if ws.contains k = true then _ else _ : List (Str × V)).length = _
  split <;> rfl
theorem take_succ' {α : Type} {l : List α} {j : Nat} {c : α} (h : l[j]? = some c) : l.take (j + 1) = l.take j ++ [c] := by
  rw [List.take_add_one, h]
  rfl
/-- its words are among some -/
def InW (ws : List Str) (ns : List (Str × V)) : Prop := ∀ k z, (k, V.str z) ∈ ns → z ∈ ws
section
variable {P : Program} {w : World} {K : PySem.W.Frag} {mg : Str → Option Value} {base : Heap}
def spCount (K : PySem.W.Frag) (n : Nat) : Sp := fun vs H Q _ => ∃ v pl a ws, vs = [v, .ref a] ∧ At K H v pl ∧ SqL K H a (ws.map V.str) ∧ (nodesOf pl).length ≤ n ∧ n < 1000 ∧ ∀ H', Same H H' → Q (.int (countIn ws (nodesOf pl))) H'
theorem ok_count {n : Nat} {f fN : Addr} {fd fdN : FuncData} (F : Fun K "_law_count" "_law_count" s__law_count f fd) (T : Txt mg) (C__law_nodes : Cal P w K mg base (n + 1) "_law_nodes" fN fdN ["plain"] (spNodes K n)) :
    FnOk P w K mg base CX0 (n + 2) f fd ["plain", "kinds"] (spCount K n) := by
  refine F.ok sc__law_count (fun vs H Q E h => ?_) (fun cdv A outer s H vs Q E hr h => ?_)
  · obtain ⟨v, pl, a, ws, rfl, _⟩ := h
    rfl
  · obtain ⟨v, pl, a, ws, rfl, hA, hS, hn, hn1, q⟩ := h
    refine ⟨_, (pss_one (ps_ret (pe_callB (lenQ (K := K) rfl) (by rfl) T.len_ (by decide +kernel) (pa_cons (pe_lc (own := [("node", 2)]) (g := gName 2) (by rfl) sc__law_count.nd (piL (K := K) rfl (pe_call C__law_nodes.G hr (by rfl) C__law_nodes.m C__law_nodes.k C__law_nodes.b .nil pass0 (pa_cons (pv 0) pa_nil))) (blkOk_by (by kernel_rfl)) (fun _ _ _ _ _ => (pg_name (i := 2) sc__law_count.nd rfl (.inl rfl))) (fun _ _ _ _ _ => (pts_one (pt_cmpR (inQ (K := K) rfl) (pe_ix (ixT (K := K) rfl) (pv 2) pe_int (fun _ _ => rfl)) (pv 1) (by rfl)))) (fun _ _ _ _ _ => (pv 2))) pa_nil)))), ?_⟩
    refine ⟨_, rfl, v, pl, rfl, hA, hn, hn1, fun xs p H1 s1 n1 e1 d1 => ?_⟩
    refine ⟨p, rfl, ⟨xs, SqL.of e1⟩, fun D nD => ?_⟩
    have s2 := s1.trans (same_new (o := .lst []) nD)
    have nDH : H D = none := s1.free nD
    have npD : p ≠ D := ne_of_none e1 nD
    have hl := d1.length
    refine lcL (fun j acc H2 => Same H H2 ∧ H2 p = some (.lst xs) ∧ NdsAt K H2 xs (nodesOf pl) ∧ acc.length = countIn ws ((nodesOf pl).take j)) ⟨s2, by rw [upd_ne npD]; exact e1, d1.tk (Tk.new nD), rfl⟩ (fun j acc H2 h => SqL.of h.2.1) ?_ ?_
    · rintro j x acc H2 hx hl2 e2 ⟨s3, e3, d3, ea⟩
      obtain ⟨t, k, u, rfl, hk, ht⟩ := d3.get hx
      have hj : j < 1000 := by
        have := (List.getElem?_eq_some_iff.mp hx).1
        omega
      refine ⟨_, rfl, t, _, 0, .str k, rfl, rfl, ht, rfl, _, rfl, a, ws.map V.str, rfl, .inl (s3.seq hS), rfl, flat_strs _, _, rfl, ?_⟩
      rw [inV_strs]
      have et : countIn ws ((nodesOf pl).take (j + 1)) = countIn ws ((nodesOf pl).take j) + countIn ws [(k, u)] := by rw [take_succ' hk, countIn_app]
      cases ek : ws.contains k with
      | true =>
        refine iteT ⟨_, rfl, ?_⟩
        refine LcK.mk hl2 (by omega) e2 ⟨fun b o eb => ?_, ?_, d3.tk (Tk.put e2), ?_⟩
        · rw [upd_ne (ne_of_none eb nDH)]
          exact s3 b o eb
        · rw [upd_ne npD]
          exact e3
        · rw [List.length_append, ea, et]
          rw [countIn_one, if_pos ek]
          rfl
      | false =>
        refine iteF ⟨acc, by omega, e2, s3, e3, d3, ?_⟩
        rw [ea, et]
        rw [countIn_one, if_neg (by rw [ek]; exact Bool.false_ne_true)]
        rfl
    · rintro acc H2 hl2 e2 ⟨s3, e3, d3, ea⟩
      refine .inl ⟨D, acc, rfl, .inl (SqL.of e2), ?_⟩
      rw [hl, List.take_length] at ea
      rw [ea]
      exact q H2 s3
/-! leaf -/
def spLeaf (K : PySem.W.Frag) : Sp := fun vs H Q _ => ∃ d a ws, vs = [.ref d, .ref a] ∧ D3 H d ∧ SqL K H a (ws.map V.str) ∧ a ≠ d ∧ 0 < ws.length ∧ ws.length < 1000000 ∧
  ∀ v k t H', Gr d H H' → At K H' v (.leaf k t) → InW ws [(k, t)] → Q v H'
theorem ok_leaf {f fR fP : Addr} {fd fdR fdP : FuncData} (F : Fun K "_law_leaf" "_law_leaf" s__law_leaf f fd) (T : Txt mg) (C__law_roll : Cal P w K mg base 1 "_law_roll" fR fdR ["dice", "many"] spRoll)
    (C__law_pick : Cal P w K mg base 2 "_law_pick" fP fdP ["dice", "items"] (spPick K)) : FnOk P w K mg base CX0 3 f fd ["dice", "words"] (spLeaf K) := by
  refine F.ok sc__law_leaf (fun vs H Q E h => ?_) (fun cdv A outer s H vs Q E hr h => ?_)
  · obtain ⟨d, a, ws, rfl, _⟩ := h
    rfl
  · obtain ⟨d, a, ws, rfl, D, hS, hn, h0, h1, q⟩ := h
    have hr1 := hr.mono (j := 1) (by omega)
    refine ⟨_, (pss_cons (ps_set (i := 2) sc__law_leaf.nd rfl (.inl rfl) (pe_call C__law_roll.G hr1 (by rfl) C__law_roll.m C__law_roll.k C__law_roll.b .nil pass0 (pa_cons (pv 0) (pa_cons pe_int pa_nil))))
  (pss_cons (ps_if (pt_cmpR op_lt (pv 2) pe_int (nomark _))
  (pss_one (ps_ret (pe_ix (ixL (K := K) rfl) (pe_lst (pa_cons (pe_tup (pa_cons pe_str (pa_cons pe_int pa_nil))) (pa_cons (pe_tup (pa_cons pe_str (pa_cons pe_int pa_nil))) pa_nil))) (pv 2) (fun _ _ => rfl))))
  pss_nil)
  (pss_one (ps_ret (pe_tup (pa_cons (pe_ix (ixL (K := K) rfl) (pe_lst (pa_cons pe_str (pa_cons pe_str pa_nil))) (pe_op op_modN (pv 2) pe_int) (fun _ _ => rfl)) (pa_cons (pe_call C__law_pick.G hr (by rfl) C__law_pick.m C__law_pick.k C__law_pick.b .nil pass0 (pa_cons (pv 0) (pa_cons (pv 1) pa_nil))) pa_nil))))))), ?_⟩
    refine ⟨_, rfl, d, 9, rfl, D, by decide, by decide, fun r H1 r0 r1 D1 k1 => ?_⟩
    have g1 := off_gr (H := H) D1 k1
    refine ⟨_, rfl, r, 2, rfl, rfl, _, rfl, ite2 (fun hlt => ?_) (fun _ => ?_)⟩
    · have hlt : r < 2 := of_decide_eq_true hlt
      refine ⟨lenOk 2, fun t1 n1 => ⟨lenOk 2, fun t2 n2 => ⟨lenOk 2, fun l n3 => ?_⟩⟩⟩
      have a1 := Gr.laid (o := .tup [.str "yes", .int 0]) g1.dice n1
      have a2 := Gr.laid (o := .tup [.str "no", .int 0]) a1.dice n2
      have a3 := Gr.laid (o := .lst [.ref t1, .ref t2]) a2.dice n3
      have n12 : t1 ≠ t2 := ne_of_none (upd_same) n2
      have n13 : t1 ≠ l := ne_of_none (H := upd (upd H1 t1 _) t2 _) (by rw [upd_ne n12]; exact upd_same) n3
      have n23 : t2 ≠ l := ne_of_none upd_same n3
      have r01 : r = 0 ∨ r = 1 := by omega
      rcases r01 with rfl | rfl
      · refine ⟨_, rfl, l, _, 0, _, rfl, rfl, SqL.of upd_same, rfl, q _ "yes" (.int 0) _ (g1.trans (a1.trans (a2.trans a3))) (.leaf (SqT.of ?_) (by decide +kernel)) (fun k z hz => ?_)⟩
        · rw [upd_ne n13, upd_ne n12]
          exact upd_same
        · rw [List.mem_singleton] at hz
          cases hz
      · refine ⟨_, rfl, l, _, 1, _, rfl, rfl, SqL.of upd_same, rfl, q _ "no" (.int 0) _ (g1.trans (a1.trans (a2.trans a3))) (.leaf (SqT.of ?_) (by decide +kernel)) (fun k z hz => ?_)⟩
        · rw [upd_ne n23]
          exact upd_same
        · rw [List.mem_singleton] at hz
          cases hz
    · refine ⟨lenOk 2, fun l n1 => ?_⟩
      have a1 := Gr.laid (o := .lst [.str "fact", .str "not"]) g1.dice n1
      refine ⟨_, rfl, _, _, rfl, rfl, (show (2 : Int) ≠ 0 by decide), ?_⟩
      have b0 := fmod_in (i := r) (m := 2) (by decide)
      obtain ⟨k, ek, hk⟩ : ∃ k, atI [V.str "fact", .str "not"] (r.fmod 2) = some (.str k) ∧ (k = "fact" ∨ k = "not") := by
        have : r.fmod 2 = 0 ∨ r.fmod 2 = 1 := by omega
        rcases this with e | e
        · exact ⟨"fact", by rw [e]; rfl, .inl rfl⟩
        · exact ⟨"not", by rw [e]; rfl, .inr rfl⟩
      have g2 := g1.trans a1
      refine ⟨l, _, _, _, rfl, rfl, SqL.of upd_same, ek, _, rfl, _, rfl, d, a, ws.map V.str, rfl, g2.dice, g2.seq hn hS, hn, by rw [List.length_map]; exact h0, by rw [List.length_map]; exact h1, fun x H3 hx D3' k3 => ?_⟩
      obtain ⟨z, hz, rfl⟩ := List.mem_map.mp hx
      have g3 := g2.trans (off_gr D3' k3)
      refine ⟨lenOk 2, fun t nt => ?_⟩
      refine q _ k (.str z) _ (g3.trans (Gr.laid D3' nt)) (.leaf (SqT.of upd_same) ?_) (fun k2 z2 h2 => ?_)
      · rcases hk with rfl | rfl <;> rfl
      · rw [List.mem_singleton] at h2
        cases h2
        exact hz
end
end Eh

set_option Elab.async false
set_option linter.all false
set_option maxRecDepth 100000
namespace Eh
open PySem PySem.Spec PyProof.Rows L2
/-- two ways that come together -/
theorem join2 {α β : Type} {C Pm : α → β → Prop} {c : Bool} {A B : Prop} (ha : c = true → (∀ x y, C x y → Pm x y) → A) (hb : c = false → (∀ x y, C x y → Pm x y) → B) (tail : ∀ x y, C x y → Pm x y) : if c = true then A else B := by
  cases c with
  | true => exact iteT (ha rfl tail)
  | false => exact iteF (hb rfl tail)
theorem atI_last {xs : List V} {v : V} : atI (xs ++ [v]) (-1) = some v := by
  have h : xs.length < (xs ++ [v]).length := by rw [List.length_append]; exact Nat.lt_succ_self _
  unfold atI ixN
  rw [if_neg (by omega), if_pos (by rw [List.length_append, List.length_singleton]; omega)]
  have e : ((-1 : Int) + ((xs ++ [v]).length : Int)).toNat = xs.length := by
    rw [List.length_append, List.length_singleton]
    omega
  show (xs ++ [v])[_]? = _
  first
    | rw [e]
    | rw [show (((xs ++ [v]).length : Int) + -1).toNat = xs.length from by rw [List.length_append, List.length_singleton]; omega]
  exact List.getElem?_concat_length
end Eh

set_option Elab.async false
set_option linter.all false
set_option maxRecDepth 100000
namespace Eh
open PySem PySem.Spec PyProof.Rows L2
def choiceKinds : List Str := ["mine", "yours"]
theorem InW.app {ws : List Str} {a b : List (Str × V)} (h : InW ws a) (k : InW ws b) : InW ws (a ++ b) := fun x z hz => (List.mem_append.mp hz).elim (h x z) (k x z)
theorem InW.nil {ws : List Str} : InW ws [] := fun _ _ h => nomatch h
theorem Gr.ne {d l : Addr} {H : Hp} {xs : List V} (D : D3 H d) (n : H l = none) : l ≠ d := D.ne n
theorem choice_node {k : Str} (h : choiceKinds.contains k = true) : nodeOk k = true := by
  unfold choiceKinds at h
  rw [List.contains_iff_mem] at h
  simp only [List.mem_cons, List.not_mem_nil, or_false] at h
  rcases h with rfl | rfl <;> decide +kernel
theorem iteC {K' : VK} {σ : L2.St} {H : Hp} {a b : V} {c : Bool} (h : ∀ v, (c = true → v = a) → (c = false → v = b) → tC v σ H K') : if c = true then tC a σ H K' else tC b σ H K' := by
  cases c with
  | true => exact iteT (h a (fun _ => rfl) (fun e => nomatch e))
  | false => exact iteF (h b (fun e => nomatch e) (fun _ => rfl))
section
variable {P : Program} {w : World} {K : PySem.W.Frag} {mg : Str → Option Value} {base : Heap}
def spDrawn (K : PySem.W.Frag) (n : Nat) : Sp := fun vs H Q _ => ∃ (d a : Addr) (ws : List Str) (most choices : Int), vs = [.ref d, .ref a, .int most, .int choices] ∧ D3 H d ∧ SqL K H a (ws.map V.str) ∧ a ≠ d ∧ 0 < ws.length ∧ ws.length < 1000000 ∧
  1 ≤ most ∧ most ≤ n ∧ n < 900 ∧ 0 ≤ choices ∧ choices < 100000 ∧
  ∀ v pl H', Gr d H H' → At K H' v pl → InW ws (nodesOf pl) → ((nodesOf pl).length : Int) ≤ most → (countIn choiceKinds (nodesOf pl) : Int) ≤ choices → Q v H'
theorem ok_drawn {N : Nat} (hNb : N < 1000) {f fR fP fL fN fC : Addr} {fd fdR fdP fdL fdN fdC : FuncData} (F : Fun K "_law_drawn" "_law_drawn" s__law_drawn f fd) (T : Txt mg) (C__law_roll : Cal P w K mg base 1 "_law_roll" fR fdR ["dice", "many"] spRoll)
    (C__law_pick : Cal P w K mg base 2 "_law_pick" fP fdP ["dice", "items"] (spPick K)) (C__law_leaf : Cal P w K mg base 3 "_law_leaf" fL fdL ["dice", "words"] (spLeaf K)) (C__law_nodes : Cal P w K mg base (N + 1) "_law_nodes" fN fdN ["plain"] (spNodes K N))
    (C__law_count : Cal P w K mg base (N + 2) "_law_count" fC fdC ["plain", "kinds"] (spCount K N)) (m : mg "_law_drawn" = some (.ref f)) (kp : PySem.W.keepIn K (.ref f) = true) (b : Binds K fd ["dice", "words", "most", "choices"] []) :
    ∀ n : Nat, n ≤ N → FnOk P w K mg base CX0 (N + 3 + n) f fd ["dice", "words", "most", "choices"] (spDrawn K n)
  | 0, _ => F.ok sc__law_drawn (fun vs H Q E h => by
      obtain ⟨d, a, ws, most, choices, rfl, _⟩ := h
      rfl) (fun cdv A outer s H vs Q E hr h => by
      obtain ⟨d, a, ws, most, choices, rfl, _, _, _, _, _, h1, h2, _⟩ := h
      omega)
  | n + 1, hN => by
    have G := ok_drawn hNb F T C__law_roll C__law_pick C__law_leaf C__law_nodes C__law_count m kp b n (by omega)
    refine F.ok sc__law_drawn (fun vs H Q E h => ?_) (fun cdv A outer s H vs Q E hr h => ?_)
    · obtain ⟨d, a, ws, most, choices, rfl, _⟩ := h
      rfl
    · obtain ⟨d, a, ws, most, choices, rfl, D, hS, hn, hw0, hw1, hm1, hm2, hn9, hc0, hc1, q⟩ := h
      have hr : Room (N + 3 + n) _ := hr
      have hr0 := hr.mono (j := 1) (by omega)
      have hr2 := hr.mono (j := 2) (by omega)
      have hr3 := hr.mono (j := 3) (by omega)
      have hrN := hr.mono (j := N + 1) (by omega)
      have hrC := hr.mono (j := N + 2) (by omega)
      have hrG := hr.mono (j := N + 3 + n) (by omega)
      refine ⟨_, (pss_cons (ps_if (PW.pt (pw_or (pt_cmpR op_lt (pv 2) pe_int (nomark _)) (pw_or1 (pt_cmpR op_eq (pe_call C__law_roll.G hr0 (by rfl) C__law_roll.m C__law_roll.k C__law_roll.b .nil pass0 (pa_cons (pv 0) (pa_cons pe_int pa_nil))) pe_int (nomark _)))))
  (pss_one (ps_ret (pe_call C__law_leaf.G hr3 (by rfl) C__law_leaf.m C__law_leaf.k C__law_leaf.b .nil pass0 (pa_cons (pv 0) (pa_cons (pv 1) pa_nil)))))
  pss_nil)
  (pss_cons (ps_set (i := 4) sc__law_drawn.nd rfl (.inl rfl) (pe_call C__law_pick.G hr2 (by rfl) C__law_pick.m C__law_pick.k C__law_pick.b .nil pass0 (pa_cons (pv 0) (pa_cons (pe_op op_cat (pe_lst (pa_cons pe_str (pa_cons pe_str pa_nil))) (pe_ifExp (pt_cmpR op_gt (pv 3) pe_int (nomark _)) (pe_op op_rep (pe_lst (pa_cons pe_str (pa_cons pe_str pa_nil))) pe_int) (pe_lst pa_nil))) pa_nil))))
  (pss_cons (ps_set (i := 5) sc__law_drawn.nd rfl (.inl rfl) (pe_ifExp (pt_cmpR op_lt (pv 2) pe_int (nomark _)) pe_int (pe_call C__law_pick.G hr2 (by rfl) C__law_pick.m C__law_pick.k C__law_pick.b .nil pass0 (pa_cons (pv 0) (pa_cons (pe_lst (pa_cons pe_int (pa_cons pe_int (pa_cons pe_int (pa_cons pe_int pa_nil))))) pa_nil)))))
  (pss_cons (ps_par (i := 6) (j := 7) (by rfl) sc__law_drawn.nd rfl rfl (by decide) (by rfl) (by rfl) (pa_cons (pe_op op_sub (pv 3) (pe_ifExp (pt_cmpR (inQ (K := K) rfl) (pv 4) (pe_lst (pa_cons pe_str (pa_cons pe_str pa_nil))) (by rfl)) pe_int pe_int)) (pa_cons (pe_lst pa_nil) pa_nil)) (by rfl))
  (pss_cons (ps_set (i := 8) sc__law_drawn.nd rfl (.inl rfl) (pe_op op_sub (pe_op op_sub (pv 2) pe_int) (pv 5)))
  (pss_cons (ps_for PassesOwn.never (by rfl) (pi_range1 (by rfl) T.range_ (pa_cons (pv 5) pa_nil)) (pg_name (i := 9) sc__law_drawn.nd rfl (.inl rfl))
  (pss_cons (ps_set (i := 10) sc__law_drawn.nd rfl (.inl rfl) (pe_ifExp (pt_cmpR op_lt (pv 9) (pe_op op_sub (pv 5) pe_int) (nomark _)) (pe_call C__law_pick.G hr2 (by rfl) C__law_pick.m C__law_pick.k C__law_pick.b .nil pass0 (pa_cons (pv 0) (pa_cons (pe_lst (pa_cons pe_int (pa_cons (pe_op op_fdivN (pv 8) pe_int) (pa_cons (pv 8) pa_nil)))) pa_nil))) (pv 8)))
  (pss_cons (ps_set (i := 11) sc__law_drawn.nd rfl (.inl rfl) (pe_ifExp (pt_cmpR op_lt (pv 9) (pe_op op_sub (pv 5) pe_int) (nomark _)) (pe_call C__law_roll.G hr0 (by rfl) C__law_roll.m C__law_roll.k C__law_roll.b .nil pass0 (pa_cons (pv 0) (pa_cons (pe_op op_add (pv 6) pe_int) pa_nil))) (pv 6)))
  (pss_cons (ps_expr (bmK (K := K) rfl (pe_bm PySem.F.plainAttrs_list PySem.F.slot_list_append PySem.F.type_list_append mt_append (pv 7) (pa_cons (pe_call G hrG (by rfl) m kp b .nil pass0 (pa_cons (pv 0) (pa_cons (pv 1) (pa_cons (pe_op op_add pe_int (pv 10)) (pa_cons (pv 11) pa_nil))))) pa_nil))))
  (pss_cons (ps_set (i := 8) sc__law_drawn.nd rfl (.inl rfl) (pe_op op_add (pe_op op_sub (pv 8) (pe_callB (lenQ (K := K) rfl) (by rfl) T.len_ (by decide +kernel) (pa_cons (pe_call C__law_nodes.G hrN (by rfl) C__law_nodes.m C__law_nodes.k C__law_nodes.b .nil pass0 (pa_cons (pe_ix (ixL (K := K) rfl) (pv 7) (pe_un un_neg pe_int) (fun _ _ => rfl)) pa_nil)) pa_nil))) pe_int))
  (pss_one (ps_set (i := 6) sc__law_drawn.nd rfl (.inl rfl) (pe_op op_sub (pv 6) (pe_call C__law_count.G hrC (by rfl) C__law_count.m C__law_count.k C__law_count.b .nil pass0 (pa_cons (pe_ix (ixL (K := K) rfl) (pv 7) (pe_un un_neg pe_int) (fun _ _ => rfl)) (pa_cons (pe_lst (pa_cons pe_str (pa_cons pe_str pa_nil))) pa_nil)))))))))))
  (pss_one (ps_ret (pe_tup (pa_cons (pv 4) (pa_cons (pe_callTy call_tuple_of (by rfl) T.tuple_ (by decide +kernel) (pa_cons (pv 7) pa_nil)) pa_nil))))))))))), ?_⟩
      have leafK : ∀ H1, Gr d H H1 → ∃ d' a' ws', [V.ref d, V.ref a] = [.ref d', .ref a'] ∧ D3 H1 d' ∧ SqL K H1 a' (ws'.map V.str) ∧ a' ≠ d' ∧ 0 < ws'.length ∧ ws'.length < 1000000 ∧ ∀ v k t H', Gr d' H1 H' → At K H' v (.leaf k t) → InW ws' [(k, t)] → Q v H' := fun H1 g1 =>
        ⟨d, a, ws, rfl, g1.dice, g1.seq hn hS, hn, hw0, hw1, fun v k t H' g2 hA hw => q v _ H' (g1.trans g2) hA (by rw [nodesOf]; exact hw) (by rw [nodesOf]; exact hm1) (by
          rw [nodesOf, countIn_one, if_neg]
          · exact hc0
          · intro hk
            have := choice_node hk
            cases hA with
            | leaf _ o =>
              have h1 := leaf_kind o
              rw [node_kind this] at h1
              cases h1)⟩
      refine ⟨_, rfl, most, 3, rfl, rfl, _, rfl, ite2 (fun _ => ?_) (fun hm3 => ?_)⟩
      · exact ⟨_, rfl, _, rfl, leafK H (.refl D)⟩
      have hm3 : 3 ≤ most := by
        have := mt decide_eq_true hm3
        omega
      refine ⟨_, rfl, d, 6, rfl, D, by decide, by decide, fun r H1 r0 r1 D1 k1 => ?_⟩
      have g1 := off_gr (H := H) D1 k1
      refine ⟨rfl, _, rfl, ite2 (fun _ => ?_) (fun _ => ?_)⟩
      · exact ⟨_, rfl, _, rfl, leafK H1 g1⟩
      clear leafK
      -- kind
      refine ⟨_, rfl, lenOk 2, fun l1 n1 => ?_⟩
      have a1 := Gr.laid (o := .lst [.str "all", .str "some"]) g1.dice n1
      refine ⟨_, rfl, choices, 0, rfl, rfl, _, rfl, ?_⟩
      refine' join2 (C := fun (k : Str) H' => Gr d H H' ∧ nodeOk k = true ∧ (choiceKinds.contains k = true → 0 < choices)) (ha := ?ha1) (hb := ?hb1) (tail := ?tl1)
      case ha1 =>
        intro hch tail
        have hch : 0 < choices := of_decide_eq_true hch
        refine ⟨lenOk 2, fun l2 n2 => ?_⟩
        have a2 := Gr.laid (o := .lst [.str "mine", .str "yours"]) a1.dice n2
        refine ⟨l2, 2, _, rfl, rfl, upd_same, by decide, by decide, by rw [sizeLine_eq]; show 2 * 2 ≤ _; omega, fun l3 n3 => ?_⟩
        have a3 := Gr.laid (o := .lst (List.replicate (2 : Int).toNat [V.str "mine", .str "yours"]).flatten) a2.dice n3
        have e1 : l1 ≠ d := g1.dice.ne n1
        refine ⟨l1, l3, _, _, rfl, rfl, a3.keep _ _ e1 (a2.keep _ _ e1 upd_same), upd_same, lenS 6, fun l4 n4 => ?_⟩
        have a4 := Gr.laid (o := .lst ([V.str "all", .str "some"] ++ (List.replicate (2 : Int).toNat [V.str "mine", .str "yours"]).flatten)) a3.dice n4
        refine ⟨d, l4, _, rfl, a4.dice, SqL.of upd_same, a3.dice.ne n4, by decide, by decide, fun x H2 hx D2 k2 => ?_⟩
        have hx : x ∈ [V.str "all", .str "some", .str "mine", .str "yours", .str "mine", .str "yours"] := hx
        obtain ⟨k, rfl, hk⟩ : ∃ k, x = .str k ∧ nodeOk k = true := by
          simp only [List.mem_cons, List.not_mem_nil, or_false] at hx
          rcases hx with rfl | rfl | rfl | rfl | rfl | rfl <;> exact ⟨_, rfl, by decide +kernel⟩
        exact tail k H2 ⟨g1.trans (a1.trans (a2.trans (a3.trans (a4.trans (off_gr D2 k2))))), hk, fun _ => hch⟩
      case hb1 =>
        intro hch tail
        refine ⟨Nat.zero_le _, fun l2 n2 => ?_⟩
        have a2 := Gr.laid (o := .lst []) a1.dice n2
        have e1 : l1 ≠ d := g1.dice.ne n1
        refine ⟨l1, l2, _, _, rfl, rfl, a2.keep _ _ e1 upd_same, upd_same, lenS 2, fun l4 n4 => ?_⟩
        have a4 := Gr.laid (o := .lst ([V.str "all", .str "some"] ++ [])) a2.dice n4
        refine ⟨d, l4, _, rfl, a4.dice, SqL.of upd_same, a2.dice.ne n4, by decide, by decide, fun x H2 hx D2 k2 => ?_⟩
        have hx : x ∈ [V.str "all", .str "some"] := hx
        obtain ⟨k, rfl, hk, hk2⟩ : ∃ k, x = .str k ∧ nodeOk k = true ∧ choiceKinds.contains k = false := by
          simp only [List.mem_cons, List.not_mem_nil, or_false] at hx
          rcases hx with rfl | rfl <;> exact ⟨_, rfl, by decide +kernel, by decide +kernel⟩
        exact tail k H2 ⟨g1.trans (a1.trans (a2.trans (a4.trans (off_gr D2 k2)))), hk, fun h => absurd h (by rw [hk2]; exact Bool.false_ne_true)⟩
      clear a1 n1 g1
      intro k H3 ⟨g3, hk, hkc⟩
      -- many
      refine ⟨_, rfl, most, 4, rfl, rfl, _, rfl, ?_⟩
      refine' join2 (C := fun (mm : Int) H' => Gr d H H' ∧ (mm = 2 ∨ (mm = 3 ∧ 4 ≤ most))) (ha := ?ha2) (hb := ?hb2) (tail := ?tl2)
      case hb2 =>
        intro h4 tail
        have h4 : 4 ≤ most := by
          have := of_decide_eq_false h4
          omega
        refine ⟨_, rfl, lenOk 4, fun l1 n1 => ?_⟩
        have a1 := Gr.laid (o := .lst [.int 2, .int 2, .int 2, .int 3]) g3.dice n1
        refine ⟨d, l1, _, rfl, a1.dice, SqL.of upd_same, g3.dice.ne n1, by decide, by decide, fun x H2 hx D2 k2 => ?_⟩
        obtain ⟨mm, rfl, hm⟩ : ∃ mm : Int, x = .int mm ∧ (mm = 2 ∨ mm = 3) := by
          simp only [List.mem_cons, List.not_mem_nil, or_false] at hx
          rcases hx with rfl | rfl | rfl | rfl
          · exact ⟨_, rfl, .inl rfl⟩
          · exact ⟨_, rfl, .inl rfl⟩
          · exact ⟨_, rfl, .inl rfl⟩
          · exact ⟨_, rfl, .inr rfl⟩
        exact tail mm H2 ⟨g3.trans (a1.trans (off_gr D2 k2)), hm.imp id fun e => ⟨e, h4⟩⟩
      case ha2 =>
        intro _ tail
        exact tail 2 H3 ⟨g3, .inl rfl⟩
      clear g3
      intro mm H4 ⟨g4, hmm⟩
      -- left
      refine ⟨_, rfl, _, rfl, lenOk 2, fun l1 n1 => ?_⟩
      have a1 := Gr.laid (o := .lst [.str "mine", .str "yours"]) g4.dice n1
      refine ⟨l1, choiceKinds.map V.str, rfl, .inl (SqL.of upd_same), rfl, flat_strs _, _, rfl, ?_⟩
      refine iteC (fun v e1 e2 => ?_)
      obtain ⟨j, rfl, hj0, hj1, hjc⟩ : ∃ j : Int, v = .int j ∧ 0 ≤ j ∧ j ≤ choices ∧ (choiceKinds.contains k = true → j = 1) := by
        cases hb : choiceKinds.contains k with
        | true => 
          have := hkc hb
          exact ⟨1, e1 ((inV_strs k choiceKinds).trans hb), by omega, by omega, fun _ => rfl⟩
        | false => exact ⟨0, e2 ((inV_strs k choiceKinds).trans hb), by omega, by omega, fun h => nomatch h⟩
      have g5 := g4.trans a1
      show tC (V.int j) _ ?h5 _
      generalize ?h5 = H5 at g5 ⊢
      clear e1 e2 a1 n1 g4
      refine ⟨_, _, rfl, rfl, Nat.zero_le _, fun l n1 => ?_⟩
      have a1 := Gr.laid (o := .lst []) g5.dice n1
      have nl : l ≠ d := g5.dice.ne n1
      have nlH : H l = none := g5.free D n1
      refine ⟨_, _, rfl, ?_⟩
      refine ⟨_, rfl, _, _, rfl, rfl, _, rfl, _, _, rfl, rfl, ?_⟩
      refine ⟨_, rfl, mm, rfl, by omega, by omega, ?_⟩
      have i1 : 2 ≤ mm := by omega
      have i2 : mm ≤ 3 := by omega
      have i3 : 0 ≤ most - 1 - mm := by omega
      refine for_range (lo := 0) (n := mm.toNat) (fun i σ H2 => ∃ (room left : Int) (vs : List V) (ps : List Pl) (x9 x10 x11 : Option V), σ = [some (.ref d), some (.ref a), some (.int most), some (.int choices), some (.str k), some (.int mm), some (.int left), some (.ref l), some (.int room), x9, x10, x11] ∧
        Gr d H H2 ∧ H2 l = some (.lst vs) ∧ AtAll K H2 vs ps ∧ ps.length = i ∧ InW ws (nodesAll ps) ∧ 0 ≤ room ∧ room + (nodesAll ps).length = most - 1 - mm + i ∧ i ≤ (nodesAll ps).length ∧ 0 ≤ left ∧ left + countIn choiceKinds (nodesAll ps) = choices - j) ?_ ?_ ?_
      · exact ⟨_, _, [], [], _, _, _, rfl, g5.trans a1, upd_same, .nil, rfl, (by rw [nodesAll]; exact InW.nil), i3, (by rw [nodesAll]; rfl), Nat.zero_le _, by omega, by rw [nodesAll]; show _ + ((0 : Nat) : Int) = _; omega⟩
      · rintro i σ H6 hi ⟨room, left, vs, ps, x9, x10, x11, rfl, g6, e6, A6, hps, w6, r0, r6, hi6, l0, l6⟩
        have him : (i : Int) < mm := by omega
        have hroom : room ≤ most - 1 - mm := by omega
        have nl0 : l ≠ d := fun e => by
          obtain ⟨u1, u2, u3, e3⟩ := D
          rw [e, e3] at nlH
          cases nlH
        refine ⟨_, rfl, _, rfl, _, _, rfl, rfl, _, _, rfl, rfl, _, rfl, ?_⟩
        refine' join2 (C := fun (more : Int) H' => Gr d H6 H' ∧ 0 ≤ more ∧ more ≤ room) (ha := ?ha4) (hb := ?hb4) (tail := ?tl4)
        case ha4 =>
          intro _ tail
          refine ⟨_, rfl, _, rfl, _, _, rfl, rfl, (show (2 : Int) ≠ 0 ∧ (2 : Int).natAbs < 1073741824 by decide), _, rfl, lenOk 3, fun l1 n1 => ?_⟩
          have a1 := Gr.laid (o := .lst [.int 0, .int (room.fdiv 2), .int room]) g6.dice n1
          refine ⟨d, l1, _, rfl, a1.dice, SqL.of upd_same, g6.dice.ne n1, (show 0 < 3 by decide), (show 3 < 1000000 by decide), fun x H2 hx D2 k2 => ?_⟩
          have hf : room.fdiv 2 = room / 2 := Int.fdiv_eq_ediv_of_nonneg room (by decide)
          obtain ⟨more, rfl, h1, h2⟩ : ∃ more : Int, x = .int more ∧ 0 ≤ more ∧ more ≤ room := by
            simp only [List.mem_cons, List.not_mem_nil, or_false] at hx
            rcases hx with rfl | rfl | rfl
            · exact ⟨0, rfl, by omega, by omega⟩
            · exact ⟨_, rfl, by omega, by omega⟩
            · exact ⟨_, rfl, by omega, by omega⟩
          exact tail more H2 ⟨a1.trans (off_gr D2 k2), h1, h2⟩
        case hb4 =>
          intro _ tail
          exact ⟨_, rfl, tail room H6 ⟨.refl g6.dice, r0, by omega⟩⟩
        intro more H7 ⟨g7, hm0, hm1'⟩
        refine ⟨_, rfl, _, rfl, _, _, rfl, rfl, _, _, rfl, rfl, _, rfl, ?_⟩
        refine' join2 (C := fun (share : Int) H' => Gr d H6 H' ∧ 0 ≤ share ∧ share ≤ left) (ha := ?ha5) (hb := ?hb5) (tail := ?tl5)
        case ha5 =>
          intro _ tail
          refine ⟨_, rfl, _, rfl, _, _, rfl, rfl, d, _, rfl, g7.dice, by omega, by omega, fun r H8 q0 q1 D8 k8 => ?_⟩
          exact tail r H8 ⟨g7.trans (off_gr D8 k8), q0, by omega⟩
        case hb5 =>
          intro _ tail
          exact ⟨_, rfl, tail left H7 ⟨g7, l0, by omega⟩⟩
        intro share H8 ⟨g8, hs0, hs1⟩
        clear g7
        have g68 := g6.trans g8
        refine ⟨_, rfl, .inl ⟨rfl, _, SqL.of (g8.keep _ _ nl0 e6)⟩, _, rfl, _, rfl, _, rfl, _, _, rfl, rfl, _, rfl, ?_⟩
        refine ⟨d, a, ws, _, _, rfl, g68.dice, g68.seq hn hS, hn, hw0, hw1, by omega, by omega, by omega, hs0, by omega, fun v pl H9 g9 A9 w9 s9 c9 => ?_⟩
        have g69 := g8.trans g9
        have e9 := g69.keep _ _ nl0 e6
        have hvs := A6.length
        have tk9 : Tk H6 H9 := g69.tk g6.dice
        refine ⟨l, vs, v, rfl, rfl, e9, small (by omega), ?_⟩
        have tkp : Tk H9 (upd H9 l (.lst (vs ++ [v]))) := Tk.put e9
        have g610 : Gr d H (upd H9 l (.lst (vs ++ [v]))) := (g6.trans g69).put nlH nl0
        have A10 := A9.tk tkp
        have AA := ((A6.tk tk9).tk tkp).snoc A10
        have p1 := nodesOf_pos pl
        refine ⟨_, rfl, _, rfl, _, rfl, l, _, (-1), v, rfl, rfl, SqL.of upd_same, atI_last, v, pl, rfl, A10, by omega, by omega, fun xs p H11 s11 n11 e11 d11 => ?_⟩
        have el : H11 l = some (.lst (vs ++ [v])) := s11 _ _ upd_same
        refine .inl ⟨p, xs, rfl, .inl (SqL.of e11), _, _, rfl, rfl, _, _, rfl, rfl, ?_⟩
        refine ⟨_, rfl, _, rfl, _, rfl, l, _, (-1), v, rfl, rfl, SqL.of el, atI_last, lenOk 2, fun l3 n3 => ?_⟩
        have s12 := s11.trans (same_new (o := .lst [.str "mine", .str "yours"]) n3)
        refine ⟨v, pl, l3, choiceKinds, rfl, A10.tk (stk s12), SqL.of upd_same, by omega, by omega, fun H13 s13 => ?_⟩
        have s14 := s12.trans s13
        have s15 := same_gr g610.dice s14
        have hl := d11.length
        refine ⟨_, _, rfl, rfl, ?_⟩
        have ea : nodesAll (ps ++ [pl]) = nodesAll ps ++ nodesOf pl := by
          rw [nodesAll_append, nodesAll, nodesAll, List.append_nil]
        refine ⟨_, _, vs ++ [v], ps ++ [pl], _, _, _, rfl, g610.trans s15, s14 _ _ upd_same, AA.tk (stk s14), by rw [List.length_append, hps]; rfl, by rw [ea]; exact w6.app w9, ?_, ?_, ?_, ?_, ?_⟩
        · omega
        · rw [ea, List.length_append]
          omega
        · rw [ea, List.length_append]
          omega
        · omega
        · rw [ea, countIn_app]
          omega
      · rintro σ H6 ⟨room, left, vs, ps, x9, x10, x11, rfl, g6, e6, A6, hps, w6, r0, r6, hi6, l0, l6⟩
        refine ⟨_, rfl, _, rfl, l, vs, rfl, .inl ⟨SqL.of e6, fun t nt => ⟨lenOk 2, fun t2 nt2 => ?_⟩⟩⟩
        have a1 := Gr.laid (o := .tup vs) g6.dice nt
        have a2 := Gr.laid (o := .tup [.str k, .ref t]) a1.dice nt2
        have ne : t ≠ t2 := ne_of_none upd_same nt2
        have tk2 : Tk H6 _ := (a1.trans a2).tk g6.dice
        refine q _ (.node k ps) _ (g6.trans (a1.trans a2)) (.node (SqT.of upd_same) (SqT.of (by rw [upd_ne ne]; exact upd_same)) hk (by omega) (by omega) (A6.tk tk2)) ?_ ?_ ?_
        · rw [nodesOf]
          intro x z hz
          rcases List.mem_cons.mp hz with e | e
          · cases e
          · exact w6 x z e
        · rw [nodesOf, List.length_cons]
          omega
        · rw [nodesOf, show (k, V.int (ps.length : Int)) :: nodesAll ps = [(k, V.int (ps.length : Int))] ++ nodesAll ps from rfl, countIn_app, countIn_one]
          split
          · rename_i hc
            have := hjc hc
            omega
          · omega
end
end Eh

set_option Elab.async false
set_option linter.all false
set_option maxRecDepth 100000
namespace Eh
open PySem PySem.Spec PyProof.Rows L2
def inWB (ws : List Str) (ns : List (Str × V)) : Bool := ns.all fun n => match n.2 with
  | .str z => ws.contains z
  | _ => true
theorem inW_of {ws : List Str} {ns : List (Str × V)} (h : inWB ws ns = true) : InW ws ns := fun k z hz => List.contains_iff_mem.mp (List.all_eq_true.mp h _ hz)
def abc : List Str := ["a", "b", "c"]
/-- a known one -/
def Kn (K : PySem.W.Frag) (H : Hp) (x : V) : Prop := ∃ pl, At K H x pl ∧ inWB abc (nodesOf pl) = true ∧ (nodesOf pl).length ≤ 11 ∧ countIn choiceKinds (nodesOf pl) ≤ 4
def KnAll (K : PySem.W.Frag) (H : Hp) (xs : List V) : Prop := ∀ x ∈ xs, Kn K H x
theorem KnAll.tk {K : PySem.W.Frag} {H H' : Hp} {xs : List V} (h : KnAll K H xs) (t : Tk H H') : KnAll K H' xs := fun x hx => by
  obtain ⟨pl, A, r⟩ := h x hx
  exact ⟨pl, A.tk t, r⟩
theorem KnAll.add {K : PySem.W.Frag} {H : Hp} {xs : List V} {x : V} (h : KnAll K H xs) (k : Kn K H x) : KnAll K H (xs ++ [x]) := fun y hy => (List.mem_append.mp hy).elim (h y) fun z => by
  rw [List.mem_singleton.mp z]
  exact k
structure Six (K : PySem.W.Frag) (H : Hp) (va vb vc wa wb wc : V) : Prop where
  a : At K H va (.leaf "fact" (.str "a"))
  b : At K H vb (.leaf "fact" (.str "b"))
  c : At K H vc (.leaf "fact" (.str "c"))
  na : At K H wa (.leaf "not" (.str "a"))
  nb : At K H wb (.leaf "not" (.str "b"))
  nc : At K H wc (.leaf "not" (.str "c"))
theorem Six.tk {K : PySem.W.Frag} {H H' : Hp} {va vb vc wa wb wc : V} (h : Six K H va vb vc wa wb wc) (t : Tk H H') : Six K H' va vb vc wa wb wc := ⟨h.a.tk t, h.b.tk t, h.c.tk t, h.na.tk t, h.nb.tk t, h.nc.tk t⟩
theorem node_new {K : PySem.W.Frag} {d t u : Addr} {H : Hp} {vs : List V} {ps : List Pl} {k : Str} (D : D3 H d) (A : AtAll K H vs ps) (hk : nodeOk k = true) (h2 : 2 ≤ ps.length) (h4 : ps.length ≤ 4) (n : H t = none) (m : (upd H t (.tup vs)) u = none) :
    Gr d H (upd (upd H t (.tup vs)) u (.tup [.str k, .ref t])) ∧ At K (upd (upd H t (.tup vs)) u (.tup [.str k, .ref t])) (.ref u) (.node k ps) := by
  have a1 := Gr.laid (o := .tup vs) D n
  have a2 := Gr.laid (o := .tup [.str k, .ref t]) a1.dice m
  exact ⟨a1.trans a2, .node (SqT.of upd_same) (SqT.of (by rw [upd_ne (ne_of_none upd_same m)]; exact upd_same)) hk h2 h4 (A.tk ((a1.trans a2).tk D))⟩
theorem leaf_new {K : PySem.W.Frag} {d t : Addr} {H : Hp} {k : Str} {v : V} (D : D3 H d) (hk : leafOk k v = true) (n : H t = none) : Gr d H (upd H t (.tup [.str k, v])) ∧ At K (upd H t (.tup [.str k, v])) (.ref t) (.leaf k v) :=
  ⟨.laid D n, .leaf (SqT.of upd_same) hk⟩
section
variable {P : Program} {w : World} {K : PySem.W.Frag} {mg : Str → Option Value} {base : Heap}
def spKnown (K : PySem.W.Frag) : Sp := fun vs H Q _ => ∃ d, vs = [.ref d] ∧ D3 H d ∧ ∀ v pl H', Gr d H H' → At K H' v pl → InW abc (nodesOf pl) → (nodesOf pl).length ≤ 11 → countIn choiceKinds (nodesOf pl) ≤ 4 → Q v H'
theorem ok_known {f fP : Addr} {fd fdP : FuncData} (F : Fun K "_law_known" "_law_known" s__law_known f fd) (T : Txt mg) (C__law_pick : Cal P w K mg base 2 "_law_pick" fP fdP ["dice", "items"] (spPick K)) : FnOk P w K mg base CX0 3 f fd ["dice"] (spKnown K) := by
  refine F.ok sc__law_known (fun vs H Q E h => ?_) (fun cdv A outer s H vs Q E hr h => ?_)
  · obtain ⟨d, rfl, _⟩ := h
    rfl
  · obtain ⟨d, rfl, D, q⟩ := h
    refine ⟨_, (pss_cons (ps_asg (pe_tup (pa_cons (pe_tup (pa_cons pe_str (pa_cons pe_str pa_nil))) (pa_cons (pe_tup (pa_cons pe_str (pa_cons pe_str pa_nil))) (pa_cons (pe_tup (pa_cons pe_str (pa_cons pe_str pa_nil))) pa_nil)))) (pg_tup (by rfl) (pgs_cons (pg_name (i := 1) sc__law_known.nd rfl (.inl rfl)) (pgs_cons (pg_name (i := 2) sc__law_known.nd rfl (.inl rfl)) (pgs_cons (pg_name (i := 3) sc__law_known.nd rfl (.inl rfl)) pgs_nil)))))
  (pss_cons (ps_asg (pe_tup (pa_cons (pe_tup (pa_cons pe_str (pa_cons pe_str pa_nil))) (pa_cons (pe_tup (pa_cons pe_str (pa_cons pe_str pa_nil))) (pa_cons (pe_tup (pa_cons pe_str (pa_cons pe_str pa_nil))) pa_nil)))) (pg_tup (by rfl) (pgs_cons (pg_name (i := 4) sc__law_known.nd rfl (.inl rfl)) (pgs_cons (pg_name (i := 5) sc__law_known.nd rfl (.inl rfl)) (pgs_cons (pg_name (i := 6) sc__law_known.nd rfl (.inl rfl)) pgs_nil)))))
  (pss_cons (ps_set (i := 7) sc__law_known.nd rfl (.inl rfl) (pe_lst (pa_cons (pe_tup (pa_cons pe_str (pa_cons (pe_tup (pa_cons (pv 1) (pa_cons (pv 4) pa_nil))) pa_nil))) (pa_cons (pe_tup (pa_cons pe_str (pa_cons (pe_tup (pa_cons (pv 1) (pa_cons (pv 4) pa_nil))) pa_nil))) (pa_cons (pe_tup (pa_cons pe_str (pa_cons (pe_tup (pa_cons (pv 1) (pa_cons (pv 4) pa_nil))) pa_nil))) (pa_cons (pe_tup (pa_cons pe_str (pa_cons (pe_tup (pa_cons (pv 4) (pa_cons (pe_tup (pa_cons pe_str (pa_cons (pe_tup (pa_cons (pv 1) (pa_cons (pv 1) pa_nil))) pa_nil))) pa_nil))) pa_nil))) pa_nil))))))
  (pss_cons (ps_expr (bmK (K := K) rfl (pe_bm PySem.F.plainAttrs_list PySem.F.slot_list_append PySem.F.type_list_append mt_append (pv 7) (pa_cons (pe_tup (pa_cons pe_str (pa_cons (pe_tup (pa_cons (pe_tup (pa_cons pe_str (pa_cons (pe_tup (pa_cons (pv 1) (pa_cons (pv 2) pa_nil))) pa_nil))) (pa_cons (pe_tup (pa_cons pe_str (pa_cons (pe_tup (pa_cons (pv 4) (pa_cons (pv 5) pa_nil))) pa_nil))) pa_nil))) pa_nil))) pa_nil))))
  (pss_cons (ps_expr (bmK (K := K) rfl (pe_bm PySem.F.plainAttrs_list PySem.F.slot_list_append PySem.F.type_list_append mt_append (pv 7) (pa_cons (pe_tup (pa_cons pe_str (pa_cons (pe_tup (pa_cons (pe_tup (pa_cons pe_str (pa_cons (pe_tup (pa_cons (pv 5) (pa_cons (pv 6) pa_nil))) pa_nil))) (pa_cons (pe_tup (pa_cons pe_str (pa_cons (pe_tup (pa_cons (pe_tup (pa_cons pe_str (pa_cons (pe_tup (pa_cons (pv 2) (pa_cons (pv 3) pa_nil))) pa_nil))) (pa_cons (pe_tup (pa_cons pe_str (pa_cons (pe_tup (pa_cons (pv 2) (pa_cons (pv 3) pa_nil))) pa_nil))) pa_nil))) pa_nil))) pa_nil))) pa_nil))) pa_nil))))
  (pss_cons (ps_expr (bmK (K := K) rfl (pe_bm PySem.F.plainAttrs_list PySem.F.slot_list_append PySem.F.type_list_append mt_append (pv 7) (pa_cons (pe_tup (pa_cons pe_str (pa_cons (pe_tup (pa_cons (pe_tup (pa_cons pe_str (pa_cons (pe_tup (pa_cons (pv 1) (pa_cons (pv 2) pa_nil))) pa_nil))) (pa_cons (pe_tup (pa_cons pe_str (pa_cons (pe_tup (pa_cons (pv 4) (pa_cons (pv 1) pa_nil))) pa_nil))) pa_nil))) pa_nil))) pa_nil))))
  (pss_cons (ps_expr (bmK (K := K) rfl (pe_bm PySem.F.plainAttrs_list PySem.F.slot_list_append PySem.F.type_list_append mt_append (pv 7) (pa_cons (pe_tup (pa_cons pe_str (pa_cons (pe_tup (pa_cons (pe_tup (pa_cons pe_str (pa_cons (pe_tup (pa_cons (pv 1) (pa_cons (pv 2) pa_nil))) pa_nil))) (pa_cons (pe_tup (pa_cons pe_str (pa_cons (pe_tup (pa_cons (pv 4) (pa_cons (pv 5) pa_nil))) pa_nil))) pa_nil))) pa_nil))) pa_nil))))
  (pss_one (ps_ret (pe_call C__law_pick.G hr (by rfl) C__law_pick.m C__law_pick.k C__law_pick.b .nil pass0 (pa_cons (pv 0) (pa_cons (pv 7) pa_nil)))))))))))), ?_⟩
    refine ⟨lenOk 2, fun t1 n1 => ⟨lenOk 2, fun t2 n2 => ⟨lenOk 2, fun t3 n3 => ⟨lenOk 3, fun s1 o1 => ?_⟩⟩⟩⟩
    refine ⟨s1, _, rfl, SqT.of upd_same, rfl, _, _, rfl, _, _, rfl, _, _, rfl, rfl, ?_⟩
    obtain ⟨g1, l1⟩ := leaf_new (K := K) (k := "fact") (v := .str "a") D rfl n1
    obtain ⟨g2, l2⟩ := leaf_new (K := K) (k := "fact") (v := .str "b") g1.dice rfl n2
    obtain ⟨g3, l3⟩ := leaf_new (K := K) (k := "fact") (v := .str "c") g2.dice rfl n3
    have j1 := Gr.laid (o := .tup [.ref t1, .ref t2, .ref t3]) g3.dice o1
    refine ⟨lenOk 2, fun t4 n4 => ⟨lenOk 2, fun t5 n5 => ⟨lenOk 2, fun t6 n6 => ⟨lenOk 3, fun s2 o2 => ?_⟩⟩⟩⟩
    refine ⟨s2, _, rfl, SqT.of upd_same, rfl, _, _, rfl, _, _, rfl, _, _, rfl, rfl, ?_⟩
    obtain ⟨g4, l4⟩ := leaf_new (K := K) (k := "not") (v := .str "a") j1.dice rfl n4
    obtain ⟨g5, l5⟩ := leaf_new (K := K) (k := "not") (v := .str "b") g4.dice rfl n5
    obtain ⟨g6, l6⟩ := leaf_new (K := K) (k := "not") (v := .str "c") g5.dice rfl n6
    have j2 := Gr.laid (o := .tup [.ref t4, .ref t5, .ref t6]) g6.dice o2
    have L : Six K _ _ _ _ _ _ _ := ⟨l1.tk ((g2.trans (g3.trans (j1.trans (g4.trans (g5.trans (g6.trans j2)))))).tk g1.dice), l2.tk ((g3.trans (j1.trans (g4.trans (g5.trans (g6.trans j2))))).tk g2.dice), l3.tk ((j1.trans (g4.trans (g5.trans (g6.trans j2)))).tk g3.dice), l4.tk ((g5.trans (g6.trans j2)).tk g4.dice), l5.tk ((g6.trans j2).tk g5.dice), l6.tk (j2.tk g6.dice)⟩
    have g := g1.trans (g2.trans (g3.trans (j1.trans (g4.trans (g5.trans (g6.trans j2))))))
    clear l1 l2 l3 l4 l5 l6 g1 g2 g3 g4 g5 g6 j1 j2
    generalize upd _ s2 _ = H0 at g L ⊢
    clear n1 n2 n3 n4 n5 n6 o1 o2
    have dn : KnAll K H0 [] := fun _ h => nomatch h
    refine ⟨_, rfl, ?_⟩
    refine ⟨_, rfl, ?_⟩
    refine ⟨lenOk 2, fun t1 n1 => ⟨lenOk 2, fun u1 m1 => ?_⟩⟩
    obtain ⟨h1, A1⟩ := node_new (k := "mine") g.dice (.cons L.a (.cons L.na .nil)) (by decide +kernel) (by decide) (by decide) n1 m1
    replace L := L.tk (h1.tk g.dice)
    replace dn := dn.tk (h1.tk g.dice)
    skip
    replace g := g.trans h1
    generalize upd (upd _ t1 _) u1 _ = H1 at g A1 L dn ⊢
    clear n1 m1 h1
    replace dn := dn.add ⟨_, A1, by decide +kernel, by decide +kernel, by decide +kernel⟩
    refine ⟨_, rfl, ?_⟩
    refine ⟨_, rfl, ?_⟩
    refine ⟨lenOk 2, fun t2 n2 => ⟨lenOk 2, fun u2 m2 => ?_⟩⟩
    obtain ⟨h2, A2⟩ := node_new (k := "yours") g.dice (.cons L.a (.cons L.na .nil)) (by decide +kernel) (by decide) (by decide) n2 m2
    replace L := L.tk (h2.tk g.dice)
    replace dn := dn.tk (h2.tk g.dice)
    skip
    replace g := g.trans h2
    generalize upd (upd _ t2 _) u2 _ = H2 at g A2 L dn ⊢
    clear n2 m2 h2
    replace dn := dn.add ⟨_, A2, by decide +kernel, by decide +kernel, by decide +kernel⟩
    refine ⟨_, rfl, ?_⟩
    refine ⟨_, rfl, ?_⟩
    refine ⟨lenOk 2, fun t3 n3 => ⟨lenOk 2, fun u3 m3 => ?_⟩⟩
    obtain ⟨h3, A3⟩ := node_new (k := "some") g.dice (.cons L.a (.cons L.na .nil)) (by decide +kernel) (by decide) (by decide) n3 m3
    replace L := L.tk (h3.tk g.dice)
    replace dn := dn.tk (h3.tk g.dice)
    skip
    replace g := g.trans h3
    generalize upd (upd _ t3 _) u3 _ = H3 at g A3 L dn ⊢
    clear n3 m3 h3
    replace dn := dn.add ⟨_, A3, by decide +kernel, by decide +kernel, by decide +kernel⟩
    refine ⟨_, rfl, ?_⟩
    refine ⟨_, rfl, ?_⟩
    refine ⟨_, rfl, ?_⟩
    refine ⟨lenOk 2, fun t4 n4 => ⟨lenOk 2, fun u4 m4 => ?_⟩⟩
    obtain ⟨h4, A4⟩ := node_new (k := "all") g.dice (.cons L.a (.cons L.a .nil)) (by decide +kernel) (by decide) (by decide) n4 m4
    replace L := L.tk (h4.tk g.dice)
    replace dn := dn.tk (h4.tk g.dice)
    skip
    replace g := g.trans h4
    generalize upd (upd _ t4 _) u4 _ = H4 at g A4 L dn ⊢
    clear n4 m4 h4
    refine ⟨lenOk 2, fun t5 n5 => ⟨lenOk 2, fun u5 m5 => ?_⟩⟩
    obtain ⟨h5, A5⟩ := node_new (k := "some") g.dice (.cons L.na (.cons A4 .nil)) (by decide +kernel) (by decide) (by decide) n5 m5
    replace L := L.tk (h5.tk g.dice)
    replace dn := dn.tk (h5.tk g.dice)
    skip
    replace g := g.trans h5
    generalize upd (upd _ t5 _) u5 _ = H5 at g A5 L dn ⊢
    clear n5 m5 h5
    replace dn := dn.add ⟨_, A5, by decide +kernel, by decide +kernel, by decide +kernel⟩
    refine ⟨lenOk 4, fun l nL => ?_⟩
    have nl : l ≠ d := g.dice.ne nL
    have nlH : H l = none := g.free D nL
    obtain ⟨xs, hxs, ex⟩ : ∃ xs : List V, xs.length = 4 ∧ xs = [.ref u1, .ref u2, .ref u3, .ref u5] := ⟨_, rfl, rfl⟩
    replace dn : KnAll K H5 xs := by rw [ex]; exact dn
    have eL : upd H5 l (.lst xs) l = some (.lst xs) := upd_same
    have hh := Gr.laid (o := .lst xs) g.dice nL
    replace L := L.tk (hh.tk g.dice)
    replace dn := dn.tk (hh.tk g.dice)
    replace g := g.trans hh
    rw [← ex]
    clear ex hh nL
    generalize upd H5 l _ = H6x at g eL L dn ⊢
    refine ⟨_, rfl, .inl ⟨rfl, _, SqL.of eL⟩, ?_⟩
    refine ⟨_, rfl, ?_⟩
    refine ⟨_, rfl, ?_⟩
    refine ⟨lenOk 2, fun t6 n6 => ⟨lenOk 2, fun u6 m6 => ?_⟩⟩
    obtain ⟨h6, A6⟩ := node_new (k := "mine") g.dice (.cons L.a (.cons L.b .nil)) (by decide +kernel) (by decide) (by decide) n6 m6
    replace L := L.tk (h6.tk g.dice)
    replace dn := dn.tk (h6.tk g.dice)
    replace eL := h6.keep _ _ nl eL
    replace g := g.trans h6
    generalize upd (upd _ t6 _) u6 _ = H6 at g A6 eL L dn ⊢
    clear n6 m6 h6
    refine ⟨_, rfl, ?_⟩
    refine ⟨_, rfl, ?_⟩
    refine ⟨lenOk 2, fun t7 n7 => ⟨lenOk 2, fun u7 m7 => ?_⟩⟩
    obtain ⟨h7, A7⟩ := node_new (k := "yours") g.dice (.cons L.na (.cons L.nb .nil)) (by decide +kernel) (by decide) (by decide) n7 m7
    replace L := L.tk (h7.tk g.dice)
    replace A6 := A6.tk (h7.tk g.dice)
    replace dn := dn.tk (h7.tk g.dice)
    replace eL := h7.keep _ _ nl eL
    replace g := g.trans h7
    generalize upd (upd _ t7 _) u7 _ = H7 at g A7 eL L A6 dn ⊢
    clear n7 m7 h7
    refine ⟨lenOk 2, fun t8 n8 => ⟨lenOk 2, fun u8 m8 => ?_⟩⟩
    obtain ⟨h8, A8⟩ := node_new (k := "some") g.dice (.cons A6 (.cons A7 .nil)) (by decide +kernel) (by decide) (by decide) n8 m8
    replace L := L.tk (h8.tk g.dice)
    replace dn := dn.tk (h8.tk g.dice)
    replace eL := h8.keep _ _ nl eL
    replace g := g.trans h8
    generalize upd (upd _ t8 _) u8 _ = H8 at g A8 eL L dn ⊢
    clear n8 m8 h8
    refine ⟨l, xs, .ref u8, rfl, rfl, eL, small (by omega), ?_⟩
    have tp : Tk H8 (upd H8 l (.lst (xs ++ [.ref u8]))) := Tk.put eL
    replace L := L.tk tp
    replace dn := (dn.tk tp).add ⟨_, A8.tk tp, by decide +kernel, by decide +kernel, by decide +kernel⟩
    replace g := g.put (o := .lst (xs ++ [.ref u8])) nlH nl
    replace eL : upd H8 l (.lst (xs ++ [.ref u8])) l = some (.lst (xs ++ [.ref u8])) := upd_same
    replace hxs : (xs ++ [V.ref u8]).length = 5 := by rw [List.length_append, hxs]; rfl
    clear tp A8
    generalize xs ++ [V.ref u8] = xs1 at g eL hxs dn L ⊢
    generalize upd H8 l _ = Hy0 at g eL L dn ⊢
    refine ⟨_, rfl, .inl ⟨rfl, _, SqL.of eL⟩, ?_⟩
    refine ⟨_, rfl, ?_⟩
    refine ⟨_, rfl, ?_⟩
    refine ⟨lenOk 2, fun t9 n9 => ⟨lenOk 2, fun u9 m9 => ?_⟩⟩
    obtain ⟨h9, A9⟩ := node_new (k := "mine") g.dice (.cons L.nb (.cons L.nc .nil)) (by decide +kernel) (by decide) (by decide) n9 m9
    replace L := L.tk (h9.tk g.dice)
    replace dn := dn.tk (h9.tk g.dice)
    replace eL := h9.keep _ _ nl eL
    replace g := g.trans h9
    generalize upd (upd _ t9 _) u9 _ = H9 at g A9 eL L dn ⊢
    clear n9 m9 h9
    refine ⟨_, rfl, ?_⟩
    refine ⟨_, rfl, ?_⟩
    refine ⟨lenOk 2, fun t10 n10 => ⟨lenOk 2, fun u10 m10 => ?_⟩⟩
    obtain ⟨h10, A10⟩ := node_new (k := "yours") g.dice (.cons L.b (.cons L.c .nil)) (by decide +kernel) (by decide) (by decide) n10 m10
    replace L := L.tk (h10.tk g.dice)
    replace A9 := A9.tk (h10.tk g.dice)
    replace dn := dn.tk (h10.tk g.dice)
    replace eL := h10.keep _ _ nl eL
    replace g := g.trans h10
    generalize upd (upd _ t10 _) u10 _ = H10 at g A10 eL L A9 dn ⊢
    clear n10 m10 h10
    refine ⟨_, rfl, ?_⟩
    refine ⟨_, rfl, ?_⟩
    refine ⟨lenOk 2, fun t11 n11 => ⟨lenOk 2, fun u11 m11 => ?_⟩⟩
    obtain ⟨h11, A11⟩ := node_new (k := "yours") g.dice (.cons L.b (.cons L.c .nil)) (by decide +kernel) (by decide) (by decide) n11 m11
    replace L := L.tk (h11.tk g.dice)
    replace A9 := A9.tk (h11.tk g.dice)
    replace A10 := A10.tk (h11.tk g.dice)
    replace dn := dn.tk (h11.tk g.dice)
    replace eL := h11.keep _ _ nl eL
    replace g := g.trans h11
    generalize upd (upd _ t11 _) u11 _ = H11 at g A11 eL L A9 A10 dn ⊢
    clear n11 m11 h11
    refine ⟨lenOk 2, fun t12 n12 => ⟨lenOk 2, fun u12 m12 => ?_⟩⟩
    obtain ⟨h12, A12⟩ := node_new (k := "all") g.dice (.cons A10 (.cons A11 .nil)) (by decide +kernel) (by decide) (by decide) n12 m12
    replace L := L.tk (h12.tk g.dice)
    replace A9 := A9.tk (h12.tk g.dice)
    replace dn := dn.tk (h12.tk g.dice)
    replace eL := h12.keep _ _ nl eL
    replace g := g.trans h12
    generalize upd (upd _ t12 _) u12 _ = H12 at g A12 eL L A9 dn ⊢
    clear n12 m12 h12
    refine ⟨lenOk 2, fun t13 n13 => ⟨lenOk 2, fun u13 m13 => ?_⟩⟩
    obtain ⟨h13, A13⟩ := node_new (k := "some") g.dice (.cons A9 (.cons A12 .nil)) (by decide +kernel) (by decide) (by decide) n13 m13
    replace L := L.tk (h13.tk g.dice)
    replace dn := dn.tk (h13.tk g.dice)
    replace eL := h13.keep _ _ nl eL
    replace g := g.trans h13
    generalize upd (upd _ t13 _) u13 _ = H13 at g A13 eL L dn ⊢
    clear n13 m13 h13
    refine ⟨l, xs1, .ref u13, rfl, rfl, eL, small (by omega), ?_⟩
    have tp : Tk H13 (upd H13 l (.lst (xs1 ++ [.ref u13]))) := Tk.put eL
    replace L := L.tk tp
    replace dn := (dn.tk tp).add ⟨_, A13.tk tp, by decide +kernel, by decide +kernel, by decide +kernel⟩
    replace g := g.put (o := .lst (xs1 ++ [.ref u13])) nlH nl
    replace eL : upd H13 l (.lst (xs1 ++ [.ref u13])) l = some (.lst (xs1 ++ [.ref u13])) := upd_same
    replace hxs : (xs1 ++ [V.ref u13]).length = 6 := by rw [List.length_append, hxs]; rfl
    clear tp A13
    generalize xs1 ++ [V.ref u13] = xs2 at g eL hxs dn L ⊢
    generalize upd H13 l _ = Hy1 at g eL L dn ⊢
    refine ⟨_, rfl, .inl ⟨rfl, _, SqL.of eL⟩, ?_⟩
    refine ⟨_, rfl, ?_⟩
    refine ⟨_, rfl, ?_⟩
    refine ⟨lenOk 2, fun t14 n14 => ⟨lenOk 2, fun u14 m14 => ?_⟩⟩
    obtain ⟨h14, A14⟩ := node_new (k := "mine") g.dice (.cons L.a (.cons L.b .nil)) (by decide +kernel) (by decide) (by decide) n14 m14
    replace L := L.tk (h14.tk g.dice)
    replace dn := dn.tk (h14.tk g.dice)
    replace eL := h14.keep _ _ nl eL
    replace g := g.trans h14
    generalize upd (upd _ t14 _) u14 _ = H14 at g A14 eL L dn ⊢
    clear n14 m14 h14
    refine ⟨_, rfl, ?_⟩
    refine ⟨_, rfl, ?_⟩
    refine ⟨lenOk 2, fun t15 n15 => ⟨lenOk 2, fun u15 m15 => ?_⟩⟩
    obtain ⟨h15, A15⟩ := node_new (k := "some") g.dice (.cons L.na (.cons L.a .nil)) (by decide +kernel) (by decide) (by decide) n15 m15
    replace L := L.tk (h15.tk g.dice)
    replace A14 := A14.tk (h15.tk g.dice)
    replace dn := dn.tk (h15.tk g.dice)
    replace eL := h15.keep _ _ nl eL
    replace g := g.trans h15
    generalize upd (upd _ t15 _) u15 _ = H15 at g A15 eL L A14 dn ⊢
    clear n15 m15 h15
    refine ⟨lenOk 2, fun t16 n16 => ⟨lenOk 2, fun u16 m16 => ?_⟩⟩
    obtain ⟨h16, A16⟩ := node_new (k := "yours") g.dice (.cons A14 (.cons A15 .nil)) (by decide +kernel) (by decide) (by decide) n16 m16
    replace L := L.tk (h16.tk g.dice)
    replace dn := dn.tk (h16.tk g.dice)
    replace eL := h16.keep _ _ nl eL
    replace g := g.trans h16
    generalize upd (upd _ t16 _) u16 _ = H16 at g A16 eL L dn ⊢
    clear n16 m16 h16
    refine ⟨l, xs2, .ref u16, rfl, rfl, eL, small (by omega), ?_⟩
    have tp : Tk H16 (upd H16 l (.lst (xs2 ++ [.ref u16]))) := Tk.put eL
    replace L := L.tk tp
    replace dn := (dn.tk tp).add ⟨_, A16.tk tp, by decide +kernel, by decide +kernel, by decide +kernel⟩
    replace g := g.put (o := .lst (xs2 ++ [.ref u16])) nlH nl
    replace eL : upd H16 l (.lst (xs2 ++ [.ref u16])) l = some (.lst (xs2 ++ [.ref u16])) := upd_same
    replace hxs : (xs2 ++ [V.ref u16]).length = 7 := by rw [List.length_append, hxs]; rfl
    clear tp A16
    generalize xs2 ++ [V.ref u16] = xs3 at g eL hxs dn L ⊢
    generalize upd H16 l _ = Hy2 at g eL L dn ⊢
    refine ⟨_, rfl, .inl ⟨rfl, _, SqL.of eL⟩, ?_⟩
    refine ⟨_, rfl, ?_⟩
    refine ⟨_, rfl, ?_⟩
    refine ⟨lenOk 2, fun t17 n17 => ⟨lenOk 2, fun u17 m17 => ?_⟩⟩
    obtain ⟨h17, A17⟩ := node_new (k := "mine") g.dice (.cons L.a (.cons L.b .nil)) (by decide +kernel) (by decide) (by decide) n17 m17
    replace L := L.tk (h17.tk g.dice)
    replace dn := dn.tk (h17.tk g.dice)
    replace eL := h17.keep _ _ nl eL
    replace g := g.trans h17
    generalize upd (upd _ t17 _) u17 _ = H17 at g A17 eL L dn ⊢
    clear n17 m17 h17
    refine ⟨_, rfl, ?_⟩
    refine ⟨_, rfl, ?_⟩
    refine ⟨lenOk 2, fun t18 n18 => ⟨lenOk 2, fun u18 m18 => ?_⟩⟩
    obtain ⟨h18, A18⟩ := node_new (k := "yours") g.dice (.cons L.na (.cons L.nb .nil)) (by decide +kernel) (by decide) (by decide) n18 m18
    replace L := L.tk (h18.tk g.dice)
    replace A17 := A17.tk (h18.tk g.dice)
    replace dn := dn.tk (h18.tk g.dice)
    replace eL := h18.keep _ _ nl eL
    replace g := g.trans h18
    generalize upd (upd _ t18 _) u18 _ = H18 at g A18 eL L A17 dn ⊢
    clear n18 m18 h18
    refine ⟨lenOk 2, fun t19 n19 => ⟨lenOk 2, fun u19 m19 => ?_⟩⟩
    obtain ⟨h19, A19⟩ := node_new (k := "all") g.dice (.cons A17 (.cons A18 .nil)) (by decide +kernel) (by decide) (by decide) n19 m19
    replace L := L.tk (h19.tk g.dice)
    replace dn := dn.tk (h19.tk g.dice)
    replace eL := h19.keep _ _ nl eL
    replace g := g.trans h19
    generalize upd (upd _ t19 _) u19 _ = H19 at g A19 eL L dn ⊢
    clear n19 m19 h19
    refine ⟨l, xs3, .ref u19, rfl, rfl, eL, small (by omega), ?_⟩
    have tp : Tk H19 (upd H19 l (.lst (xs3 ++ [.ref u19]))) := Tk.put eL
    replace L := L.tk tp
    replace dn := (dn.tk tp).add ⟨_, A19.tk tp, by decide +kernel, by decide +kernel, by decide +kernel⟩
    replace g := g.put (o := .lst (xs3 ++ [.ref u19])) nlH nl
    replace eL : upd H19 l (.lst (xs3 ++ [.ref u19])) l = some (.lst (xs3 ++ [.ref u19])) := upd_same
    replace hxs : (xs3 ++ [V.ref u19]).length = 8 := by rw [List.length_append, hxs]; rfl
    clear tp A19
    generalize xs3 ++ [V.ref u19] = xs4 at g eL hxs dn L ⊢
    generalize upd H19 l _ = Hy3 at g eL L dn ⊢

    refine ⟨_, rfl, _, rfl, d, l, xs4, rfl, g.dice, SqL.of eL, nl, by omega, by omega, fun x H' hx D' k' => ?_⟩
    obtain ⟨pl, A, w1, w2, w3⟩ := dn x hx
    have h' := off_gr D' k'
    exact q x pl H' (g.trans h') (A.tk (h'.tk g.dice)) (inW_of w1) w2 w3
end
end Eh

set_option Elab.async false
set_option linter.all false
set_option maxRecDepth 100000
namespace Eh
open PySem PySem.Spec PyProof.Rows L2
def uni6 : List Str := ["a", "b", "c", "fact", "zz", "d"]
def six6 : List Str := ["a", "b", "c", "fact", "no", "zz"]
theorem six_uni {z : Str} (h : z ∈ six6) (n : z ≠ "no") : z ∈ uni6 := by
  unfold six6 at h
  simp only [List.mem_cons, List.not_mem_nil, or_false] at h
  rcases h with rfl | rfl | rfl | rfl | rfl | rfl
  · decide +kernel
  · decide +kernel
  · decide +kernel
  · decide +kernel
  · exact absurd rfl n
  · decide +kernel
theorem abc_uni {z : Str} (h : z ∈ abc) : z ∈ uni6 := by
  unfold abc at h
  simp only [List.mem_cons, List.not_mem_nil, or_false] at h
  rcases h with rfl | rfl | rfl <;> decide +kernel
theorem cut3 (xs : List V) : cutV xs none (some 3) = xs.take 3 := by
  unfold cutV HT.sIx
  simp
section
variable {P : Program} {w : World} {K : PySem.W.Frag} {mg : Str → Option Value} {base : Heap}
def spPromise (K : PySem.W.Frag) : Sp := fun vs H Q _ => ∃ d, vs = [.ref d] ∧ D3 H d ∧ ∀ v pl ws H', Gr d H H' → At K H' v pl → ws.length ≤ 3 → (∀ z ∈ ws, z ∈ uni6) → InW ws (nodesOf pl) → (nodesOf pl).length ≤ 11 → countIn choiceKinds (nodesOf pl) ≤ 4 → Q v H'
theorem ok_promise {k : Nat} (hk : 3 ≤ k) {f fR fP fS fK fD : Addr} {fd fdR fdP fdS fdK fdD : FuncData} (F : Fun K "_law_promise" "_law_promise" s__law_promise f fd) (T : Txt mg) (C__law_roll : Cal P w K mg base 1 "_law_roll" fR fdR ["dice", "many"] spRoll)
    (C__law_pick : Cal P w K mg base 2 "_law_pick" fP fdP ["dice", "items"] (spPick K)) (C__law_some : Cal P w K mg base 2 "_law_some" fS fdS ["dice", "items", "size"] (spSome K))
    (C__law_known : Cal P w K mg base 3 "_law_known" fK fdK ["dice"] (spKnown K)) (C__law_drawn : Cal P w K mg base k "_law_drawn" fD fdD ["dice", "words", "most", "choices"] (spDrawn K 11)) : FnOk P w K mg base CX0 (k + 1) f fd ["dice"] (spPromise K) := by
  refine F.ok sc__law_promise (fun vs H Q E h => ?_) (fun cdv A outer s H vs Q E hr h => ?_)
  · obtain ⟨d, rfl, _⟩ := h
    rfl
  · obtain ⟨d, rfl, D, q⟩ := h
    have hr1 := hr.mono (j := 1) (by omega)
    have hr2 := hr.mono (j := 2) (by omega)
    have hr3 := hr.mono (j := 3) (by omega)
    refine ⟨_, (pss_cons (ps_if (pt_cmpR op_eq (pe_call C__law_roll.G hr1 (by rfl) C__law_roll.m C__law_roll.k C__law_roll.b .nil pass0 (pa_cons (pv 0) (pa_cons pe_int pa_nil))) pe_int (nomark _))
  (pss_one (ps_ret (pe_call C__law_known.G hr3 (by rfl) C__law_known.m C__law_known.k C__law_known.b .nil pass0 (pa_cons (pv 0) pa_nil))))
  pss_nil)
  (pss_cons (ps_set (i := 1) sc__law_promise.nd rfl (.inl rfl) (pe_call C__law_some.G hr2 (by rfl) C__law_some.m C__law_some.k C__law_some.b .nil pass0 (pa_cons (pv 0) (pa_cons (pe_lst (pa_cons pe_str (pa_cons pe_str (pa_cons pe_str (pa_cons pe_str (pa_cons pe_str (pa_cons pe_str pa_nil))))))) (pa_cons (pe_op op_add pe_int (pe_call C__law_roll.G hr1 (by rfl) C__law_roll.m C__law_roll.k C__law_roll.b .nil pass0 (pa_cons (pv 0) (pa_cons pe_int pa_nil)))) pa_nil)))))
  (pss_cons (ps_set (i := 1) sc__law_promise.nd rfl (.inl rfl) (pe_op op_cat (pe_lc (own := [("word", 2)]) (g := gName 2) (by rfl) sc__law_promise.nd (piL (K := K) rfl (pv 1)) (blkOk_by (by kernel_rfl)) (fun _ _ _ _ _ => (pg_name (i := 2) sc__law_promise.nd rfl (.inl rfl))) (fun _ _ _ _ _ => (pts_one (pt_cmpR op_ne (pv 2) pe_str (nomark _)))) (fun _ _ _ _ _ => (pv 2))) (pe_lst (pa_cons pe_str pa_nil))))
  (pss_one (ps_ret (pe_call C__law_drawn.G hr (by rfl) C__law_drawn.m C__law_drawn.k C__law_drawn.b .nil pass0 (pa_cons (pv 0) (pa_cons (pe_slice (slL (K := K) rfl) (pv 1) po_none (po_some pe_int)) (pa_cons (pe_call C__law_pick.G hr2 (by rfl) C__law_pick.m C__law_pick.k C__law_pick.b .nil pass0 (pa_cons (pv 0) (pa_cons (pe_lst (pa_cons pe_int (pa_cons pe_int (pa_cons pe_int (pa_cons pe_int (pa_cons pe_int pa_nil)))))) pa_nil))) (pa_cons (pe_call C__law_pick.G hr2 (by rfl) C__law_pick.m C__law_pick.k C__law_pick.b .nil pass0 (pa_cons (pv 0) (pa_cons (pe_lst (pa_cons pe_int (pa_cons pe_int (pa_cons pe_int (pa_cons pe_int (pa_cons pe_int pa_nil)))))) pa_nil))) pa_nil)))))))))), ?_⟩
    refine ⟨_, rfl, d, 6, rfl, D, by decide, by decide, fun r H1 r0 r1 D1 k1 => ?_⟩
    have g1 := off_gr (H := H) D1 k1
    refine ⟨rfl, _, rfl, ite2 (fun _ => ?_) (fun _ => ?_)⟩
    · exact ⟨_, rfl, d, rfl, D1, fun v pl H2 g2 A hw hl hc => q v pl abc H2 (g1.trans g2) A (by decide) (fun z hz => abc_uni hz) hw hl hc⟩
    refine ⟨_, rfl, lenOk 6, fun l1 n1 => ?_⟩
    have a1 := Gr.laid (o := .lst (six6.map V.str)) g1.dice n1
    refine ⟨_, rfl, d, 3, rfl, a1.dice, by decide, by decide, fun r2 H2 r20 r21 D2 k2 => ?_⟩
    have g2 := g1.trans (a1.trans (off_gr D2 k2))
    refine ⟨_, _, rfl, rfl, ?_⟩
    obtain ⟨n, en, hn⟩ : ∃ n : Nat, (1 : Int) + r2 = (n : Int) ∧ 1 ≤ n ∧ n ≤ 3 := ⟨(1 + r2).toNat, by omega, by omega, by omega⟩
    have nl1 : l1 ≠ d := g1.dice.ne n1
    refine ⟨d, l1, six6.map V.str, n, (by show [V.ref d, V.ref l1, V.int (1 + r2)] = _; rw [en]), D2, SqL.of (by rw [k2 l1 nl1]; exact upd_same), nl1, by decide, by omega, fun ys p H3 hys hyl g3 n3 e3 => ?_⟩
    have g4 := g2.trans g3
    have npd : p ≠ d := g2.dice.ne n3
    refine ⟨_, rfl, p, rfl, ⟨ys, SqL.of e3⟩, fun D0 nD => ?_⟩
    have a2 := Gr.laid (o := .lst []) g4.dice nD
    have nDd : D0 ≠ d := g4.dice.ne nD
    have nDH : H D0 = none := g4.free D nD
    have npD : p ≠ D0 := ne_of_none e3 nD
    have mem : ∀ y ∈ ys, ∃ z, y = V.str z ∧ z ∈ six6 := fun y hy => by
      obtain ⟨rest, hp⟩ := hys
      have := hp.mem_iff.mp (List.mem_append_left rest hy)
      obtain ⟨z, hz, rfl⟩ := List.mem_map.mp this
      exact ⟨z, rfl, hz⟩
    have hlen : ys.length ≤ 3 := by omega
    refine lcL (fun j acc H5 => Gr d H H5 ∧ H5 p = some (.lst ys) ∧ ∃ zs : List Str, acc = zs.map V.str ∧ ∀ z ∈ zs, z ∈ uni6) ⟨g4.trans a2, by rw [upd_ne npD]; exact e3, [], rfl, fun _ h => nomatch h⟩ (fun j acc H5 h => SqL.of h.2.1) ?_ ?_
    · rintro j x acc H5 hx hl2 e2 ⟨g5, e5, zs, rfl, hzs⟩
      obtain ⟨z, rfl, hz⟩ := mem x (List.mem_of_getElem? hx)
      have hj : j < 3 := by
        have := (List.getElem?_eq_some_iff.mp hx).1
        omega
      refine ⟨_, rfl, rfl, _, rfl, ?_⟩
      by_cases ez : V.str z = V.str "no"
      · rw [decide_eq_true ez]
        exact iteF ⟨_, by omega, e2, g5, e5, zs, rfl, hzs⟩
      · rw [decide_eq_false ez]
        refine iteT ⟨_, rfl, LcK.mk hl2 (by omega) e2 ⟨g5.put nDH nDd, by rw [upd_ne npD]; exact e5, zs ++ [z], by rw [List.map_append]; rfl, fun u hu => ?_⟩⟩
        rcases List.mem_append.mp hu with h | h
        · exact hzs u h
        · rw [List.mem_singleton.mp h]
          exact six_uni hz fun e => ez (by rw [e])
    · rintro acc H5 hl2 e2 ⟨g5, e5, zs, rfl, hzs⟩
      refine ⟨lenOk 1, fun l3 n5 => ?_⟩
      have a3 := Gr.laid (o := .lst [.str "d"]) g5.dice n5
      refine ⟨D0, l3, _, _, rfl, rfl, a3.keep _ _ nDd e2, upd_same, Nat.le_of_lt (small (by show _ + 1 < _; omega)), fun l4 n6 => ?_⟩
      rw [show zs.map V.str ++ [V.str "d"] = (zs ++ [("d" : Str)]).map V.str from by rw [List.map_append]; rfl]
      have a4 := Gr.laid (o := .lst ((zs ++ [("d" : Str)]).map V.str)) a3.dice n6
      have g6 := g5.trans (a3.trans a4)
      refine ⟨_, rfl, _, rfl, _, rfl, l4, _, rfl, SqL.of upd_same, fun l5 n7 => ?_⟩
      rw [cut3, ← List.map_take]
      obtain ⟨ws, ews⟩ : ∃ ws, ws = (zs ++ [("d" : Str)]).take 3 := ⟨_, rfl⟩
      rw [← ews]
      have hws : ∀ z ∈ ws, z ∈ uni6 := fun z hz => by
        rw [ews] at hz
        rcases List.mem_append.mp (List.mem_of_mem_take hz) with h | h
        · exact hzs z h
        · rw [List.mem_singleton.mp h]
          decide +kernel
      have hw3 : ws.length ≤ 3 := by rw [ews, List.length_take]; omega
      have hw0 : 0 < ws.length := by rw [ews, List.length_take, List.length_append]; show 0 < min 3 (_ + 1); omega
      have a5 := Gr.laid (o := .lst (ws.map V.str)) g6.dice n7
      have g7 := g6.trans a5
      have n5d : l5 ≠ d := g6.dice.ne n7
      refine ⟨_, rfl, lenOk 5, fun l6 n8 => ?_⟩
      have a6 := Gr.laid (o := .lst [.int 3, .int 5, .int 7, .int 9, .int 11]) g7.dice n8
      refine ⟨d, l6, _, rfl, a6.dice, SqL.of upd_same, g7.dice.ne n8, by decide, by decide, fun x H8 hx D8 k8 => ?_⟩
      have g8 := a6.trans (off_gr D8 k8)
      obtain ⟨most, rfl, m1, m2⟩ : ∃ most : Int, x = .int most ∧ 1 ≤ most ∧ most ≤ 11 := by
        simp only [List.mem_cons, List.not_mem_nil, or_false] at hx
        rcases hx with rfl | rfl | rfl | rfl | rfl <;> exact ⟨_, rfl, by decide, by decide⟩
      refine ⟨_, rfl, lenOk 5, fun l7 n9 => ?_⟩
      have a7 := Gr.laid (o := .lst [.int 1, .int 2, .int 2, .int 3, .int 4]) g8.dice n9
      refine ⟨d, l7, _, rfl, a7.dice, SqL.of upd_same, g8.dice.ne n9, by decide, by decide, fun x H9 hx D9 k9 => ?_⟩
      have g9 := g8.trans (a7.trans (off_gr D9 k9))
      obtain ⟨ch, rfl, c1, c2⟩ : ∃ ch : Int, x = .int ch ∧ 0 ≤ ch ∧ ch ≤ 4 := by
        simp only [List.mem_cons, List.not_mem_nil, or_false] at hx
        rcases hx with rfl | rfl | rfl | rfl | rfl <;> exact ⟨_, rfl, by decide, by decide⟩
      refine ⟨d, l5, ws, most, ch, rfl, D9, SqL.of (g9.keep _ _ n5d upd_same), n5d, hw0, by omega, m1, by omega, by decide, c1, by omega, fun v pl H10 g10 A hw hl hc => ?_⟩
      exact q v pl ws H10 (g7.trans (g9.trans g10)) A hw3 hws hw (by omega) (by omega)
end
end Eh

set_option Elab.async false
set_option linter.all false
set_option maxRecDepth 100000
namespace Eh
open PySem PySem.Spec PyProof.Rows L2
/-! facts -/
def low (c : Nat) : Bool := decide (97 ≤ c ∧ c ≤ 122)
def factS (z : Str) : Bool := decide (1 ≤ z.length ∧ z.length ≤ 8) && !(decide (z = "yes")) && !(decide (z = "no")) && z.cps.toList.all low
def factV : V → Bool
  | .str z => factS z
  | _ => false
/-- a value whose type is known and is not str, or a text -/
def Asc (z : Str) : Prop := z.length < 1000000 ∧ ∀ c ∈ z.cps.toList, c < 128
def Kind (K : PySem.W.Frag) (H : Hp) (v : V) : Prop := (∃ z : Str, v = .str z ∧ Asc z) ∨ ((∀ z, v ≠ .str z) ∧ ∃ t, TyX K H v t ∧ PySem.W.kitOne K t (.type "str") = some false)
section
variable {P : Program} {w : World} {K : PySem.W.Frag} {mg : Str → Option Value} {base : Heap}
def spFact (K : PySem.W.Frag) : Sp := fun vs H Q _ => ∃ v, vs = [v] ∧ Kind K H v ∧ ∀ H', Same H H' → Q (.bl (factV v)) H'
theorem kitStr {K : PySem.W.Frag} : PySem.W.kitOne K (.type "str") (.type "str") = some true := kit_ty (by decide +kernel)
theorem le_sign (c : Nat) : (!decide ((⟨#[c]⟩ : Str).cps.toList < ("a" : Str).cps.toList)) = decide (97 ≤ c) := by
  show (!decide ([c] < [97])) = decide (97 ≤ c)
  have e : ([c] < [97]) ↔ c < 97 := by
    constructor
    · intro h
      cases h with
      | rel h => exact h
      | cons h => cases h
    · intro h
      exact List.Lex.rel h
  rw [decide_eq_decide.mpr e]
  by_cases h : c < 97
  · rw [decide_eq_true h, decide_eq_false (by omega)]
    rfl
  · rw [decide_eq_false h, decide_eq_true (by omega)]
    rfl
theorem ge_sign (c : Nat) : (!decide (("z" : Str).cps.toList < (⟨#[c]⟩ : Str).cps.toList)) = decide (c ≤ 122) := by
  show (!decide ([122] < [c])) = decide (c ≤ 122)
  have e : ([122] < [c]) ↔ 122 < c := by
    constructor
    · intro h
      cases h with
      | rel h => exact h
      | cons h => cases h
    · intro h
      exact List.Lex.rel h
  rw [decide_eq_decide.mpr e]
  by_cases h : 122 < c
  · rw [decide_eq_true h, decide_eq_false (by omega)]
    rfl
  · rw [decide_eq_false h, decide_eq_true (by omega)]
    rfl
theorem sbeq (a b : Str) : (a == b) = decide (a = b) := by rw [Bool.eq_iff_iff, beq_iff_eq, decide_eq_true_iff]
theorem yesno (z : Str) : inV (.str z) [.str "yes", .str "no"] = (decide (("yes" : Str) = z) || decide (("no" : Str) = z)) := by
  show (("yes" : Str) == z || (("no" : Str) == z || false)) = _
  rw [Bool.or_false, sbeq, sbeq]
def rNi (K : PySem.W.Frag) : R2 := fun x y H Q => ∃ p xs, y = .ref p ∧ (SqL K H p xs ∨ SqT K H p xs) ∧ flatV x = true ∧ xs.all flatV = true ∧ ∀ b, inV x xs = b → Q (.bl (!b)) H
theorem niB {X : Cx} (h : X.K = K) : OpR X (compareOp .NotIn) (rNi K) := by
  subst h
  intro pins s σ H x y v u Q I rx ry h
  obtain ⟨p, xs, e1, e2, e3, e4, q⟩ := h
  exact op_notIn_seq pins s σ H x y v u Q I rx ry ⟨p, xs, e1, e2, e3, e4, q _ rfl⟩
theorem all_take {α : Type} {f : α → Bool} {l : List α} {j : Nat} {c : α} (h : l[j]? = some c) : (l.take (j + 1)).map f = (l.take j).map f ++ [f c] := by
  rw [List.take_add_one, h, List.map_append]
  rfl
theorem ok_is_fact {f : Addr} {fd : FuncData} (F : Fun K "is_fact" "is_fact" s_is_fact f fd) (T : Txt mg) (c8 : ∃ t, mg "MAX_LETTERS" = some (.int 8 t)) : FnOk P w K mg base CX0 1 f fd ["value"] (spFact K) := by
  obtain ⟨t8, e8⟩ := c8
  refine F.ok sc_is_fact (fun vs H Q E h => ?_) (fun cdv A outer s H vs Q E hr h => ?_)
  · obtain ⟨v, rfl, _⟩ := h
    rfl
  · obtain ⟨v, rfl, hk, q⟩ := h
    refine ⟨_, (pss_cons (ps_if (PW.pt (pw_or (pt_not (pt_val (pe_callB (isiQ (K := K) rfl) (by rfl) T.isinstance_ (by decide +kernel) (pa_cons (pv 0) (pa_cons (pe_bltn (v := .ty "str") (by rfl) T.str_ (by decide +kernel) rfl) pa_nil))))) (pw_or1 (pt_not (pt_chain op_le op_le pe_int (pe_callB (lenQ (K := K) rfl) (by rfl) T.len_ (by decide +kernel) (pa_cons (pv 0) pa_nil)) (pe_glob (v := .int 8) rfl e8 ⟨_, rfl⟩))))))
  (pss_one (ps_ret pe_bl))
  pss_nil)
  (pss_one (ps_ret (pe_and (pe_cmpR (niB (K := K) rfl) (pv 0) (pe_tup (pa_cons pe_str (pa_cons pe_str pa_nil))) (by rfl)) (pe_one (pe_callB (allQ (K := K) rfl (by rfl)) (by rfl) T.all_ (by decide +kernel) (pa_cons (pe_lc (own := [("letter", 1)]) (g := gName 1) (by rfl) sc_is_fact.nd (pi_str (pv 0)) (blkOk_by (by kernel_rfl)) (fun _ _ _ _ _ => (pg_name (i := 1) sc_is_fact.nd rfl (.inl rfl))) (fun _ _ _ _ _ => pts_nil) (fun _ _ _ _ _ => (pe_chain op_le_str op_le_str pe_str (pv 1) pe_str))) pa_nil))))))), ?_⟩
    rcases hk with ⟨z, rfl, hz, _⟩ | ⟨hn, t, ty, ek⟩
    · refine ⟨_, rfl, .str z, .ty "str", .type "str", .type "str", true, rfl, .ty _, .base (.str z), kitStr, _, rfl, iteF ?_⟩
      refine ⟨_, rfl, .inr ⟨z, rfl, Nat.le_of_lt (small hz), 1, _, rfl, rfl, _, rfl, ite2 (fun h1 => ?_) (fun h1 => ?_)⟩⟩
      · refine ⟨_, 8, rfl, rfl, _, rfl, ?_⟩
        have h1' : (1 : Int) ≤ z.length := of_decide_eq_true h1
        by_cases h8 : (z.length : Int) ≤ 8
        · rw [decide_eq_true h8]
          refine iteF ?_
          refine ⟨_, rfl, lenOk 2, fun t nt => ⟨t, _, rfl, .inr (SqT.of upd_same), rfl, rfl, fun b hb => ⟨_, rfl, ?_⟩⟩⟩
          have s1 : Same H (upd H t (.tup [.str "yes", .str "no"])) := same_new nt
          rw [yesno] at hb
          cases b with
          | true =>
            refine iteF ?_
            have e : factV (.str z) = false := by
              show factS z = false
              unfold factS
              rcases (Bool.or_eq_true _ _).mp hb with h | h
              · rw [← of_decide_eq_true h]; rfl
              · rw [← of_decide_eq_true h]; rfl
            have q' := q _ s1
            rw [e] at q'
            exact q'
          | false =>
            refine iteT ?_
            obtain ⟨hb1, hb2⟩ := (Bool.or_eq_false_iff).mp hb
            refine ⟨_, rfl, z, rfl, fun D nD => ?_⟩
            have s2 := s1.trans (same_new (o := .lst []) nD)
            have nD1 : H D = none := s1.free nD
            refine lcS (fun j acc H2 => Same H H2 ∧ acc = ((z.cps.toList.take j).map low).map V.bl) ⟨s2, rfl⟩ ?_ ?_
            · rintro j c acc H2 hc hl e ⟨s3, ea⟩
              refine yesT ?_
              refine ⟨_, rfl, "a", _, rfl, rfl, _, rfl, ?_⟩
              rw [le_sign]
              have hj : j < 1000000 := by
                have := (Array.getElem?_eq_some_iff.mp hc).1
                have e2 : z.cps.size = z.length := rfl
                omega
              have fin : ∀ H4 b, H4 = H2 → b = low c → LcK (fun j acc H2 => Same H H2 ∧ acc = ((z.cps.toList.take j).map low).map V.bl) D j (.bl b) H4 := by
                rintro _ _ rfl rfl
                refine LcK.mk hl hj e ⟨fun b o eb => ?_, ?_⟩
                · rw [upd_ne (ne_of_none eb nD1)]
                  exact s3 b o eb
                · rw [ea, all_take (by rw [Array.getElem?_toList]; exact hc), List.map_append]
                  rfl
              refine ite2 (fun h1 => ?_) (fun h1 => ?_)
              · refine ⟨_, "z", rfl, rfl, ?_⟩
                rw [ge_sign]
                refine fin _ _ rfl ?_
                have h1' := of_decide_eq_true h1
                unfold low
                exact decide_eq_decide.mpr ⟨fun h => ⟨h1', h⟩, fun h => h.2⟩
              · refine fin _ _ rfl ?_
                have h1' : ¬ (97 ≤ c) := fun h => h1 (decide_eq_true h)
                unfold low
                exact (decide_eq_false (fun h => h1' h.1)).symm
            · rintro acc H2 hl e ⟨s3, ea⟩
              refine ⟨D, _, rfl, SqL.of (e.trans (by rw [ea])), ?_⟩
              have e2 : factV (.str z) = ((z.cps.toList.take z.cps.size).map low).all id := by
                show factS z = _
                unfold factS
                rw [decide_eq_true (show 1 ≤ z.length ∧ z.length ≤ 8 from ⟨by omega, by omega⟩), decide_eq_false (fun h => of_decide_eq_false hb1 h.symm), decide_eq_false (fun h => of_decide_eq_false hb2 h.symm)]
                rw [List.take_of_length_le (by rw [Array.length_toList]; exact Nat.le_refl _), List.all_map]
                rfl
              have q' := q _ s3
              rw [e2] at q'
              exact q'
        · rw [decide_eq_false h8]
          refine iteT ?_
          have e : factV (.str z) = false := by
            show factS z = false
            unfold factS
            rw [decide_eq_false (fun h => h8 (by omega))]
            rfl
          have q' := q _ (Same.refl H)
          rw [e] at q'
          exact q'
      · refine ⟨_, rfl, iteT ?_⟩
        have e : factV (.str z) = false := by
          show factS z = false
          unfold factS
          rw [decide_eq_false (fun h => h1 (decide_eq_true (by omega)))]
          rfl
        have q' := q _ (Same.refl H)
        rw [e] at q'
        exact q'
    · refine ⟨_, rfl, v, .ty "str", t, .type "str", false, rfl, .ty _, ty, ek, _, rfl, iteT ?_⟩
      have e : factV v = false := by
        cases v with
        | str z => exact absurd rfl (hn z)
        | _ => rfl
      have q' := q _ (Same.refl H)
      rw [e] at q'
      exact q'
end
/-! integers -/
def intV : V → Bool
  | .int i => decide ((if i < 0 then -i else i) < 10 ^ (60 : Int).toNat)
  | _ => false
def KindI (K : PySem.W.Frag) (H : Hp) (v : V) : Prop := (∃ i, v = .int i) ∨ (∃ b, v = .bl b) ∨ ((∀ i, v ≠ .int i) ∧ ∃ t, TyX K H v t ∧ PySem.W.kitOne K t (.type "int") = some false)
section
variable {P : Program} {w : World} {K : PySem.W.Frag} {mg : Str → Option Value} {base : Heap}
def spInteger (K : PySem.W.Frag) : Sp := fun vs H Q _ => ∃ v, vs = [v] ∧ KindI K H v ∧ Q (.bl (intV v)) H
theorem kitII {K : PySem.W.Frag} : PySem.W.kitOne K (.type "int") (.type "int") = some true := kit_ty (by decide +kernel)
theorem kitIB {K : PySem.W.Frag} : PySem.W.kitOne K (.type "int") (.type "bool") = some false := kit_ty (by decide +kernel)
theorem kitBI {K : PySem.W.Frag} : PySem.W.kitOne K (.type "bool") (.type "int") = some true := kit_ty (by decide +kernel)
theorem kitBB {K : PySem.W.Frag} : PySem.W.kitOne K (.type "bool") (.type "bool") = some true := kit_ty (by decide +kernel)
theorem ok_is_integer {f : Addr} {fd : FuncData} (F : Fun K "is_integer" "is_integer" s_is_integer f fd) (T : Txt mg) : FnOk P w K mg base CX0 1 f fd ["value"] (spInteger K) := by
  refine F.ok sc_is_integer (fun vs H Q E h => ?_) (fun cdv A outer s H vs Q E hr h => ?_)
  · obtain ⟨v, rfl, _⟩ := h
    rfl
  · obtain ⟨v, rfl, hk, q⟩ := h
    refine ⟨_, (pss_cons (ps_if (PW.pt (pw_or (pt_not (pt_val (pe_callB (isiQ (K := K) rfl) (by rfl) T.isinstance_ (by decide +kernel) (pa_cons (pv 0) (pa_cons (pe_bltn (v := .ty "int") (by rfl) T.int_ (by decide +kernel) rfl) pa_nil))))) (pw_or1 (pt_val (pe_callB (isiQ (K := K) rfl) (by rfl) T.isinstance_ (by decide +kernel) (pa_cons (pv 0) (pa_cons (pe_bltn (v := .ty "bool") (by rfl) T.bool_ (by decide +kernel) rfl) pa_nil)))))))
  (pss_one (ps_ret pe_bl))
  pss_nil)
  (pss_one (ps_ret (pe_cmpR op_lt (pe_callB call_abs (by rfl) T.abs_ (by decide +kernel) (pa_cons (pv 0) pa_nil)) (pe_op op_pow pe_int pe_int) (nomark _))))), ?_⟩
    rcases hk with ⟨i, rfl⟩ | ⟨b, rfl⟩ | ⟨hn, t, ty, ek⟩
    · refine ⟨_, rfl, .int i, .ty "int", .type "int", .type "int", true, rfl, .ty _, .base (.int i), kitII, _, rfl, iteF ?_⟩
      refine ⟨_, rfl, .int i, .ty "bool", .type "int", .type "bool", false, rfl, .ty _, .base (.int i), kitIB, _, rfl, iteF ?_⟩
      exact ⟨_, rfl, i, rfl, _, _, rfl, rfl, p60, _, _, rfl, rfl, q⟩
    · refine ⟨_, rfl, .bl b, .ty "int", .type "bool", .type "int", true, rfl, .ty _, .base (.bl b), kitBI, _, rfl, iteF ?_⟩
      exact ⟨_, rfl, .bl b, .ty "bool", .type "bool", .type "bool", true, rfl, .ty _, .base (.bl b), kitBB, _, rfl, iteT q⟩
    · refine ⟨_, rfl, v, .ty "int", t, .type "int", false, rfl, .ty _, ty, ek, _, rfl, iteT ?_⟩
      have e : intV v = false := by
        cases v with
        | int i => exact absurd rfl (hn i)
        | _ => rfl
      rw [e] at q
      exact q
end
end Eh

set_option Elab.async false
set_option linter.all false
set_option maxRecDepth 100000
namespace Eh
open PySem PySem.Spec PyProof.Rows L2
/-! ### a value that may be a node -/
def Elt (K : PySem.W.Frag) (H : Hp) (v : V) : Prop := (∃ z, v = .str z ∧ Asc z) ∨ (∃ i, v = .int i) ∨ (∃ b, v = .bl b) ∨ v = .non ∨ ∃ a xs, v = .ref a ∧ SqT K H a xs
theorem ty_tup {K : PySem.W.Frag} {H : Hp} {a : Addr} {xs : List V} (h : SqT K H a xs) : TyX K H (.ref a) (.type "tuple") := by
  rcases h with (h | ⟨o, h⟩) | ⟨o, its, n, h, c, _⟩
  · exact .base (.tup h)
  · exact .fTuple h
  · exact .kTuple h c
theorem Elt.tk {K : PySem.W.Frag} {H H' : Hp} {v : V} (h : Elt K H v) (t : Tk H H') : Elt K H' v := by
  rcases h with h | h | h | h | ⟨a, xs, e, h⟩
  · exact .inl h
  · exact .inr (.inl h)
  · exact .inr (.inr (.inl h))
  · exact .inr (.inr (.inr (.inl h)))
  · exact .inr (.inr (.inr (.inr ⟨a, xs, e, t.seq h⟩)))
theorem Elt.kind {K : PySem.W.Frag} {H : Hp} {v : V} (h : Elt K H v) : Kind K H v := by
  rcases h with h | ⟨i, rfl⟩ | ⟨b, rfl⟩ | rfl | ⟨a, xs, rfl, h⟩
  · exact .inl h
  · exact .inr ⟨fun z e => (nomatch e), _, .base (.int i), kit_ty (by decide +kernel)⟩
  · exact .inr ⟨fun z e => (nomatch e), _, .base (.bl b), kit_ty (by decide +kernel)⟩
  · exact .inr ⟨fun z e => (nomatch e), _, .base .non, kit_ty (by decide +kernel)⟩
  · exact .inr ⟨fun z e => (nomatch e), _, ty_tup h, kit_ty (by decide +kernel)⟩
theorem Elt.kindI {K : PySem.W.Frag} {H : Hp} {v : V} (h : Elt K H v) : KindI K H v := by
  rcases h with ⟨z, rfl, _⟩ | ⟨i, rfl⟩ | ⟨b, rfl⟩ | rfl | ⟨a, xs, rfl, h⟩
  · exact .inr (.inr ⟨fun i e => (nomatch e), _, .base (.str z), kit_ty (by decide +kernel)⟩)
  · exact .inl ⟨i, rfl⟩
  · exact .inr (.inl ⟨b, rfl⟩)
  · exact .inr (.inr ⟨fun i e => (nomatch e), _, .base .non, kit_ty (by decide +kernel)⟩)
  · exact .inr (.inr ⟨fun i e => (nomatch e), _, ty_tup h, kit_ty (by decide +kernel)⟩)
def factKinds : List Str := ["fact", "not"]
def sureKinds : List Str := ["yes", "no"]
def zeroV : V → Bool
  | .int i => decide (i = 0)
  | _ => false
def fewV : V → Bool
  | .int i => decide (2 ≤ i) && decide (i ≤ 4)
  | _ => false
/-- whether a text and a value are a node -/
def nodeAB (k : Str) (b : V) : Bool :=
  if factKinds.contains k then factV b
  else if sureKinds.contains k then zeroV b
  else nodeKinds.contains k && fewV b
def pairNd (a b : V) : Option (Str × V) := match a with
  | .str k => if nodeAB k b = true then some (k, b) else none
  | _ => none
/-- the tuples stay, lists stay lists, dicts stay -/
structure Ku (H H' : Hp) : Prop where
  tk : Tk H H'
  ls : ∀ a xs, H a = some (.lst xs) → ∃ ys, H' a = some (.lst ys)
  dk : ∀ a kvs, H a = some (.dK kvs) → H' a = some (.dK kvs)
theorem ku_same {H H' : Hp} (s : Same H H') : Ku H H' := ⟨stk s, fun a xs e => ⟨xs, s _ _ e⟩, fun a kvs e => s _ _ e⟩
theorem Ku.trans {H H1 H2 : Hp} (a : Ku H H1) (b : Ku H1 H2) : Ku H H2 := ⟨a.tk.trans b.tk, fun p xs e => (a.ls p xs e).elim fun ys e => b.ls p ys e, fun p kvs e => b.dk _ _ (a.dk _ _ e)⟩
theorem Gr.ku {d : Addr} {H H' : Hp} (g : Gr d H H') (D : D3 H d) : Ku H H' := by
  refine ⟨g.tk D, fun a xs e => ?_, fun a kvs e => ?_⟩
  · by_cases z : a = d
    · obtain ⟨x, b, c, e'⟩ := g.dice
      exact ⟨_, by rw [z]; exact e'⟩
    · exact ⟨xs, g.keep a _ z e⟩
  · obtain ⟨x, b, c, e'⟩ := D
    exact g.keep a _ (fun z => by rw [z, e'] at e; cases e) e
theorem Ku.put {H : Hp} {l : Addr} {xs ys : List V} (e : H l = some (.lst xs)) : Ku H (upd H l (.lst ys)) := by
  refine ⟨Tk.put e, fun a zs h => ?_, fun a kvs h => ?_⟩
  · by_cases z : a = l
    · exact ⟨ys, by rw [z]; exact upd_same⟩
    · exact ⟨zs, by rw [upd_ne z]; exact h⟩
  · rw [upd_ne (fun z => by rw [z, e] at h; cases h)]
    exact h
/-- a value that is no tuple -/
def NoT (H : Hp) (v : V) : Prop := (∃ z, v = .str z) ∨ (∃ i, v = .int i) ∨ (∃ b, v = .bl b) ∨ v = .non ∨ (∃ a xs, v = .ref a ∧ H a = some (.lst xs)) ∨ ∃ a kvs, v = .ref a ∧ H a = some (.dK kvs)
theorem NoT.ku {H H' : Hp} {v : V} (h : NoT H v) (k : Ku H H') : NoT H' v := by
  rcases h with h | h | h | h | ⟨a, xs, e, h⟩ | ⟨a, kvs, e, h⟩
  · exact .inl h
  · exact .inr (.inl h)
  · exact .inr (.inr (.inl h))
  · exact .inr (.inr (.inr (.inl h)))
  · obtain ⟨ys, h⟩ := k.ls _ _ h
    exact .inr (.inr (.inr (.inr (.inl ⟨a, ys, e, h⟩))))
  · exact .inr (.inr (.inr (.inr (.inr ⟨a, kvs, e, k.dk _ _ h⟩))))
theorem NoT.ty {K : PySem.W.Frag} {H : Hp} {v : V} (h : NoT H v) : ∃ u, TyX K H v u ∧ PySem.W.kitOne K u (.type "tuple") = some false := by
  rcases h with ⟨z, rfl⟩ | ⟨i, rfl⟩ | ⟨b, rfl⟩ | rfl | ⟨a, xs, rfl, h⟩ | ⟨a, kvs, rfl, h⟩
  · exact ⟨_, .base (.str z), kit_ty (by decide +kernel)⟩
  · exact ⟨_, .base (.int i), kit_ty (by decide +kernel)⟩
  · exact ⟨_, .base (.bl b), kit_ty (by decide +kernel)⟩
  · exact ⟨_, .base .non, kit_ty (by decide +kernel)⟩
  · exact ⟨_, .base (.lst h), kit_ty (by decide +kernel)⟩
  · exact ⟨_, .base (.dK h), kit_ty (by decide +kernel)⟩
inductive NdV (K : PySem.W.Frag) (H : Hp) : V → Option (Str × V) → Prop
  | other {v : V} : NoT H v → NdV K H v none
  | tup {p : Addr} {xs : List V} : SqT K H p xs → xs.length ≠ 2 → xs.length < 1000000 → NdV K H (.ref p) none
  | pair {p : Addr} {a b : V} : SqT K H p [a, b] → Elt K H a → Elt K H b → NdV K H (.ref p) (pairNd a b)
theorem NdV.ku {K : PySem.W.Frag} {H H' : Hp} {v : V} {n : Option (Str × V)} (h : NdV K H v n) (k : Ku H H') : NdV K H' v n := by
  cases h with
  | other t => exact .other (t.ku k)
  | tup h n l => exact .tup (k.tk.seq h) n l
  | pair h a b => exact .pair (k.tk.seq h) (a.tk k.tk) (b.tk k.tk)
structure SignsAt (K : PySem.W.Frag) (w : World) (mg : Str → Option Value) (p : Addr) : Prop where
  g : mg "SIGNS" = some (.ref p)
  d : ∃ es n, KDict K w p es n ∧ ∀ z, ∃ r, PySem.W.nsIn K p z = some r ∧ r.isSome = nodeKinds.contains z
theorem signs_mk {K : PySem.W.Frag} {w : World} {mg : Str → Option Value} {p : Addr} {n : Nat} {h1 h2 h3 h4 : Int} {t1 t2 t3 t4 : Tok} {v1 v2 v3 v4 : Value} (g : mg "SIGNS" = some (.ref p))
    (l : K.lookup p = some ⟨.type "dict", none, .dict #[⟨h1, .str "all" t1, v1⟩, ⟨h2, .str "mine" t2, v2⟩, ⟨h3, .str "some" t3, v3⟩, ⟨h4, .str "yours" t4, v4⟩] n, #[]⟩)
    (hh : PySem.W.KeysLit w.params [⟨h1, .str "all" t1, v1⟩, ⟨h2, .str "mine" t2, v2⟩, ⟨h3, .str "some" t3, v3⟩, ⟨h4, .str "yours" t4, v4⟩]) (low : (p == sysModules) = false) : SignsAt K w mg p := by
  refine ⟨g, _, n, ⟨l, hh, low⟩, fun z => ?_⟩
  have c : nodeKinds.contains z = (("all" : Str) == z || (("some" : Str) == z || (("mine" : Str) == z || (("yours" : Str) == z || false)))) := (inV_strs z nodeKinds).symm
  rw [c]
  unfold PySem.W.nsIn
  rw [l]
  show ∃ r, (match List.find? (fun x => x.key.isStr z) [(⟨h1, .str "all" t1, v1⟩ : DictEntry), ⟨h2, .str "mine" t2, v2⟩, ⟨h3, .str "some" t3, v3⟩, ⟨h4, .str "yours" t4, v4⟩] with
          | some e => some (some e.val)
          | none => if (List.any [(⟨h1, .str "all" t1, v1⟩ : DictEntry), ⟨h2, .str "mine" t2, v2⟩, ⟨h3, .str "some" t3, v3⟩, ⟨h4, .str "yours" t4, v4⟩] fun x => x.refKey) = true then none else some none) = some r ∧ _
  have i (x : Str) (t : Tok) : (Value.str x t).isStr z = (x == z) := rfl
  cases e1 : (("all" : Str) == z) with
  | true => exact ⟨some v1, by simp only [List.find?_cons, i, e1], rfl⟩
  | false =>
    cases e2 : (("mine" : Str) == z) with
    | true => exact ⟨some v2, by simp only [List.find?_cons, i, e1, e2], by simp⟩
    | false =>
      cases e3 : (("some" : Str) == z) with
      | true => exact ⟨some v3, by simp only [List.find?_cons, i, e1, e2, e3], by simp⟩
      | false =>
        cases e4 : (("yours" : Str) == z) with
        | true => exact ⟨some v4, by simp only [List.find?_cons, i, e1, e2, e3, e4], by simp⟩
        | false => exact ⟨none, by simp only [List.find?_cons, i, e1, e2, e3, e4, List.find?_nil]; rfl, by simp⟩
section
variable {P : Program} {w : World} {K : PySem.W.Frag} {mg : Str → Option Value} {base : Heap}
def rInKd (p : Addr) : R2 := fun x y H Q => ∃ z : Str, x = .str z ∧ y = .ref p ∧ Q (.bl (nodeKinds.contains z)) H
theorem inKd {X : Cx} {p : Addr} (S : SignsAt K w mg p) (h : X.K = K) (hw : X.w = w) : OpR X (compareOp .In) (rInKd p) := by
  subst h hw
  obtain ⟨es, n, D, hz⟩ := S.d
  intro pins s σ H x y v u Q I rx ry ⟨z, e1, e2, q⟩
  obtain ⟨r, hr, hs⟩ := hz z
  exact op_in_kd D pins s σ H x y v u Q I rx ry ⟨z, r, e1, e2, hr, by rw [hs]; exact q⟩
def spIsNode (K : PySem.W.Frag) : Sp := fun vs H Q _ => ∃ v nd, vs = [v] ∧ NdV K H v nd ∧ ∀ H', Same H H' → Q (.bl nd.isSome) H'
theorem neSelf {A B : Prop} {v : V} (h : B) : if (!decide (v = v)) = true then A else B := by
  rw [decide_eq_true rfl]
  exact iteF h
theorem kitTT {K : PySem.W.Frag} : PySem.W.kitOne K (.type "tuple") (.type "tuple") = some true := kit_ty (by decide +kernel)
theorem intZ {i : Int} (h : i = 0) : intV (.int i) = true := by
  subst h
  decide +kernel
theorem intS {i : Int} (h : 2 ≤ i ∧ i ≤ 4) : intV (.int i) = true := by
  show decide _ = true
  rw [decide_eq_true_iff, show (10 : Int) ^ (60 : Int).toNat = 10 ^ 60 from rfl]
  split <;> omega
theorem elt_str {K : PySem.W.Frag} {H : Hp} {v : V} (h : Elt K H v) : (∃ z, v = .str z) ∨ ((∀ z, v ≠ .str z) ∧ ∃ t, TyX K H v t ∧ PySem.W.kitOne K t (.type "str") = some false) :=
  h.kind.imp (fun ⟨z, e, _⟩ => ⟨z, e⟩) id
theorem ok_is_node {fF fI p f : Addr} {fdF fdI fd : FuncData} (F : Fun K "is_node" "is_node" s_is_node f fd) (T : Txt mg) (S : SignsAt K w mg p) (c2 : ∃ t, mg "LEAST_PARTS" = some (.int 2 t)) (c4 : ∃ t, mg "MOST_PARTS" = some (.int 4 t))
    (C_is_fact : Cal P w K mg base 1 "is_fact" fF fdF ["value"] (spFact K)) (C_is_integer : Cal P w K mg base 1 "is_integer" fI fdI ["value"] (spInteger K)) : FnOk P w K mg base CX0 2 f fd ["value"] (spIsNode K) := by
  obtain ⟨t2, e2⟩ := c2
  obtain ⟨t4, e4⟩ := c4
  refine F.ok sc_is_node (fun vs H Q E h => ?_) (fun cdv A outer s H vs Q E hr h => ?_)
  · obtain ⟨v, nd, rfl, _⟩ := h
    rfl
  · obtain ⟨v, nd, rfl, hv, q⟩ := h
    refine ⟨_, (pss_cons (ps_if (PW.pt (pw_or (pt_not (pt_val (pe_callB (isiQ (K := K) rfl) (by rfl) T.isinstance_ (by decide +kernel) (pa_cons (pv 0) (pa_cons (pe_bltn (v := .ty "tuple") (by rfl) T.tuple_ (by decide +kernel) rfl) pa_nil))))) (pw_or1 (pt_cmpR op_ne (pe_callB (lenQ (K := K) rfl) (by rfl) T.len_ (by decide +kernel) (pa_cons (pv 0) pa_nil)) pe_int (nomark _)))))
  (pss_one (ps_ret pe_bl))
  pss_nil)
  (pss_cons (ps_asg (pv 0) (pg_tup (by rfl) (pgs_cons (pg_name (i := 1) sc_is_node.nd rfl (.inl rfl)) (pgs_cons (pg_name (i := 2) sc_is_node.nd rfl (.inl rfl)) pgs_nil))))
  (pss_cons (ps_if (pt_not (pt_val (pe_callB (isiQ (K := K) rfl) (by rfl) T.isinstance_ (by decide +kernel) (pa_cons (pv 1) (pa_cons (pe_bltn (v := .ty "str") (by rfl) T.str_ (by decide +kernel) rfl) pa_nil)))))
  (pss_one (ps_ret pe_bl))
  pss_nil)
  (pss_cons (ps_if (pt_cmpR (inQ (K := K) rfl) (pv 1) (pe_tup (pa_cons pe_str (pa_cons pe_str pa_nil))) (by rfl))
  (pss_one (ps_ret (pe_call C_is_fact.G hr (by rfl) C_is_fact.m C_is_fact.k C_is_fact.b .nil pass0 (pa_cons (pv 2) pa_nil))))
  pss_nil)
  (pss_cons (ps_if (pt_cmpR (inQ (K := K) rfl) (pv 1) (pe_tup (pa_cons pe_str (pa_cons pe_str pa_nil))) (by rfl))
  (pss_one (ps_ret (pe_and (pe_call C_is_integer.G hr (by rfl) C_is_integer.m C_is_integer.k C_is_integer.b .nil pass0 (pa_cons (pv 2) pa_nil)) (pe_one (pe_cmpR op_eq (pv 2) pe_int (nomark _))))))
  pss_nil)
  (pss_one (ps_ret (pe_and (pe_cmpR (inKd S rfl rfl) (pv 1) (pe_glob (v := .ref p) rfl S.g rfl) (by rfl)) (pe_and (pe_call C_is_integer.G hr (by rfl) C_is_integer.m C_is_integer.k C_is_integer.b .nil pass0 (pa_cons (pv 2) pa_nil)) (pe_one (pe_chain op_le op_le (pe_glob (v := .int 2) rfl e2 ⟨_, rfl⟩) (pv 2) (pe_glob (v := .int 4) rfl e4 ⟨_, rfl⟩)))))))))))), ?_⟩
    cases hv with
    | other hno =>
      obtain ⟨u, ty, hk⟩ := hno.ty (K := K)
      exact ⟨_, rfl, v, .ty "tuple", _, .type "tuple", false, rfl, .ty _, ty, hk, _, rfl, iteT (q _ (Same.refl H))⟩
    | tup hs hn hl =>
      rename_i p0 xs
      refine ⟨_, rfl, .ref p0, .ty "tuple", _, .type "tuple", true, rfl, .ty _, ty_tup hs, kitTT, _, rfl, iteF ⟨_, rfl, .inl ⟨p0, xs, rfl, .inr hs, ?_⟩⟩⟩
      refine ⟨rfl, _, rfl, ?_⟩
      rw [decide_eq_false (fun e => hn (by injection e with e; omega))]
      exact iteT (q _ (Same.refl H))
    | pair hs ha hb =>
      rename_i p0 a b
      refine ⟨_, rfl, .ref p0, .ty "tuple", _, .type "tuple", true, rfl, .ty _, ty_tup hs, kitTT, _, rfl, iteF ⟨_, rfl, .inl ⟨p0, _, rfl, .inr hs, ?_⟩⟩⟩
      refine ⟨rfl, _, rfl, neSelf ?_⟩
      refine ⟨_, rfl, p0, _, rfl, hs, rfl, _, _, rfl, _, _, rfl, rfl, ?_⟩
      rcases elt_str ha with ⟨k, rfl⟩ | ⟨hn, t, ty, ek⟩
      · refine ⟨_, rfl, .str k, .ty "str", .type "str", .type "str", true, rfl, .ty _, .base (.str k), kitStr, _, rfl, iteF ?_⟩
        refine ⟨_, rfl, lenOk 2, fun t1 n1 => ⟨t1, factKinds.map V.str, rfl, .inr (SqT.of upd_same), rfl, flat_strs _, _, rfl, ?_⟩⟩
        have s1 : Same H (upd H t1 (.tup (factKinds.map V.str))) := same_new n1
        have q : ∀ H', Same H H' → Q (.bl (nodeAB k b)) H' := fun H' s => by
          have e : (pairNd (.str k) b).isSome = nodeAB k b := by
            show (if nodeAB k b = true then some (k, b) else none).isSome = nodeAB k b
            cases nodeAB k b <;> rfl
          rw [← e]
          exact q H' s
        refine ite2 (fun h1 => ?_) (fun h1 => ?_)
        · have h1 : factKinds.contains k = true := (inV_strs k factKinds).symm.trans h1
          refine ⟨_, rfl, b, rfl, (hb.tk (stk s1)).kind, fun H' s2 => ?_⟩
          have q' := q H' (s1.trans s2)
          unfold nodeAB at q'
          rw [if_pos h1] at q'
          exact q'
        have h1 : ¬ factKinds.contains k = true := fun z => h1 ((inV_strs k factKinds).trans z)
        refine ⟨_, rfl, lenOk 2, fun t3 n3 => ⟨t3, sureKinds.map V.str, rfl, .inr (SqT.of upd_same), rfl, flat_strs _, _, rfl, ?_⟩⟩
        have s3 : Same H _ := s1.trans (same_new (o := .tup (sureKinds.map V.str)) n3)
        refine ite2 (fun h2 => ?_) (fun h2 => ?_)
        · have h2 : sureKinds.contains k = true := (inV_strs k sureKinds).symm.trans h2
          have q' := q _ s3
          unfold nodeAB at q'
          rw [if_neg h1, if_pos h2] at q'
          refine ⟨_, rfl, b, rfl, (hb.tk (stk s3)).kindI, _, rfl, ?_⟩
          cases ei : intV b with
          | false =>
            refine iteF ?_
            have e : zeroV b = false := by
              cases b with
              | int i => exact decide_eq_false fun z => by rw [intZ z] at ei; cases ei
              | _ => rfl
            rw [e] at q'
            exact q'
          | true =>
            refine iteT ?_
            cases b with
            | int i =>
              refine ⟨_, rfl, rfl, ?_⟩
              have e : decide ((V.int i) = V.int 0) = decide (i = 0) := decide_eq_decide.mpr ⟨fun z => by injection z, fun z => by rw [z]⟩
              rw [e]
              exact q'
            | _ => cases ei
        have h2 : ¬ sureKinds.contains k = true := fun z => h2 ((inV_strs k sureKinds).trans z)
        have q' := q _ s3
        unfold nodeAB at q'
        rw [if_neg h1, if_neg h2] at q'
        refine ⟨_, rfl, k, rfl, rfl, _, rfl, ?_⟩
        cases ek : nodeKinds.contains k with
        | false =>
          rw [ek] at q'
          exact iteF q'
        | true =>
          rw [ek, Bool.true_and] at q'
          refine iteT ?_
          refine ⟨_, rfl, b, rfl, (hb.tk (stk s3)).kindI, _, rfl, ?_⟩
          cases ei : intV b with
          | false =>
            refine iteF ?_
            have e : fewV b = false := by
              cases b with
              | int i =>
                show (decide (2 ≤ i) && decide (i ≤ 4)) = false
                rw [Bool.and_eq_false_iff]
                by_cases h : 2 ≤ i
                · by_cases h' : i ≤ 4
                  · rw [intS ⟨h, h'⟩] at ei
                    cases ei
                  · exact .inr (decide_eq_false h')
                · exact .inl (decide_eq_false h)
              | _ => rfl
            rw [e] at q'
            exact q'
          | true =>
            refine iteT ?_
            cases b with
            | int i =>
              have q' : Q (.bl (decide (2 ≤ i) && decide (i ≤ 4))) _ := q'
              refine ⟨_, rfl, 2, i, rfl, rfl, _, rfl, ?_⟩
              cases e2 : decide ((2 : Int) ≤ i) with
              | true =>
                refine iteT ⟨i, 4, rfl, rfl, ?_⟩
                rw [e2, Bool.true_and] at q'
                exact q'
              | false =>
                rw [e2] at q'
                exact iteF q'
            | _ => cases ei
      · refine ⟨_, rfl, a, .ty "str", t, .type "str", false, rfl, .ty _, ty, ek, _, rfl, iteT ?_⟩
        have e : pairNd a b = none := by
          unfold pairNd
          split
          · exact absurd rfl (hn _)
          · rfl
        have q' := q _ (Same.refl H)
        rw [e] at q'
        exact q'
end
end Eh

set_option Elab.async false
set_option linter.all false
set_option maxRecDepth 100000
namespace Eh
open PySem PySem.Spec PyProof.Rows L2
def intOf : V → Int
  | .int i => i
  | _ => 0
/-- how many parts a node has -/
def partsN (n : Str × V) : Nat := if nodeKinds.contains n.1 = true then (intOf n.2).toNat else 0
/-- whether nodes are those of so many promises -/
def dueGo : Nat → List (Str × V) → Bool
  | l, [] => decide (l = 0)
  | 0, _ :: _ => false
  | l + 1, n :: ns => dueGo (l + partsN n) ns
def GoodN (ns : List (Str × V)) : Prop := ∀ n ∈ ns, nodeAB n.1 n.2 = true
theorem node_not_fact {k : Str} (h : nodeKinds.contains k = true) : factKinds.contains k = false ∧ sureKinds.contains k = false := by
  rcases node_cases h with rfl | rfl | rfl | rfl <;> exact ⟨by decide +kernel, by decide +kernel⟩
theorem good_int {k : Str} {t : V} (h : nodeAB k t = true) (hk : nodeKinds.contains k = true) : ∃ i : Int, t = .int i ∧ 2 ≤ i ∧ i ≤ 4 := by
  unfold nodeAB at h
  rw [(node_not_fact hk).1, (node_not_fact hk).2, hk] at h
  have h : fewV t = true := by simpa using h
  cases t with
  | int i =>
    have h : (decide (2 ≤ i) && decide (i ≤ 4)) = true := h
    rw [Bool.and_eq_true] at h
    exact ⟨i, rfl, of_decide_eq_true h.1, of_decide_eq_true h.2⟩
  | _ => cases h
theorem sum_set {pre : List Int} {x : Int} : (pre ++ [x]).sum = pre.sum + x := by
  rw [List.sum_append]
  simp
theorem ixN_last (n : Nat) : ixN (n + 1) (-1) = some n := by
  unfold ixN
  rw [if_neg (by omega), if_pos (by omega)]
  congr 1
  omega
theorem drop_at {α : Type} {l : List α} {i : Nat} {x : α} (h : l[i]? = some x) : l.drop i = x :: l.drop (i + 1) := by
  obtain ⟨hl, e⟩ := List.getElem?_eq_some_iff.mp h
  rw [List.drop_eq_getElem_cons hl, e]
/-- a stack of counts -/
def Stk (st : List Int) : Prop := ∀ x ∈ st, 0 ≤ x
theorem Stk.sum {st : List Int} (h : Stk st) : 0 ≤ st.sum := by
  induction st with
  | nil => exact Int.le_refl 0
  | cons a r ih =>
    rw [List.sum_cons]
    have := h a List.mem_cons_self
    have := ih fun x hx => h x (List.mem_cons_of_mem _ hx)
    omega
theorem map_last (pre : List Int) (x : Int) : (pre ++ [x]).map V.int = pre.map V.int ++ [V.int x] := by
  rw [List.map_append]
  rfl
theorem set_last (pre : List Int) (x y : Int) : (pre.map V.int ++ [V.int x]).set pre.length (V.int y) = (pre ++ [y]).map V.int := by
  rw [map_last, List.set_append_right _ _ (by rw [List.length_map]; exact Nat.le_refl _), List.length_map, Nat.sub_self]
  rfl
theorem due_step {s : Int} {n : Str × V} {ns : List (Str × V)} (h : 1 ≤ s) : dueGo s.toNat (n :: ns) = dueGo (s - 1 + partsN n).toNat ns := by
  have e : s.toNat = (s - 1).toNat + 1 := by omega
  rw [e, dueGo]
  congr 1
  omega
theorem last_or {st : List Int} : st = [] ∨ ∃ pre x, st = pre ++ [x] := by
  rcases List.eq_nil_or_concat st with h | ⟨pre, x, h⟩
  · exact .inl h
  · exact .inr ⟨pre, x, by rw [h, List.concat_eq_append]⟩
section
variable {P : Program} {w : World} {K : PySem.W.Frag} {mg : Str → Option Value} {base : Heap}
def spDepth (K : PySem.W.Frag) : Sp := fun vs H Q _ => ∃ p xs ns, vs = [.ref p] ∧ SqT K H p xs ∧ NdsAt K H xs ns ∧ GoodN ns ∧ xs.length < 1000 ∧
  ∀ (dd : Int) H', Same H H' → (1 ≤ dd ↔ dueGo 1 ns = true) → dd ≤ 1 + countIn nodeKinds ns → Q (.int dd) H'
theorem ok_depth_of {p0 f : Addr} {fd : FuncData} (F : Fun K "depth_of" "depth_of" s_depth_of f fd) (T : Txt mg) (S : SignsAt K w mg p0) : FnOk P w K mg base CX0 1 f fd ["nodes"] (spDepth K) := by
  refine F.ok sc_depth_of (fun vs H Q E h => ?_) (fun cdv A outer s H vs Q E hr h => ?_)
  · obtain ⟨p, xs, ns, rfl, _⟩ := h
    rfl
  · obtain ⟨p, xs, ns, rfl, hS, hN, hg, hlen, q⟩ := h
    refine ⟨_, (pss_cons (ps_set (i := 1) sc_depth_of.nd rfl (.inl rfl) (pe_lst (pa_cons pe_int pa_nil)))
  (pss_cons (ps_set (i := 2) sc_depth_of.nd rfl (.inl rfl) pe_int)
  (pss_cons (ps_for PassesOwn.never (by rfl) (pi_tup (pv 0)) (pg_tup (by rfl) (pgs_cons (pg_name (i := 3) sc_depth_of.nd rfl (.inl rfl)) (pgs_cons (pg_name (i := 4) sc_depth_of.nd rfl (.inl rfl)) pgs_nil)))
  (pss_cons (ps_while PassesOwn.never (PW.pt (pw_and (pt_truth (pv 1) (by intro _; rfl)) (pw_and1 (pt_cmpR op_eq (pe_ix (ixL (K := K) rfl) (pv 1) (pe_un un_neg pe_int) (fun _ _ => rfl)) pe_int (nomark _)))))
  (pss_one (ps_expr (bm0K (K := K) rfl (pe_bm0 PySem.F.plainAttrs_list PySem.F.slot_list_pop PySem.F.type_list_pop mt_pop (pv 1))))))
  (pss_cons (ps_if (pt_not (pt_truth (pv 1) (by intro _; rfl)))
  (pss_one (ps_ret pe_int))
  pss_nil)
  (pss_cons (ps_asg (pe_op op_sub (pe_ix (ixL (K := K) rfl) (pv 1) (pe_un un_neg pe_int) (fun _ _ => rfl)) pe_int) (pg_sub (pv 1) (pe_un un_neg pe_int) set_list))
  (pss_cons (ps_set (i := 2) sc_depth_of.nd rfl (.inl rfl) (pe_callB (call_max2 (by rfl)) (by rfl) T.max_ (by decide +kernel) (pa_cons (pv 2) (pa_cons (pe_callB (lenQ (K := K) rfl) (by rfl) T.len_ (by decide +kernel) (pa_cons (pv 1) pa_nil)) pa_nil))))
  (pss_one (ps_if (pt_cmpR (inKd S rfl rfl) (pv 3) (pe_glob (v := .ref p0) rfl S.g rfl) (by rfl))
  (pss_one (ps_expr (bmK (K := K) rfl (pe_bm PySem.F.plainAttrs_list PySem.F.slot_list_append PySem.F.type_list_append mt_append (pv 1) (pa_cons (pv 4) pa_nil)))))
  pss_nil)))))))
  (pss_one (ps_ret (pe_ifExp (pt_cmpR op_eq (pe_callB (cr_sum (by rfl)) (by rfl) T.sum_ (by decide +kernel) (pa_cons (pv 1) pa_nil)) pe_int (nomark _)) (pv 2) pe_int)))))), ?_⟩
    refine ⟨lenOk 1, fun l nl => ?_⟩
    have s1 : Same H (upd H l (.lst [.int 1])) := same_new nl
    have hxn := hN.length
    refine ⟨_, rfl, p, rfl, ⟨xs, (stk s1).seq hS⟩, for_tup (K := K) (a := p) (xs := xs) (fun i σ H2 => ∃ (st : List Int) (dp : Int) (x3 x4 : Option V), σ = [some (.ref p), some (.ref l), some (.int dp), x3, x4] ∧ Same H H2 ∧ H2 l = some (.lst (st.map V.int)) ∧ Stk st ∧
      dueGo 1 ns = dueGo st.sum.toNat (ns.drop i) ∧ (st.length : Int) ≤ 1 + countIn nodeKinds (ns.take i) ∧ dp ≤ 1 + countIn nodeKinds (ns.take i) ∧ (1 ≤ dp ∨ 0 < st.sum) ∧ st.length ≤ i + 1 ∧ (i = 0 → dp = 0)) ?_ (fun i σ H2 _ h => ?_) ?_ ?_⟩
    · refine ⟨[1], 0, none, none, rfl, s1, upd_same, ?_, rfl, ?_, ?_, .inr (by decide), Nat.le_refl _, fun _ => rfl⟩
      · intro x hx
        rw [List.mem_singleton.mp hx]
        decide
      · show (1 : Int) ≤ 1 + _
        omega
      · omega
    · obtain ⟨st, dp, x3, x4, _, s2, _⟩ := h
      exact (stk s2).seq hS
    · rintro i x σ H2 hi ⟨st, dp, x3, x4, rfl, s2, e2, hst, hdue, hsl, hdp, hor, hsi, _⟩
      obtain ⟨a, k, t, rfl, hk, ha⟩ := hN.get hi
      have hgn := hg _ (List.mem_of_getElem? hk)
      have hi9 : i < 1000 := by
        have := (List.getElem?_eq_some_iff.mp hi).1
        omega
      refine ⟨a, _, rfl, (stk s2).seq ha, rfl, _, _, rfl, _, _, rfl, rfl, ?_⟩
      refine ⟨fun m σ H3 => ∃ st' : List Int, m = st'.length ∧ σ = [some (.ref p), some (.ref l), some (.int dp), some (.str k), some t] ∧ Same H H3 ∧ H3 l = some (.lst (st'.map V.int)) ∧ Stk st' ∧ st'.sum = st.sum ∧ st'.length ≤ st.length, ⟨_, st, rfl, rfl, s2, e2, hst, rfl, Nat.le_refl _⟩, ?_⟩
      rintro m σ H3 ⟨st', rfl, rfl, s3, e3, hst', hsum, hl'⟩
      have nH : H l = none := nl
      have keep : ∀ {H' : Hp} {o : HO}, Same H H' → Same H (upd H' l o) := fun {H' o} s b u eb => by
        rw [upd_ne (ne_of_none eb nH)]
        exact s b u eb
      have dr := drop_at hk
      rcases last_or (st := st') with rfl | ⟨pre, x, rfl⟩
      · -- nothing is missing any more
        refine ⟨_, rfl, false, .inl ⟨[], SqL.of e3, rfl⟩, ?_⟩
        refine iteF ?_
        refine ⟨_, rfl, false, .inl ⟨[], SqL.of e3, rfl⟩, ?_⟩
        refine iteT ?_
        refine q 0 H3 s3 ⟨fun z => by omega, fun z => ?_⟩ (by omega)
        rw [hdue, ← hsum, dr] at z
        cases z
      · rw [map_last] at e3
        have hx0 : 0 ≤ x := hst' x (List.mem_append_right _ List.mem_cons_self)
        have hpre : Stk pre := fun y hy => hst' y (List.mem_append_left _ hy)
        have hsum : pre.sum + x = st.sum := by rw [← hsum, sum_set]
        have hl' : pre.length + 1 ≤ st.length := by rw [List.length_append] at hl'; exact hl'
        refine ⟨_, rfl, true, .inl ⟨_, SqL.of e3, by simp⟩, iteT ⟨_, rfl, _, rfl, l, _, (-1), .int x, rfl, rfl, SqL.of e3, atI_last, rfl, _, rfl, ?_⟩⟩
        by_cases hx : V.int x = V.int 0
        · rw [decide_eq_true hx]
          have hx : x = 0 := by injection hx
          refine iteT ⟨_, fun σ' H' h => h, ?_⟩
          refine ⟨_, rfl, .inl ⟨rfl, _, SqL.of e3⟩, l, _, .int x, rfl, rfl, e3, ?_, ?_⟩
          · rw [List.length_append, List.length_singleton, Nat.add_sub_cancel]
            exact List.getElem?_concat_length
          · rw [List.dropLast_concat]
            exact ⟨pre.length, by rw [List.length_append]; exact Nat.lt_succ_self _, pre, rfl, rfl, keep s3, upd_same, hpre, by omega, by omega⟩
        · rw [decide_eq_false hx]
          have hx : x ≠ 0 := fun e => hx (by rw [e])
          refine iteF ?_
          refine ⟨_, rfl, true, .inl ⟨_, SqL.of e3, by simp⟩, iteF ?_⟩
          refine ⟨_, rfl, _, rfl, l, _, (-1), .int x, rfl, rfl, SqL.of e3, atI_last, _, _, rfl, rfl, ?_⟩
          refine ⟨_, rfl, _, rfl, l, _, (-1), pre.length, rfl, rfl, e3, ?_, ?_⟩
          · rw [List.length_append, List.length_map]
            exact ixN_last _
          rw [set_last]
          have s4 : Same H (upd H3 l (.lst ((pre ++ [x - 1]).map V.int))) := keep s3
          have hst4 : Stk (pre ++ [x - 1]) := fun y hy => by
            rcases List.mem_append.mp hy with h | h
            · exact hpre y h
            · rw [List.mem_singleton.mp h]
              omega
          have hps := hpre.sum
          refine ⟨_, rfl, _, rfl, .inl ⟨l, _, rfl, .inl (SqL.of upd_same), _, _, rfl, ?_⟩⟩
          obtain ⟨d2, ed, hd1, hd2⟩ : ∃ d2 : Int, (if (((pre ++ [x - 1]).map V.int).length : Int) > dp then (((pre ++ [x - 1]).map V.int).length : Int) else dp) = d2 ∧ 1 ≤ d2 ∧ d2 ≤ 1 + countIn nodeKinds (ns.take i) := by
            refine ⟨_, rfl, ?_⟩
            rw [List.length_map, List.length_append, List.length_singleton]
            split <;> omega
          rw [ed]
          have ct : countIn nodeKinds (ns.take (i + 1)) = countIn nodeKinds (ns.take i) + countIn nodeKinds [(k, t)] := by rw [take_succ' hk, countIn_app]
          refine ⟨_, rfl, k, rfl, rfl, _, rfl, ?_⟩
          cases ek : nodeKinds.contains k with
          | true =>
            obtain ⟨ti, rfl, ht2, ht4⟩ := good_int hgn ek
            rw [countIn_one, if_pos ek] at ct
            refine iteT ⟨_, rfl, .inl ⟨rfl, _, SqL.of upd_same⟩, _, rfl, l, _, .int ti, rfl, rfl, upd_same, small (by rw [List.length_map, List.length_append, List.length_singleton]; omega), ?_⟩
            rw [← map_last]
            refine ⟨(pre ++ [x - 1]) ++ [ti], d2, _, _, rfl, keep s4, upd_same, ?_, ?_, ?_, ?_, ?_, ?_, fun e => by omega⟩
            · intro y hy
              rcases List.mem_append.mp hy with h | h
              · exact hst4 y h
              · rw [List.mem_singleton.mp h]
                omega
            · rw [hdue, dr, ← hsum, due_step (by omega), sum_set, sum_set]
              congr 2
              unfold partsN
              rw [if_pos ek]
              show pre.sum + x - 1 + ((ti.toNat : Nat) : Int) = _
              omega
            · rw [List.length_append, List.length_append, List.length_singleton, List.length_singleton]
              omega
            · omega
            · exact .inl hd1
            · rw [List.length_append, List.length_append, List.length_singleton, List.length_singleton]
              omega
          | false =>
            rw [countIn_one, if_neg (by rw [ek]; exact Bool.false_ne_true)] at ct
            refine iteF ⟨pre ++ [x - 1], d2, _, _, rfl, s4, upd_same, hst4, ?_, ?_, ?_, ?_, ?_, fun e => by omega⟩
            · rw [hdue, dr, ← hsum, due_step (by omega), sum_set]
              congr 2
              unfold partsN
              rw [if_neg (by rw [ek]; exact Bool.false_ne_true)]
              show pre.sum + x - 1 + 0 = _
              omega
            · rw [List.length_append, List.length_singleton]
              omega
            · omega
            · exact .inl hd1
            · rw [List.length_append, List.length_singleton]
              omega
    · rintro σ H2 ⟨st, dp, x3, x4, rfl, s2, e2, hst, hdue, hsl, hdp, hor, hsi, h0⟩
      refine ⟨_, rfl, l, st, rfl, SqL.of e2, rfl, _, rfl, ?_⟩
      rw [hxn, List.drop_length] at hdue
      rw [hxn, List.take_length] at hsl hdp
      have hs := hst.sum
      have hd : dueGo 1 ns = decide (st.sum.toNat = 0) := hdue
      refine ite2 (fun h => ?_) (fun h => ?_)
      · have h : V.int st.sum = V.int 0 := of_decide_eq_true h
        have h : st.sum = 0 := by injection h
        refine ⟨_, rfl, q dp H2 s2 ⟨fun _ => by rw [hd]; exact decide_eq_true (by omega), fun _ => by omega⟩ hdp⟩
      · have h : st.sum ≠ 0 := fun e => h (decide_eq_true (by rw [e]))
        exact q 0 H2 s2 ⟨fun z => by omega, fun z => by rw [hd] at z; have := of_decide_eq_true z; omega⟩ (by omega)
end
end Eh

set_option Elab.async false
set_option linter.all false
set_option maxRecDepth 100000
namespace Eh
open PySem PySem.Spec PyProof.Rows L2
/-- the facts of nodes -/
def factsN (ns : List (Str × V)) : List Str := ns.filterMap fun n => if factKinds.contains n.1 = true then (match n.2 with | .str z => some z | _ => none) else none
theorem good_fact {k : Str} {t : V} (h : nodeAB k t = true) (hk : factKinds.contains k = true) : ∃ z, t = .str z ∧ factS z = true := by
  unfold nodeAB at h
  rw [if_pos hk] at h
  cases t with
  | str z => exact ⟨z, rfl, h⟩
  | _ => cases h
theorem factsN_one {k : Str} {t : V} {z : Str} (hk : factKinds.contains k = true) (ht : t = .str z) : factsN [(k, t)] = [z] := by
  subst ht
  unfold factsN
  simp only [List.filterMap_cons, hk, if_true, List.filterMap_nil]
theorem factsN_none {k : Str} {t : V} (hk : factKinds.contains k = false) : factsN [(k, t)] = [] := by
  unfold factsN
  simp only [List.filterMap_cons, hk, Bool.false_eq_true, if_false, List.filterMap_nil]
theorem factsN_app (a b : List (Str × V)) : factsN (a ++ b) = factsN a ++ factsN b := by
  unfold factsN
  rw [List.filterMap_append]
theorem pgT {X : Cx} {K : PySem.W.Frag} {es : List Expr} {k : Nat} {pos : Pos} {t : TGs} {n : Nat} (h : X.K = K) (hc : X.calm = true) (hp : PGs X es t)
    (hn : (assignEach es X.env).length = n := by rfl) (hst : (assignEach es X.env).findIdx? (·.1) = none := by rfl) : PG X (.Tuple es k pos) (gTup K n t) := by
  subst h
  exact pg_tup hc hp hn hst
theorem mem_put (x z : Str) (ts : List Str) : x ∈ put z ts ↔ x = z ∨ x ∈ ts := by
  unfold put
  split
  · rename_i h
    exact ⟨.inr, fun e => e.elim (fun e => by rw [e]; exact h) id⟩
  · rw [List.mem_cons]
theorem nodup_put {z : Str} {ts : List Str} (h : ts.Nodup) : (put z ts).Nodup := by
  unfold put
  split
  · exact h
  · rename_i n
    exact List.nodup_cons.mpr ⟨n, h⟩
section
variable {P : Program} {w : World} {K : PySem.W.Frag} {mg : Str → Option Value} {base : Heap}
def spFacts (K : PySem.W.Frag) : Sp := fun vs H Q _ => ∃ p xs ns, vs = [.ref p] ∧ SqT K H p xs ∧ NdsAt K H xs ns ∧ GoodN ns ∧ xs.length < 60 ∧
  ∀ (ys : List Str) p' H', Same H H' → H p' = none → H' p' = some (.tup (ys.map V.str)) → ys.Nodup → sortedS ys = true → (∀ z, z ∈ ys ↔ z ∈ factsN ns) → Q (.ref p') H'
theorem ok_facts_of {f : Addr} {fd : FuncData} (F : Fun K "facts_of" "facts_of" s_facts_of f fd) (T : Txt mg) : FnOk P w K mg base CX0 1 f fd ["nodes"] (spFacts K) := by
  refine F.ok sc_facts_of (fun vs H Q E h => ?_) (fun cdv A outer s H vs Q E hr h => ?_)
  · obtain ⟨p, xs, ns, rfl, _⟩ := h
    rfl
  · obtain ⟨p, xs, ns, rfl, hS, hN, hg, hlen, q⟩ := h
    refine ⟨_, (pss_one (ps_ret (pe_callTy call_tuple_of (by rfl) T.tuple_ (by decide +kernel) (pa_cons (pe_callB (sortX (by rfl)) (by rfl) T.sorted_ (by decide +kernel) (pa_cons (pe_sc (own := [("kind", 1), ("told", 2)]) (g := gTup K 2 (gCons (gName 1) (gCons (gName 2) gNil))) (by rfl) sc_facts_of.nd (pi_tup (pv 0)) (blkOk_by (by kernel_rfl)) (fun _ _ _ _ _ => (pgT (K := K) rfl (by rfl) (pgs_cons (pg_name (i := 1) sc_facts_of.nd rfl (.inl rfl)) (pgs_cons (pg_name (i := 2) sc_facts_of.nd rfl (.inl rfl)) pgs_nil)))) (fun _ _ _ _ _ => (pts_one (pt_cmpR (inQ (K := K) rfl) (pv 1) (pe_tup (pa_cons pe_str (pa_cons pe_str pa_nil))) (by rfl)))) (fun _ _ _ _ _ => (pv 2))) pa_nil)) pa_nil)))), ?_⟩
    have hxn := hN.length
    refine ⟨_, rfl, p, rfl, ⟨xs, hS⟩, fun D nD => ?_⟩
    have s1 : Same H (upd H D (SetX w D [])) := same_new nD
    refine scTg (K := K) (a := p) (xs := xs) (fun j ts H2 => Same H H2 ∧ ts.Nodup ∧ ∀ z, z ∈ ts ↔ z ∈ factsN (ns.take j)) ⟨s1, List.nodup_nil, fun z => Iff.rfl⟩ (fun j ts H2 h => (stk h.1).seq hS) ?_ ?_
    · rintro j x ts H2 hx hl e ⟨s2, nd, hm⟩
      obtain ⟨a, k, t, rfl, hk, ha⟩ := hN.get hx
      have hgn := hg _ (List.mem_of_getElem? hk)
      have hj : j < 60 := by
        have := (List.getElem?_eq_some_iff.mp hx).1
        omega
      have et : factsN (ns.take (j + 1)) = factsN (ns.take j) ++ factsN [(k, t)] := by rw [take_succ' hk, factsN_app]
      have nDH : H D = none := nD
      refine ⟨a, _, rfl, (stk s2).seq ha, rfl, _, _, rfl, _, _, rfl, rfl, rfl, ?_⟩
      refine ⟨_, rfl, lenOk 2, fun t1 n1 => ⟨t1, factKinds.map V.str, rfl, .inr (SqT.of upd_same), rfl, flat_strs _, _, rfl, ?_⟩⟩
      have s3 : Same H (upd H2 t1 (.tup (factKinds.map V.str))) := s2.trans (same_new n1)
      have e3 := same_new (o := .tup (factKinds.map V.str)) n1 _ _ e
      cases ek : factKinds.contains k with
      | true =>
        obtain ⟨z, rfl, _⟩ := good_fact hgn ek
        rw [factsN_one ek rfl] at et
        refine iteT' ((inV_strs k factKinds).trans ek) ⟨_, rfl, ScK.mk hl (by omega) e3 ⟨fun b o eb => ?_, nodup_put nd, fun y => ?_⟩⟩
        · rw [upd_ne (ne_of_none eb nDH)]
          exact s3 b o eb
        · rw [mem_put, et, List.mem_append, List.mem_singleton, hm y, or_comm]
      | false =>
        rw [factsN_none ek, List.append_nil] at et
        exact iteF' ((inV_strs k factKinds).trans ek) ⟨ts, by omega, e3, s3, nd, fun y => by rw [et]; exact hm y⟩
    · rintro ts H2 hl e ⟨s2, nd, hm⟩
      refine ⟨D, ts, rfl, e, nd, by omega, fun ys p2 hp hs n2 => ?_⟩
      have s3 := s2.trans (same_new (o := .lst (ys.map V.str)) n2)
      refine ⟨p2, _, rfl, .inl ⟨SqL.of upd_same, fun p3 n3 => ?_⟩⟩
      rw [hxn, List.take_length] at hm
      exact q ys p3 _ (s3.trans (same_new n3)) (s3.free n3) upd_same (hp.nodup_iff.mpr nd) hs fun z => by rw [hp.mem_iff]; exact hm z
/-! choices -/
def spChoices (K : PySem.W.Frag) : Sp := fun vs H Q _ => ∃ p xs ns, vs = [.ref p] ∧ SqT K H p xs ∧ NdsAt K H xs ns ∧ xs.length < 1000 ∧ ∀ H', Same H H' → Q (.int (countIn choiceKinds ns)) H'
theorem ok_choices_of {f : Addr} {fd : FuncData} (F : Fun K "choices_of" "choices_of" s_choices_of f fd) (T : Txt mg) : FnOk P w K mg base CX0 1 f fd ["nodes"] (spChoices K) := by
  refine F.ok sc_choices_of (fun vs H Q E h => ?_) (fun cdv A outer s H vs Q E hr h => ?_)
  · obtain ⟨p, xs, ns, rfl, _⟩ := h
    rfl
  · obtain ⟨p, xs, ns, rfl, hS, hN, hlen, q⟩ := h
    refine ⟨_, (pss_one (ps_ret (pe_callB (lenQ (K := K) rfl) (by rfl) T.len_ (by decide +kernel) (pa_cons (pe_lc (own := [("kind", 1), ("_", 2)]) (g := gTup K 2 (gCons (gName 1) (gCons (gName 2) gNil))) (by rfl) sc_choices_of.nd (pi_tup (pv 0)) (blkOk_by (by kernel_rfl)) (fun _ _ _ _ _ => (pgT (K := K) rfl (by rfl) (pgs_cons (pg_name (i := 1) sc_choices_of.nd rfl (.inl rfl)) (pgs_cons (pg_name (i := 2) sc_choices_of.nd rfl (.inl rfl)) pgs_nil)))) (fun _ _ _ _ _ => (pts_one (pt_cmpR (inQ (K := K) rfl) (pv 1) (pe_tup (pa_cons pe_str (pa_cons pe_str pa_nil))) (by rfl)))) (fun _ _ _ _ _ => (pv 1))) pa_nil)))), ?_⟩
    have hxn := hN.length
    refine ⟨_, rfl, p, rfl, ⟨xs, hS⟩, fun D nD => ?_⟩
    have s1 : Same H (upd H D (.lst [])) := same_new nD
    refine lcTg (K := K) (a := p) (xs := xs) (fun j acc H2 => Same H H2 ∧ acc.length = countIn choiceKinds (ns.take j)) ⟨s1, rfl⟩ (fun j ts H2 h => (stk h.1).seq hS) ?_ ?_
    · rintro j x acc H2 hx hl e ⟨s2, hm⟩
      obtain ⟨a, k, t, rfl, hk, ha⟩ := hN.get hx
      have hj : j < 1000 := by
        have := (List.getElem?_eq_some_iff.mp hx).1
        omega
      have et : countIn choiceKinds (ns.take (j + 1)) = countIn choiceKinds (ns.take j) + countIn choiceKinds [(k, t)] := by rw [take_succ' hk, countIn_app]
      have nDH : H D = none := nD
      refine ⟨a, _, rfl, (stk s2).seq ha, rfl, _, _, rfl, _, _, rfl, rfl, rfl, ?_⟩
      refine ⟨_, rfl, lenOk 2, fun t1 n1 => ⟨t1, choiceKinds.map V.str, rfl, .inr (SqT.of upd_same), rfl, flat_strs _, _, rfl, ?_⟩⟩
      have s3 : Same H (upd H2 t1 (.tup (choiceKinds.map V.str))) := s2.trans (same_new n1)
      have e3 := same_new (o := .tup (choiceKinds.map V.str)) n1 _ _ e
      cases ek : choiceKinds.contains k with
      | true =>
        rw [countIn_one, if_pos ek] at et
        refine iteT' ((inV_strs k choiceKinds).trans ek) ⟨_, rfl, LcK.mk hl (by omega) e3 ⟨fun b o eb => ?_, ?_⟩⟩
        · rw [upd_ne (ne_of_none eb nDH)]
          exact s3 b o eb
        · rw [List.length_append, hm, et]
          rfl
      | false =>
        rw [countIn_one, if_neg (by rw [ek]; exact Bool.false_ne_true)] at et
        exact iteF' ((inV_strs k choiceKinds).trans ek) ⟨acc, by omega, e3, s3, by rw [et]; exact hm⟩
    · rintro acc H2 hl e ⟨s2, hm⟩
      refine .inl ⟨D, acc, rfl, .inl (SqL.of e), ?_⟩
      rw [hxn, List.take_length] at hm
      rw [hm]
      exact q H2 s2
end
end Eh

set_option Elab.async false
set_option linter.all false
set_option maxRecDepth 100000
namespace Eh
open PySem PySem.Spec PyProof.Rows L2
inductive NdAll (K : PySem.W.Frag) (H : Hp) : List V → List (Option (Str × V)) → Prop
  | nil : NdAll K H [] []
  | cons {v : V} {vs : List V} {n : Option (Str × V)} {ns : List (Option (Str × V))} : NdV K H v n → NdAll K H vs ns → NdAll K H (v :: vs) (n :: ns)
theorem NdAll.length {K : PySem.W.Frag} {H : Hp} : ∀ {vs : List V} {ns : List (Option (Str × V))}, NdAll K H vs ns → vs.length = ns.length
  | _, _, .nil => rfl
  | _, _, .cons _ r => by rw [List.length_cons, List.length_cons, r.length]
theorem NdAll.get {K : PySem.W.Frag} {H : Hp} : ∀ {vs : List V} {ns : List (Option (Str × V))}, NdAll K H vs ns → ∀ {i : Nat} {v : V}, vs[i]? = some v → ∃ n, ns[i]? = some n ∧ NdV K H v n
  | _, _, .nil, i, v, h => by simp at h
  | _, _, .cons (v := x) (n := n) hp r, 0, v, h => by
    cases (show some x = some v from h)
    exact ⟨n, rfl, hp⟩
  | _, _, .cons hp r, i + 1, v, h => r.get (i := i) h
theorem NdAll.ku {K : PySem.W.Frag} {H H' : Hp} (k : Ku H H') : ∀ {vs : List V} {ns : List (Option (Str × V))}, NdAll K H vs ns → NdAll K H' vs ns
  | _, _, .nil => .nil
  | _, _, .cons h r => .cons (h.ku k) (r.ku k)
/-- whether values are the nodes of a promise, bounds aside -/
def okNs (nds : List (Option (Str × V))) : Bool := nds.all Option.isSome && dueGo 1 (nds.filterMap id)
theorem all_some {nds : List (Option (Str × V))} (h : nds.all Option.isSome = true) : ∃ ns : List (Str × V), nds = ns.map some := by
  induction nds with
  | nil => exact ⟨[], rfl⟩
  | cons n r ih =>
    rw [List.all_cons, Bool.and_eq_true] at h
    obtain ⟨ns, e⟩ := ih h.2
    cases n with
    | none => cases h.1
    | some x => exact ⟨x :: ns, by rw [e]; rfl⟩
theorem filterMap_some (ns : List (Str × V)) : (ns.map some).filterMap id = ns := by
  induction ns with
  | nil => rfl
  | cons a r ih =>
    show a :: _ = a :: r
    rw [show List.filterMap id (List.map some r) = r from ih]
theorem pairNd_some {a b : V} {n : Str × V} (h : pairNd a b = some n) : a = .str n.1 ∧ b = n.2 ∧ nodeAB n.1 n.2 = true := by
  unfold pairNd at h
  split at h
  · split at h
    · rename_i g
      cases h
      exact ⟨rfl, rfl, g⟩
    · cases h
  · cases h
theorem NdAll.nds {K : PySem.W.Frag} {H : Hp} : ∀ {vs : List V} {ns : List (Str × V)}, NdAll K H vs (ns.map some) → NdsAt K H vs ns ∧ GoodN ns
  | vs, [], h => by
    cases h
    exact ⟨.nil, fun _ h => nomatch h⟩
  | vs, n :: ns, h => by
    generalize e : (n :: ns).map some = m at h
    cases h with
    | nil => cases e
    | cons hv hr =>
      injection e with e1 e2
      subst e2
      obtain ⟨r1, r2⟩ := hr.nds
      cases hv with
      | other _ => cases e1
      | tup _ _ _ => cases e1
      | pair h a b =>
        obtain ⟨ea, eb, g⟩ := pairNd_some e1.symm
        subst ea eb
        exact ⟨.cons h r1, fun x hx => (List.mem_cons.mp hx).elim (fun e => by rw [e]; exact g) (r2 x)⟩
theorem countIn_mono {ws us : List Str} (h : ∀ k, ws.contains k = true → us.contains k = true) : ∀ ns : List (Str × V), countIn ws ns ≤ countIn us ns
  | [] => Nat.le_refl _
  | n :: ns => by
    have ih := countIn_mono h ns
    rw [show n :: ns = [(n.1, n.2)] ++ ns from rfl, countIn_app, countIn_app, countIn_one, countIn_one]
    by_cases c : ws.contains n.1 = true
    · rw [if_pos c, if_pos (h _ c)]
      omega
    · rw [if_neg c]
      omega
theorem choice_inner {k : Str} (h : choiceKinds.contains k = true) : nodeKinds.contains k = true := choice_node h
theorem due_inner : ∀ {ns : List (Str × V)} {l : Nat}, GoodN ns → dueGo l ns = true → 2 * countIn nodeKinds ns + l ≤ ns.length
  | [], l, _, h => by
    have h : decide (l = 0) = true := h
    have h := of_decide_eq_true h
    show 2 * 0 + l ≤ 0
    omega
  | n :: ns, 0, _, h => by cases h
  | n :: ns, l + 1, g, h => by
    have ih := due_inner (fun x hx => g x (List.mem_cons_of_mem _ hx)) (show dueGo (l + partsN n) ns = true from h)
    rw [show countIn nodeKinds (n :: ns) = countIn nodeKinds ([(n.1, n.2)] ++ ns) from rfl, countIn_app, countIn_one, List.length_cons]
    unfold partsN at ih
    by_cases c : nodeKinds.contains n.1 = true
    · rw [if_pos c] at ih ⊢
      obtain ⟨i, e, h2, h4⟩ := good_int (g n List.mem_cons_self) c
      rw [e] at ih
      have : (intOf (.int i)).toNat = i.toNat := rfl
      omega
    · rw [if_neg c] at ih ⊢
      omega
theorem not_due_of {nds : List (Option (Str × V))} {ns : List (Str × V)} (e : nds = ns.map some) : okNs nds = dueGo 1 ns := by
  subst e
  unfold okNs
  rw [filterMap_some, show (ns.map some).all Option.isSome = true from by rw [List.all_map]; exact List.all_eq_true.mpr fun _ _ => rfl, Bool.true_and]
theorem nodup_le : ∀ {ys us : List Str}, ys.Nodup → (∀ z ∈ ys, z ∈ us) → ys.length ≤ us.length
  | [], us, _, _ => Nat.zero_le _
  | a :: r, us, nd, h => by
    have ha := h a List.mem_cons_self
    obtain ⟨n1, n2⟩ := List.nodup_cons.mp nd
    have ih := nodup_le (us := us.erase a) n2 fun z hz => (List.mem_erase_of_ne (fun e => n1 (by rw [← e]; exact hz))).mpr (h z (List.mem_cons_of_mem _ hz))
    rw [List.length_erase_of_mem ha] at ih
    have := List.length_pos_of_mem ha
    rw [List.length_cons]
    omega
section
variable {P : Program} {w : World} {K : PySem.W.Frag} {mg : Str → Option Value} {base : Heap}
/-- the nodes of a value: none, where it is no tuple -/
inductive NodesV (K : PySem.W.Frag) (H : Hp) : V → List (Option (Str × V)) → Bool → Prop
  | other {v : V} : NoT H v → NodesV K H v [] false
  | tup {p : Addr} {xs : List V} {nds : List (Option (Str × V))} : SqT K H p xs → NdAll K H xs nds → NodesV K H (.ref p) nds (okNs nds)
theorem NodesV.ku {H H' : Hp} {v : V} {nds : List (Option (Str × V))} {b : Bool} (h : NodesV K H v nds b) (k : Ku H H') : NodesV K H' v nds b := by
  cases h with
  | other t => exact .other (t.ku k)
  | tup h n => exact .tup (k.tk.seq h) (n.ku k)
/-- few enough, and with few facts -/
structure Few (nds : List (Option (Str × V))) (b : Bool) : Prop where
  len : nds.length < 60
  short : nds.length ≤ 15 ∨ b = false
  facts : ∀ ns, nds = ns.map some → ∀ z ∈ factsN ns, z ∈ uni6
def spAre (K : PySem.W.Frag) : Sp := fun vs H Q _ => ∃ v nds b, vs = [v] ∧ NodesV K H v nds b ∧ Few nds b ∧ ∀ H', Same H H' → Q (.bl b) H'
theorem ok_are_nodes {fN fF fC fD f : Addr} {fdN fdF fdC fdD fd : FuncData} (F : Fun K "_are_nodes" "_are_nodes" s__are_nodes f fd) (T : Txt mg)
    (c40 : ∃ t, mg "MAX_NODES" = some (.int 40 t)) (c6 : ∃ t, mg "MAX_FACTS" = some (.int 6 t)) (c10 : ∃ t, mg "MAX_CHOICES" = some (.int 10 t)) (c8 : ∃ t, mg "MAX_DEPTH" = some (.int 8 t))
    (C_is_node : Cal P w K mg base 2 "is_node" fN fdN ["value"] (spIsNode K)) (C_facts_of : Cal P w K mg base 1 "facts_of" fF fdF ["nodes"] (spFacts K)) (C_choices_of : Cal P w K mg base 1 "choices_of" fC fdC ["nodes"] (spChoices K)) (C_depth_of : Cal P w K mg base 1 "depth_of" fD fdD ["nodes"] (spDepth K)) :
    FnOk P w K mg base CX0 3 f fd ["value"] (spAre K) := by
  obtain ⟨t40, e40⟩ := c40
  obtain ⟨t6, e6⟩ := c6
  obtain ⟨t10, e10⟩ := c10
  obtain ⟨t8, e8⟩ := c8
  refine F.ok sc__are_nodes (fun vs H Q E h => ?_) (fun cdv A outer s H vs Q E hr h => ?_)
  · obtain ⟨v, nds, b, rfl, _⟩ := h
    rfl
  · obtain ⟨v, nds, b, rfl, hv, few, q⟩ := h
    have hr1 := hr.mono (j := 1) (by omega)
    refine ⟨_, (pss_cons (ps_if (PW.pt (pw_or (pt_not (pt_val (pe_callB (isiQ (K := K) rfl) (by rfl) T.isinstance_ (by decide +kernel) (pa_cons (pv 0) (pa_cons (pe_bltn (v := .ty "tuple") (by rfl) T.tuple_ (by decide +kernel) rfl) pa_nil))))) (pw_or1 (pt_cmpR op_gt (pe_callB (lenQ (K := K) rfl) (by rfl) T.len_ (by decide +kernel) (pa_cons (pv 0) pa_nil)) (pe_glob (v := .int 40) rfl e40 ⟨_, rfl⟩) (nomark _)))))
  (pss_one (ps_ret pe_bl))
  pss_nil)
  (pss_cons (ps_if (pt_not (pt_val (pe_callB (allQ (K := K) rfl (by rfl)) (by rfl) T.all_ (by decide +kernel) (pa_cons (pe_lc (own := [("node", 1)]) (g := gName 1) (by rfl) sc__are_nodes.nd (pi_tup (pv 0)) (blkOk_by (by kernel_rfl)) (fun _ _ _ _ _ => (pg_name (i := 1) sc__are_nodes.nd rfl (.inl rfl))) (fun _ _ _ _ _ => pts_nil) (fun _ _ _ _ _ => (pe_call C_is_node.G hr (by rfl) C_is_node.m C_is_node.k C_is_node.b .nil pass0 (pa_cons (pv 1) pa_nil)))) pa_nil))))
  (pss_one (ps_ret pe_bl))
  pss_nil)
  (pss_cons (ps_if (PW.pt (pw_or (pt_cmpR op_gt (pe_callB (lenQ (K := K) rfl) (by rfl) T.len_ (by decide +kernel) (pa_cons (pe_call C_facts_of.G hr1 (by rfl) C_facts_of.m C_facts_of.k C_facts_of.b .nil pass0 (pa_cons (pv 0) pa_nil)) pa_nil)) (pe_glob (v := .int 6) rfl e6 ⟨_, rfl⟩) (nomark _)) (pw_or1 (pt_cmpR op_gt (pe_call C_choices_of.G hr1 (by rfl) C_choices_of.m C_choices_of.k C_choices_of.b .nil pass0 (pa_cons (pv 0) pa_nil)) (pe_glob (v := .int 10) rfl e10 ⟨_, rfl⟩) (nomark _)))))
  (pss_one (ps_ret pe_bl))
  pss_nil)
  (pss_one (ps_ret (pe_chain op_le op_le pe_int (pe_call C_depth_of.G hr1 (by rfl) C_depth_of.m C_depth_of.k C_depth_of.b .nil pass0 (pa_cons (pv 0) pa_nil)) (pe_glob (v := .int 8) rfl e8 ⟨_, rfl⟩))))))), ?_⟩
    cases hv with
    | other hno =>
      obtain ⟨u, ty, hk⟩ := hno.ty (K := K)
      exact ⟨_, rfl, v, .ty "tuple", _, .type "tuple", false, rfl, .ty _, ty, hk, _, rfl, iteT (q _ (Same.refl H))⟩
    | tup hs hn =>
      rename_i p xs
      have hlen := hn.length
      have hx60 := few.len
      refine ⟨_, rfl, .ref p, .ty "tuple", _, .type "tuple", true, rfl, .ty _, ty_tup hs, kitTT, _, rfl, iteF ⟨_, rfl, .inl ⟨p, xs, rfl, .inr hs, _, 40, rfl, rfl, _, rfl, ite2 (fun h => ?_) (fun h => ?_)⟩⟩⟩
      · have h : (40 : Int) < xs.length := of_decide_eq_true h
        have eb : okNs nds = false := few.short.resolve_left (by omega)
        have q' := q _ (Same.refl H)
        rw [eb] at q'
        exact q'
      refine ⟨_, rfl, p, rfl, ⟨xs, hs⟩, fun D nD => ?_⟩
      have s1 : Same H (upd H D (.lst [])) := same_new nD
      refine lcT (K := K) (a := p) (xs := xs) (fun j acc H2 => Same H H2 ∧ acc = ((nds.take j).map Option.isSome).map V.bl) ⟨s1, rfl⟩ (fun j acc H2 h => (stk h.1).seq hs) ?_ ?_
      · rintro j x acc H2 hx hl e ⟨s2, ea⟩
        obtain ⟨n, en, hnd⟩ := hn.get hx
        have hj : j < 60 := by
          have := (List.getElem?_eq_some_iff.mp hx).1
          omega
        refine yesT ⟨_, rfl, x, n, rfl, hnd.ku (ku_same s2), fun H3 s3 => ?_⟩
        refine LcK.mk hl (by omega) (s3 _ _ e) ⟨fun b o eb => ?_, ?_⟩
        · rw [upd_ne (ne_of_none eb nD)]
          exact s3 _ _ (s2 b o eb)
        · rw [ea, take_succ' en, List.map_append, List.map_append]
          rfl
      · rintro acc H2 hl e ⟨s2, ea⟩
        refine ⟨D, _, rfl, SqL.of (e.trans (by rw [ea])), ?_⟩
        rw [hlen, List.take_length, List.all_map]
        cases ha : nds.all (id ∘ Option.isSome) with
        | false =>
          refine ⟨_, rfl, iteT ?_⟩
          have q' := q _ s2
          have eb : okNs nds = false := by
            unfold okNs
            rw [show nds.all Option.isSome = false from ha, Bool.false_and]
          rw [eb] at q'
          exact q'
        | true =>
          obtain ⟨ns, en⟩ := all_some ha
          have hok := not_due_of en
          rw [hok] at few q
          subst en
          obtain ⟨N, hg⟩ := hn.nds
          have hnl := N.length
          refine ⟨_, rfl, iteF ?_⟩
          refine ⟨_, rfl, p, xs, ns, rfl, (stk s2).seq hs, N.tk (stk s2), hg, by omega, fun ys p3 H3 s3 n3 e3 nd so mem => ?_⟩
          have hys : ys.length ≤ 6 := nodup_le nd fun z hz => few.facts ns rfl z ((mem z).mp hz)
          have s4 := s2.trans s3
          refine .inl ⟨p3, _, rfl, .inr (SqT.of e3), _, 6, rfl, rfl, _, rfl, ?_⟩
          rw [List.length_map, decide_eq_false (by omega)]
          refine iteF ?_
          refine ⟨_, rfl, p, xs, ns, rfl, (stk s4).seq hs, N.tk (stk s4), by omega, fun H5 s5 => ?_⟩
          have s6 := s4.trans s5
          have hc := countIn_mono (fun k h => choice_inner (k := k) h) ns
          have hdi := due_inner (l := 1) hg
          have hlen2 : xs.length = ns.length := hnl
          have hl3 : (ns.map some).length = ns.length := List.length_map ..
          have hsh := few.short
          rw [hl3] at hsh
          refine ⟨_, 10, rfl, rfl, _, rfl, ite2 (fun h => ?_) (fun h => ?_)⟩
          · have h : (10 : Int) < countIn choiceKinds ns := of_decide_eq_true h
            have eb : dueGo 1 ns = false := by
              cases e : dueGo 1 ns with
              | false => rfl
              | true =>
                have := hdi e
                rcases hsh with h15 | h15
                · omega
                · rw [e] at h15
                  cases h15
            have q' := q _ s6
            rw [eb] at q'
            exact q'
          refine ⟨_, rfl, p, xs, ns, rfl, (stk s6).seq hs, N.tk (stk s6), hg, by omega, fun dd H7 s7 d1 d2 => ?_⟩
          have q' := q _ (s6.trans s7)
          refine ⟨1, dd, rfl, rfl, _, rfl, ?_⟩
          cases e : dueGo 1 ns with
          | false =>
            rw [e] at q'
            rw [decide_eq_false (fun z => by have := d1.mp z; rw [e] at this; cases this)]
            exact iteF q'
          | true =>
            rw [e] at q'
            rw [decide_eq_true (d1.mpr e)]
            refine iteT ⟨dd, 8, rfl, rfl, ?_⟩
            have := hdi e
            have h8 : dd ≤ 8 := by
              rcases hsh with h15 | h15
              · omega
              · rw [e] at h15
                cases h15
            show Q (.bl (decide (dd ≤ 8))) H7
            rw [decide_eq_true h8]
            exact q'
end
end Eh

set_option Elab.async false
set_option linter.all false
set_option maxRecDepth 100000
namespace Eh
open PySem PySem.Spec PyProof.Rows L2
/-! ### own classes: made within a try, and their len -/
section
variable {X : Cx} {CX : CXT} {k : Nat} {f C : Addr} {fd : FuncData} {ps : List Str} {sp : Sp} {E : L2.St → XK} {x m : Str} {p pos apos : Pos} {e o : Expr} {es : List Expr} {ta : TE} {t : TA}
theorem run_makeS {pins : List (Addr × Obj)} {σ : L2.St} {H : Hp} {s : Shared} {Q : VK} {us : List Value} {vs : List V} (M : Mk X.K C f) (F : FnOk X.prog X.w X.K X.mg X.base CX k f fd ps sp) (hr : Room (k + 1) X.A) (hb : Binds X.K fd ps [])
    (hx : PassesAt CX X σ (E σ)) (I : Inv X pins σ H s) (r : Vals vs us)
    (h : ∀ x dx, H x = none → H dx = none → dx ≠ x → sp (.ref x :: vs) (upd (upd H dx (.own x)) x (.ins C dx [])) (fun v H2 => v = .non ∧ Q (.ref x) H2) (E σ)) :
    wpAny (model X.prog X.w) X.A (call (.ref C) us) (EP X pins σ Q) X.xe s := by
  have hq := h (s.heap.objs.size + 1) s.heap.objs.size (I.hok.fresh (Nat.le_succ _)) (I.hok.fresh (Nat.le_refl _)) (Nat.ne_of_lt (Nat.lt_succ_self _))
  have I2 := Inv.made (C := C) I
  have r2 : Vals (V.ref (s.heap.objs.size + 1) :: vs) (Value.ref (s.heap.objs.size + 1) :: us) := .cons rfl r
  have hl : (Value.ref (s.heap.objs.size + 1) :: us).length = ps.length := by
    have e := r2.length
    rw [F.len _ _ _ _ hq] at e
    exact e.symm
  have b := hb _ (Value.ref (s.heap.objs.size + 1) :: us) I2.kIn (by rw [List.append_nil]; exact hl)
  rw [List.append_nil] at b
  refine wpAny_call (make_map (f := f) I.kIn M.makes M.init (beq_iff_eq.mp M.fn) (codeAny_mono (F.run _ X.stack _ _ ⟨Value.ref (s.heap.objs.size + 1) :: us, []⟩ (Value.ref (s.heap.objs.size + 1) :: us) _ _ (E σ) (hr.make C us [])
    (I2.env0.make C us []) b r2 hq) fun r s' hq' => ?_))
  cases r with
  | error e => exact hx pins _ _ e s' I2 hq'
  | ok fl =>
    cases fl with
    | ret u =>
      obtain ⟨v, H', I3, rv, ev, q3⟩ := I2.after hq'
      subst ev
      exact ⟨rv, ⟨V.ref (s.heap.objs.size + 1), H', I3, rfl, q3⟩⟩
    | next => exact False.elim hq'
    | brk => exact False.elim hq'
    | cont => exact False.elim hq'
/-- C(e, ..), within a try -/
def tMakeS (C : Addr) (sp : Sp) (E : L2.St → XK) (t : TA) : TE := fun σ H Q => t σ H fun vs H1 => ∀ x dx, H1 x = none → H1 dx = none → dx ≠ x → sp (.ref x :: vs) (upd (upd H1 dx (.own x)) x (.ins C dx [])) (fun v H2 => v = .non ∧ Q (.ref x) H2) (E σ)
theorem pe_makeS (M : Mk X.K C f) (F : FnOk X.prog X.w X.K X.mg X.base CX k f fd ps sp) (hr : Room (k + 1) X.A) (hg : Gl X x) (hm : X.mg x = some (.ref C)) (hb : Binds X.K fd ps []) (hx : ∀ σ, PassesAt CX X σ (E σ))
    (ha : PA X (e :: es) t) (hdb : (x == ("__debug__" : Str)) = false := by decide) (he : starEach (e :: es) X.env = (false, eval e X.env) :: starEach es X.env := by rfl) (hpl : (backTo pos (starEach es X.env)).any (·.1) = false := by rfl) :
    PE X (.Call (.Name x p) (e :: es) [] pos) (tMakeS C sp E t) := by
  refine ⟨fun pins s σ H Q I h => ?_⟩
  refine wpAny_Call_Name_kw (ld_glob I hg hm ?_ hdb)
  refine PySem.W.callWith_K (h₀ := X.base) I.ok.mod.kin M.kp (thn (ha.run pos pins s σ H _ I h) fun us s1 ⟨vs, H1, I1, r, q⟩ => ⟨I1.kIn, ?_⟩) he hpl
  exact run_makeS M F hr hb (hx σ) I1 r q
def rLenOwn (C : Addr) (sp : Sp) : List V → Hp → VK → Prop := fun xs H Q => ∃ a dx fs, xs = [V.ref a] ∧ H a = some (.ins C dx fs) ∧ sp [.ref a] H (fun v H' => ∃ n : Int, v = .int n ∧ 0 ≤ n ∧ n < 2 ^ 63 ∧ Q (.int n) H') E0
theorem lenOwn (F : FnOk X.prog X.w X.K X.mg X.base CX0 k f fd ["self"] sp) (hr : Room (k + 1) X.A) (hl : PySem.W.findIn X.K (.ref C) "__len__" = some (some (.ref f))) (hf : PySem.W.isFn X.K (.ref f) = true) (hb : Binds X.K fd ["self"] []) :
    CallR X (.builtin "len") (rLenOwn C sp) := by
  intro pins s σ H xs us Q I r h
  obtain ⟨a, dx, fs, rfl, ha, q⟩ := h
  rw [Vals.ref1 r]
  obtain ⟨mA, J, _⟩ := ins_get I.hok ha
  obtain ⟨od, J, _⟩ := J.look
  obtain ⟨m, hF⟩ := I.fr
  have b := hb s [.ref a] I.kIn rfl
  refine PySem.W.len_K hF I.ok.mod.kin J hl hf ?_
  refine wpAny_call (codeAny_mono (F.run X.A.in1 X.stack s H ⟨[.ref a], []⟩ [.ref a] [.ref a] _ E0 hr.in1 I.env0.in1 b (.cons rfl .nil) q) fun r s' hq => ?_)
  cases r with
  | error e => exact False.elim hq
  | ok fl =>
    cases fl with
    | ret u =>
      obtain ⟨v, H', I', rv, n, rfl, h0, h1, q'⟩ := I.after hq
      obtain ⟨t, rfl⟩ := rv
      exact ⟨⟨h0, h1⟩, .int n, H', I'.tok _, ⟨_, rfl⟩, q'⟩
    | next => exact False.elim hq
    | brk => exact False.elim hq
    | cont => exact False.elim hq
end
end Eh

set_option Elab.async false
set_option linter.all false
set_option maxRecDepth 100000
namespace Eh
open PySem PySem.Spec PyProof.Rows L2
/-- what it takes to raise and to catch an own error without an __init__ -/
structure ErrC (K : PySem.W.Frag) (mg : Str → Option Value) (x : Str) (C : Addr) : Prop where
  g : mg x = some (.ref C)
  q : PySem.W.excIn K C [.type "ValueError", .type "Exception", .type "BaseException", .type "object"] "ValueError.__new__" = true
  k : PySem.W.keepIn K (.ref C) = true
  b : PySem.W.subIn K (.ref C) (.type "BaseException") = some true
  t : PySem.W.typeIn K (.ref C) = some (.type "type")
  e : PySem.W.exmOne K (.ref C) (.ref C) = some true
/-- the class Promise -/
structure PromC (K : PySem.W.Frag) (mg : Str → Option Value) (C fI fL : Addr) : Prop where
  g : mg "Promise" = some (.ref C)
  mkC : Mk K C fI
  cl : Cls K C
  nn : NoAttr K C "_nodes"
  ln : PySem.W.findIn K (.ref C) "__len__" = some (some (.ref fL))
  lf : PySem.W.isFn K (.ref fL) = true
section
variable {P : Program} {w : World} {K : PySem.W.Frag} {mg : Str → Option Value} {base : Heap}
/-- what stands stays, but the new object at x -/
def But (x : Addr) (H H' : Hp) : Prop := ∀ b o, b ≠ x → H b = some o → H' b = some o
def spInit (K : PySem.W.Frag) (C CE : Addr) : Sp := fun vs H Q E => ∃ x dx v nds b, vs = [.ref x, v] ∧ H x = some (.ins C dx []) ∧ NodesV K H v nds b ∧ Few nds b ∧
  (b = true → ∀ H', But x H H' → H' x = some (.ins C dx [(("_nodes" : Str), v)]) → Q .non H') ∧ (b = false → ∀ H', Same H H' → E (.ref CE) none H')
theorem ok_init {C fL CE fA f : Addr} {fdA fd : FuncData} (F : Fun K "__init__" "Promise.__init__" s_Promise___init__ f fd) (T : Txt mg) (R : ErrC K mg "InvalidPromise" CE) (PC : PromC K mg C f fL)
    (C__are_nodes : Cal P w K mg base 3 "_are_nodes" fA fdA ["value"] (spAre K)) : FnOk P w K mg base (L2.CX P w) 4 f fd ["self", "nodes"] (spInit K C CE) := by
  refine F.okX sc_Promise___init__ (fun vs H Q E h => ?_) (fun cdv A outer s H vs Q E hr h => ?_)
  · obtain ⟨x, dx, v, nds, b, rfl, _⟩ := h
    rfl
  · obtain ⟨x, dx, v, nds, b, rfl, ex, hv, few, q1, q2⟩ := h
    refine ⟨_, (pss_cons (ps_if (pt_not (pt_val (pe_call C__are_nodes.G hr (by rfl) C__are_nodes.m C__are_nodes.k C__are_nodes.b .nil pass0 (pa_cons (pv 1) pa_nil))))
      (pss_one (ps_raise rfl (takes_of rfl rfl rfl rfl) (pmk_own PySem.F.excBase_ValueError R.q R.g R.k (raises_own R.b R.t) rfl))) pss_nil)
      (pss_one (ps_fld (pv 0) (pv 1) rfl))), ?_⟩
    refine ⟨_, rfl, v, nds, b, rfl, hv, few, fun H1 s1 => ⟨_, rfl, ?_⟩⟩
    cases b with
    | false => exact iteT (q2 rfl H1 s1)
    | true =>
      refine iteF ?_
      refine ⟨_, rfl, _, rfl, x, C, dx, [], rfl, s1 _ _ ex, PC.cl, PC.nn, by decide, ?_⟩
      exact q1 rfl _ (fun b o n e => by rw [upd_ne n]; exact s1 b o e) upd_same
def spLen (K : PySem.W.Frag) (C : Addr) : Sp := fun vs H Q _ => ∃ x dx fs p xs, vs = [.ref x] ∧ H x = some (.ins C dx fs) ∧ fs.lookup ("_nodes" : Str) = some (.ref p) ∧ SqT K H p xs ∧ Q (.int xs.length) H
theorem ok_len {C fI f : Addr} {fd : FuncData} (F : Fun K "__len__" "Promise.__len__" s_Promise___len__ f fd) (T : Txt mg) (PC : PromC K mg C fI f) : FnOk P w K mg base CX0 1 f fd ["self"] (spLen K C) := by
  refine F.ok sc_Promise___len__ (fun vs H Q E h => ?_) (fun cdv A outer s H vs Q E hr h => ?_)
  · obtain ⟨x, dx, fs, p, xs, rfl, _⟩ := h
    rfl
  · obtain ⟨x, dx, fs, p, xs, rfl, ex, hl, hs, q⟩ := h
    refine ⟨_, (pss_one (ps_ret (pe_callB (lenQ (K := K) rfl) (by rfl) T.len_ (by decide +kernel) (pa_cons (pe_fld (pv 0) rfl) pa_nil)))), ?_⟩
    exact ⟨_, rfl, x, C, dx, fs, .ref p, rfl, ex, PC.cl, PC.nn, hl, .inl ⟨p, xs, rfl, .inr hs, q⟩⟩
end
end Eh

set_option Elab.async false
set_option linter.all false
set_option maxRecDepth 100000
namespace Eh
open PySem PySem.Spec PyProof.Rows L2
/-! ### own rules: is not True, a sequence == the empty one -/
section
variable {X : Cx}
def rNotBV : R2 := fun x y H Q => ∃ b, y = .bl b ∧ ((∃ i, x = .int i ∧ Q (.bl true) H) ∨ ∃ a, x = .bl a ∧ Q (.bl (!decide (a = b))) H)
theorem op_notBV : OpR X (compareOp .IsNot) rNotBV := by
  intro pins s σ H x y v u Q I rx ry h
  obtain ⟨b, rfl, h⟩ := h
  rcases h with ⟨i, rfl, q⟩ | ⟨a, rfl, q⟩
  · obtain ⟨t, rfl⟩ := rx
    cases (show u = Value.bool b from ry)
    exact wpAny_isNot_other rfl (fun z => by cases z) ⟨.bl true, H, I, rfl, q⟩
  · exact op_notBl pins s σ H _ _ v u Q I rx ry ⟨a, b, rfl, rfl, q⟩
def rEqE (K : PySem.W.Frag) : R2 := fun x y H Q => ∃ p q xs, x = .ref p ∧ y = .ref q ∧ SqT K H p xs ∧ SqT K H q [] ∧ Q (.bl (decide (xs.length = 0))) H
theorem eqE {K : PySem.W.Frag} (h : X.K = K) (hu : X.A.units < cLine) : OpR X (compareOp .Eq) (rEqE K) := by
  subst h
  intro pins s σ H x y v u Q I rx ry h
  obtain ⟨p, q, xs, rfl, rfl, hp, hq, hQ⟩ := h
  cases rx
  cases ry
  obtain ⟨its, r, pl, hz⟩ := I.tuple hp
  obtain ⟨its2, r2, pl2, hz2⟩ := I.tuple hq
  cases r2
  have hl := r.length
  refine SeqAt.RcAt.tuples (e := fun _ => true) pl pl2 hu (fun j h1 h2 => absurd h2 (Nat.not_lt_zero _)) X.prog X.w _ _ ⟨.bl _, H, I, rfl, ?_⟩
  have e : ((List.range (min its.toArray.size (#[] : Array Value).size)).all (fun _ => true) && its.toArray.size == (#[] : Array Value).size) = decide (xs.length = 0) := by
    show ((List.range (min its.toArray.size 0)).all (fun _ => true) && its.toArray.size == 0) = _
    rw [Nat.min_zero]
    show (its.toArray.size == 0) = _
    rw [List.size_toArray, ← hl]
    rfl
  rw [e]
  exact hQ
def rEqEL (K : PySem.W.Frag) : R2 := fun x y H Q => ∃ p q xs, x = .ref p ∧ y = .ref q ∧ SqL K H p xs ∧ SqL K H q [] ∧ Q (.bl (decide (xs.length = 0))) H
theorem eqEL {K : PySem.W.Frag} (h : X.K = K) (hu : X.A.units < cLine) : OpR X (compareOp .Eq) (rEqEL K) := by
  subst h
  intro pins s σ H x y v u Q I rx ry h
  obtain ⟨p, q, xs, rfl, rfl, hp, hq, hQ⟩ := h
  cases rx
  cases ry
  obtain ⟨its, r, pl, hz⟩ := I.list hp
  obtain ⟨its2, r2, pl2, hz2⟩ := I.list hq
  cases r2
  have hl := r.length
  by_cases e : xs.length = 0
  · rw [decide_eq_true e] at hQ
    have hs : its.toArray.size = 0 := by rw [List.size_toArray, ← hl, e]
    refine SeqAt.RcAt.lists (e := fun _ => true) pl.isList pl2.isList hs hu (fun j h1 h2 => absurd h2 (Nat.not_lt_zero _)) X.prog X.w _ _ ⟨.bl _, H, I, rfl, ?_⟩
    rw [hs]
    exact hQ
  · rw [decide_eq_false e] at hQ
    have hs : its.toArray.size ≠ 0 := by rw [List.size_toArray, ← hl]; exact e
    exact SeqAt.RcAt.lists_lengths pl.isList pl2.isList (by show (its.toArray.size != 0) = true; exact bne_iff_ne.mpr hs) hu X.prog X.w _ _ ⟨.bl _, H, I, rfl, hQ⟩
end
end Eh

set_option Elab.async false
set_option linter.all false
set_option maxRecDepth 100000
namespace Eh
open PySem PySem.Spec PyProof.Rows L2
def ascB (z : Str) : Bool := decide (z.length < 1000000) && z.cps.toList.all fun c => decide (c < 128)
theorem asc_of {z : Str} (h : ascB z = true) : Asc z := by
  unfold ascB at h
  rw [Bool.and_eq_true] at h
  exact ⟨of_decide_eq_true h.1, fun c hc => of_decide_eq_true (List.all_eq_true.mp h.2 c hc)⟩
theorem eltS {K : PySem.W.Frag} {H : Hp} (z : Str) (h : ascB z = true) : Elt K H (.str z) := .inl ⟨z, rfl, asc_of h⟩
theorem eltI {K : PySem.W.Frag} {H : Hp} (i : Int) : Elt K H (.int i) := .inr (.inl ⟨i, rfl⟩)
theorem eltB {K : PySem.W.Frag} {H : Hp} (b : Bool) : Elt K H (.bl b) := .inr (.inr (.inl ⟨b, rfl⟩))
theorem eltN {K : PySem.W.Frag} {H : Hp} : Elt K H .non := .inr (.inr (.inr (.inl rfl)))
theorem eltT {K : PySem.W.Frag} {H : Hp} {a : Addr} {xs : List V} (h : SqT K H a xs) : Elt K H (.ref a) := .inr (.inr (.inr (.inr ⟨a, xs, rfl, h⟩)))
def ToldOk (K : PySem.W.Frag) (H : Hp) (b : V) : Prop := Elt K H b ∧ ∀ z, b = .str z → factS z = true → z ∈ uni6
theorem ToldOk.tk {K : PySem.W.Frag} {H H' : Hp} {b : V} (h : ToldOk K H b) (t : Tk H H') : ToldOk K H' b := ⟨h.1.tk t, h.2⟩
theorem toldS {K : PySem.W.Frag} {H : Hp} (z : Str) (h : ascB z = true) (k : (!factS z || uni6.contains z) = true) : ToldOk K H (.str z) := ⟨eltS z h, fun y e f => by
  cases e
  rw [f] at k
  exact List.contains_iff_mem.mp k⟩
theorem toldE {K : PySem.W.Frag} {H : Hp} {b : V} (h : Elt K H b) (n : ∀ z, b ≠ .str z) : ToldOk K H b := ⟨h, fun z e => absurd e (n z)⟩
/-- its told fact, if it is a node of one, is among six -/
def FactOk (n : Option (Str × V)) : Prop := ∀ k z, n = some (k, .str z) → z ∈ uni6
def BNode (K : PySem.W.Frag) (H : Hp) (v : V) : Prop := ∃ n, NdV K H v n ∧ FactOk n
theorem BNode.ku {K : PySem.W.Frag} {H H' : Hp} {v : V} (h : BNode K H v) (k : Ku H H') : BNode K H' v := by
  obtain ⟨n, a, b⟩ := h
  exact ⟨n, a.ku k, b⟩
theorem node_str {k z : Str} (h : nodeAB k (.str z) = true) : factS z = true := by
  unfold nodeAB at h
  split at h
  · exact h
  · split at h
    · cases h
    · rw [Bool.and_eq_true] at h
      cases h.2
theorem pair_b {K : PySem.W.Frag} {H : Hp} {p : Addr} {a b : V} (h : SqT K H p [a, b]) (ea : Elt K H a) (tb : ToldOk K H b) : BNode K H (.ref p) :=
  ⟨_, .pair h ea tb.1, fun k z e => by
    obtain ⟨_, e2, g⟩ := pairNd_some e
    have e2 : b = .str z := e2
    exact tb.2 z e2 (node_str g)⟩
theorem none_b {K : PySem.W.Frag} {H : Hp} {v : V} (h : NdV K H v none) : BNode K H v := ⟨none, h, fun k z e => nomatch e⟩
theorem bn_new {K : PySem.W.Frag} {d t : Addr} {H : Hp} {a b : V} (D : D3 H d) (n : H t = none) (ea : Elt K H a) (tb : ToldOk K H b) : Gr d H (upd H t (.tup [a, b])) ∧ BNode K (upd H t (.tup [a, b])) (.ref t) :=
  ⟨.laid D n, pair_b (SqT.of upd_same) (ea.tk (Tk.new n)) (tb.tk (Tk.new n))⟩
def BAll (K : PySem.W.Frag) (H : Hp) (xs : List V) : Prop := ∀ v ∈ xs, BNode K H v
theorem BAll.ku {K : PySem.W.Frag} {H H' : Hp} {xs : List V} (h : BAll K H xs) (k : Ku H H') : BAll K H' xs := fun v hv => (h v hv).ku k
theorem BAll.nodes {K : PySem.W.Frag} {H : Hp} : ∀ {xs : List V}, BAll K H xs → ∃ nds, NdAll K H xs nds ∧ nds.length = xs.length ∧ ∀ n ∈ nds, FactOk n
  | [], _ => ⟨[], .nil, rfl, fun _ h => nomatch h⟩
  | v :: r, h => by
    obtain ⟨n, a, b⟩ := h v List.mem_cons_self
    obtain ⟨nds, c, e, f⟩ := BAll.nodes (xs := r) fun u hu => h u (List.mem_cons_of_mem _ hu)
    exact ⟨n :: nds, .cons a c, by rw [List.length_cons, List.length_cons, e], fun m hm => (List.mem_cons.mp hm).elim (fun e => by rw [e]; exact b) (f m)⟩
theorem facts_ok {nds : List (Option (Str × V))} (h : ∀ n ∈ nds, FactOk n) : ∀ ns : List (Str × V), nds = ns.map some → ∀ z ∈ factsN ns, z ∈ uni6 := fun ns e z hz => by
  unfold factsN at hz
  obtain ⟨⟨k, t⟩, hn, hf⟩ := List.mem_filterMap.mp hz
  have hm : some (k, t) ∈ nds := by rw [e]; exact List.mem_map_of_mem hn
  split at hf
  · cases t with
    | str y =>
      cases hf
      exact h _ hm k z rfl
    | _ => cases hf
  · cases hf
theorem few_of {nds : List (Option (Str × V))} (h : ∀ n ∈ nds, FactOk n) (l : nds.length ≤ 15) : Few nds (okNs nds) := ⟨by omega, .inl l, facts_ok h⟩
theorem cutA (xs : List V) (a : Nat) : cutV xs none (some (a : Int)) = xs.take a := by
  unfold cutV
  rw [HT.sIx_none, HT.sIx_nat, List.drop_zero, Nat.sub_zero]
  by_cases h : a ≤ xs.length
  · rw [Nat.min_eq_left h]
  · rw [Nat.min_eq_right (by omega), List.take_of_length_le (Nat.le_refl _), List.take_of_length_le (by omega)]
theorem cutB (xs : List V) (a : Nat) (h : a ≤ xs.length) : cutV xs (some (a : Int)) none = xs.drop a := by
  unfold cutV
  rw [HT.sIx_none, HT.sIx_nat, Nat.min_eq_left h]
  exact List.take_of_length_le (by rw [List.length_drop]; exact Nat.le_refl _)
theorem ixN_nat {n a : Nat} (h : a < n) : ixN n (a : Int) = some a := by
  unfold ixN
  rw [if_pos (by omega), if_pos (by omega), Int.toNat_natCast]
theorem asc_uni {z : Str} (h : z ∈ uni6) : ascB z = true := by
  unfold uni6 at h
  simp only [List.mem_cons, List.not_mem_nil, or_false] at h
  rcases h with rfl | rfl | rfl | rfl | rfl | rfl <;> decide +kernel
theorem asc_kind {k : Str} {t : V} (h : nodeAB k t = true) : ascB k = true := by
  unfold nodeAB at h
  by_cases h1 : factKinds.contains k = true
  · unfold factKinds at h1
    rw [List.contains_iff_mem] at h1
    simp only [List.mem_cons, List.not_mem_nil, or_false] at h1
    rcases h1 with rfl | rfl <;> decide +kernel
  · rw [if_neg h1] at h
    by_cases h2 : sureKinds.contains k = true
    · unfold sureKinds at h2
      rw [List.contains_iff_mem] at h2
      simp only [List.mem_cons, List.not_mem_nil, or_false] at h2
      rcases h2 with rfl | rfl <;> decide +kernel
    · rw [if_neg h2, Bool.and_eq_true] at h
      rcases node_cases h.1 with rfl | rfl | rfl | rfl <;> decide +kernel
/-- a node of a promise, as it stands -/
theorem good_elt {K : PySem.W.Frag} {H : Hp} {k : Str} {t : V} (h : nodeAB k t = true) (hu : ∀ z, t = .str z → z ∈ uni6) : Elt K H (.str k) ∧ ToldOk K H t := by
  refine ⟨eltS k (asc_kind h), ?_⟩
  cases t with
  | str z => exact ⟨eltS z (asc_uni (hu z rfl)), fun y e _ => hu y e⟩
  | int i => exact toldE (eltI i) fun z e => nomatch e
  | bl b => exact toldE (eltB b) fun z e => nomatch e
  | non => exact toldE eltN fun z e => nomatch e
  | _ =>
    exfalso
    unfold nodeAB at h
    split at h
    · cases h
    · split at h
      · cases h
      · rw [Bool.and_eq_true] at h
        cases h.2
theorem nds_b {K : PySem.W.Frag} {H : Hp} {xs : List V} {ns : List (Str × V)} (h : NdsAt K H xs ns) (g : GoodN ns) (w : InW uni6 ns) : BAll K H xs := fun v hv => by
  obtain ⟨i, hi⟩ := List.mem_iff_getElem?.mp hv
  obtain ⟨a, k, t, rfl, hk, ha⟩ := h.get hi
  have hm := List.mem_of_getElem? hk
  obtain ⟨e1, e2⟩ := good_elt (K := K) (H := H) (g _ hm) fun z e => w k z (by rw [← e]; exact hm)
  exact pair_b ha e1 e2
end Eh

set_option Elab.async false
set_option linter.all false
set_option maxRecDepth 100000
set_option maxHeartbeats 4000000
namespace Eh
open PySem PySem.Spec PyProof.Rows L2
theorem fact_uni {z : Str} (h : z ∈ uni6) : factS z = true := by
  unfold uni6 at h
  simp only [List.mem_cons, List.not_mem_nil, or_false] at h
  rcases h with rfl | rfl | rfl | rfl | rfl | rfl <;> decide +kernel
theorem leaf_good {k : Str} {t : V} (o : leafOk k t = true) (w : ∀ z, t = .str z → z ∈ uni6) : nodeAB k t = true ∧ partsN (k, t) = 0 := by
  unfold leafOk at o
  cases t with
  | str z =>
    have hz : factV (.str z) = true := fact_uni (w z rfl)
    rcases (Bool.or_eq_true _ _).mp o with h | h
    · rw [eq_of_beq h]
      exact ⟨by unfold nodeAB; rw [if_pos (by decide +kernel)]; exact hz, by unfold partsN; rw [if_neg (show ¬ nodeKinds.contains "fact" = true by decide +kernel)]⟩
    · rw [eq_of_beq h]
      exact ⟨by unfold nodeAB; rw [if_pos (by decide +kernel)]; exact hz, by unfold partsN; rw [if_neg (show ¬ nodeKinds.contains "not" = true by decide +kernel)]⟩
  | int i =>
    obtain ⟨h, h0⟩ := (Bool.and_eq_true _ _).mp o
    have h0 : i = 0 := of_decide_eq_true h0
    subst h0
    rcases (Bool.or_eq_true _ _).mp h with h | h
    · rw [eq_of_beq h]
      exact ⟨by decide +kernel, by decide +kernel⟩
    · rw [eq_of_beq h]
      exact ⟨by decide +kernel, by decide +kernel⟩
  | _ => cases o
theorem InW.left {ws : List Str} {a b : List (Str × V)} (h : InW ws (a ++ b)) : InW ws a := fun k z m => h k z (List.mem_append_left _ m)
theorem InW.right {ws : List Str} {a b : List (Str × V)} (h : InW ws (a ++ b)) : InW ws b := fun k z m => h k z (List.mem_append_right _ m)
mutual
theorem At.due {K : PySem.W.Frag} {H : Hp} : ∀ {v : V} {p : Pl}, At K H v p → InW uni6 (nodesOf p) → (∀ l rest, dueGo (l + 1) (nodesOf p ++ rest) = dueGo l rest) ∧ GoodN (nodesOf p)
  | _, _, .leaf (k := k) (t := t) h o, w => by
    rw [nodesOf] at w ⊢
    obtain ⟨g1, g2⟩ := leaf_good o fun z e => w k z (by rw [e]; exact List.mem_cons_self)
    refine ⟨fun l rest => ?_, fun n hn => ?_⟩
    · show dueGo (l + partsN (k, t)) rest = _
      rw [g2]
      rfl
    · rw [List.mem_singleton.mp hn]
      exact g1
  | _, _, .node (k := k) (ps := ps) h1 h2 o a b r, w => by
    rw [nodesOf] at w ⊢
    obtain ⟨g1, g2⟩ := AtAll.due r fun x z m => w x z (List.mem_cons_of_mem _ m)
    refine ⟨fun l rest => ?_, fun n hn => ?_⟩
    · show dueGo (l + partsN (k, .int (ps.length : Int))) (nodesAll ps ++ rest) = _
      have e : partsN (k, .int (ps.length : Int)) = ps.length := by
        unfold partsN
        rw [if_pos (show nodeKinds.contains k = true from o)]
        exact Int.toNat_natCast _
      rw [e]
      exact g1 l rest
    · rcases List.mem_cons.mp hn with e | e
      · rw [e]
        unfold nodeAB
        have f := node_not_fact (k := k) o
        rw [f.1, f.2, show nodeKinds.contains k = true from o]
        show (true && (decide ((2 : Int) ≤ ps.length) && decide ((ps.length : Int) ≤ 4))) = true
        rw [decide_eq_true (by omega), decide_eq_true (by omega)]
        rfl
      · exact g2 n e
theorem AtAll.due {K : PySem.W.Frag} {H : Hp} : ∀ {vs : List V} {ps : List Pl}, AtAll K H vs ps → InW uni6 (nodesAll ps) → (∀ l rest, dueGo (l + ps.length) (nodesAll ps ++ rest) = dueGo l rest) ∧ GoodN (nodesAll ps)
  | _, _, .nil, w => by
    rw [nodesAll]
    exact ⟨fun l rest => rfl, fun n h => nomatch h⟩
  | _, _, .cons (p := p) (ps := ps) h r, w => by
    rw [nodesAll] at w ⊢
    obtain ⟨a1, a2⟩ := At.due h w.left
    obtain ⟨b1, b2⟩ := AtAll.due r w.right
    refine ⟨fun l rest => ?_, fun n hn => (List.mem_append.mp hn).elim (a2 n) (b2 n)⟩
    rw [List.append_assoc, List.length_cons, show l + (ps.length + 1) = (l + ps.length) + 1 from rfl, a1, b1]
end
theorem nds_all {K : PySem.W.Frag} {H : Hp} : ∀ {xs : List V} {ns : List (Str × V)}, NdsAt K H xs ns → GoodN ns → InW uni6 ns → NdAll K H xs (ns.map some)
  | _, _, .nil, _, _ => .nil
  | _, _, .cons (k := k) (t := t) (ns := ns) h r, g, w => by
    have hg := g _ List.mem_cons_self
    obtain ⟨e1, e2⟩ := good_elt (K := K) (H := H) hg fun z e => w k z (by rw [show t = V.str z from e]; exact List.mem_cons_self)
    have e : pairNd (.str k) t = some (k, t) := by
      show (if nodeAB k t = true then some (k, t) else none) = _
      rw [if_pos hg]
    have p := NdV.pair h e1 e2.1
    rw [e] at p
    exact .cons p (nds_all r (fun n hn => g n (List.mem_cons_of_mem _ hn)) fun x z m => w x z (List.mem_cons_of_mem _ m))
theorem NdAll.app {K : PySem.W.Frag} {H : Hp} : ∀ {xs ys : List V} {a b : List (Option (Str × V))}, NdAll K H xs a → NdAll K H ys b → NdAll K H (xs ++ ys) (a ++ b)
  | _, _, _, _, .nil, h => h
  | _, _, _, _, .cons x r, h => .cons x (r.app h)
theorem fact_some {ns : List (Str × V)} (w : InW uni6 ns) : ∀ n ∈ ns.map some, FactOk n := fun n hn k z e => by
  obtain ⟨x, hx, rfl⟩ := List.mem_map.mp hn
  cases e
  exact w k z hx
/-- a value that is no promise's nodes -/
def Odd (K : PySem.W.Frag) (H : Hp) (v : V) : Prop := ∃ nds, NodesV K H v nds false ∧ Few nds false
theorem Odd.ku {K : PySem.W.Frag} {H H' : Hp} {v : V} (h : Odd K H v) (k : Ku H H') : Odd K H' v := by
  obtain ⟨nds, a, b⟩ := h
  exact ⟨nds, a.ku k, b⟩
theorem odd_no {K : PySem.W.Frag} {H : Hp} {v : V} (h : NoT H v) : Odd K H v := ⟨[], .other h, by decide, .inr rfl, fun ns e z hz => by
  have e : ns = [] := List.map_eq_nil_iff.mp e.symm
  rw [e] at hz
  cases hz⟩
theorem odd_tup {K : PySem.W.Frag} {H : Hp} {p : Addr} {xs : List V} {nds : List (Option (Str × V))} (h : SqT K H p xs) (n : NdAll K H xs nds) (e : okNs nds = false) (l : nds.length < 60) (f : ∀ n ∈ nds, FactOk n) : Odd K H (.ref p) := by
  have z := NodesV.tup h n
  rw [e] at z
  exact ⟨nds, z, l, .inr rfl, facts_ok f⟩
theorem fact_none : ∀ n ∈ ([none] : List (Option (Str × V))), FactOk n := fun n hn k z e => by
  rw [List.mem_singleton.mp hn] at e
  cases e
theorem fact_none2 : ∀ n ∈ ([none, none] : List (Option (Str × V))), FactOk n := fun n hn k z e => by
  simp only [List.mem_cons, List.not_mem_nil, or_false, or_self] at hn
  rw [hn] at e
  cases e
end Eh

set_option Elab.async false
set_option linter.all false
set_option maxRecDepth 100000
namespace Eh
open PySem PySem.Spec PyProof.Rows L2
section
variable {P : Program} {w : World} {K : PySem.W.Frag} {mg : Str → Option Value} {base : Heap}
/-! is made -/
theorem due_nil : okNs [] = false := rfl
def spMade (K : PySem.W.Frag) : Sp := fun vs H Q _ => ∃ v nds b, vs = [v] ∧ NodesV K H v nds b ∧ Few nds b ∧ ∀ H', Same H H' → Q (.bl b) H'
theorem ok_is_made {C fI fL CE f : Addr} {fdI fdL fd : FuncData} (F : Fun K "_law_is_made" "_law_is_made" s__law_is_made f fd) (T : Txt mg) (R : ErrC K mg "InvalidPromise" CE) (PC : PromC K mg C fI fL)
    (GI : FnOk P w K mg base (L2.CX P w) 4 fI fdI ["self", "nodes"] (spInit K C CE)) (bI : Binds K fdI ["self", "nodes"] []) (GL : FnOk P w K mg base CX0 1 fL fdL ["self"] (spLen K C)) (bL : Binds K fdL ["self"] []) :
    FnOk P w K mg base CX0 6 f fd ["nodes"] (spMade K) := by
  refine F.ok sc__law_is_made (fun vs H Q E h => ?_) (fun cdv A outer s H vs Q E hr h => ?_)
  · obtain ⟨v, nds, b, rfl, _⟩ := h
    rfl
  · obtain ⟨v, nds, b, rfl, hv, few, q⟩ := h
    have hr2 := hr.mono (j := 2) (by omega)
    refine ⟨_, (pss_one (ps_try_only rfl rfl ⟨rfl, by decide, .inl R.g⟩ takes0 (fun W pn xe tk _ => pss_one (ps_ret (pe_cmpR op_gt (pe_callB (lenOwn GL hr2 PC.ln PC.lf bL) (by rfl) T.len_ (by decide +kernel) (pa_cons (pe_makeS PC.mkC GI hr (by rfl) PC.g bI (fun σ => passAt tk σ) (pa_cons (pv 0) pa_nil)) pa_nil)) pe_int (nomark _))))
      (fun a oe cls d pn _ _ => pss_one (ps_ret pe_bl)))), ?_⟩
    refine ⟨_, rfl, fun x dx nx nd ne => ?_⟩
    have s1 : Same H (upd (upd H dx (.own x)) x (.ins C dx [])) := fun b o e => by
      rw [upd_ne (ne_of_none e nx), upd_ne (ne_of_none e nd)]
      exact e
    refine ⟨x, dx, v, nds, b, rfl, upd_same, hv.ku (ku_same s1), few, fun eb H2 bt e2 => ⟨rfl, ?_⟩, fun eb H2 s2 => ?_⟩
    · have s2 : Same H H2 := fun b o e => bt b o (ne_of_none e nx) (s1 b o e)
      subst eb
      generalize eb : true = bb at hv
      cases hv with
      | other _ => cases eb
      | tup hs hn =>
        rename_i p xs
        refine ⟨x, dx, _, rfl, e2, x, dx, _, p, xs, rfl, e2, rfl, (stk s2).seq hs, xs.length, rfl, by omega, ?_, _, 0, rfl, rfl, ?_⟩
        · have := hn.length
          have := few.len
          omega
        · have hpos : 0 < xs.length := by
            cases hn with
            | nil => rw [due_nil] at eb; cases eb
            | cons _ _ => exact Nat.succ_pos _
          show Q (.bl (decide ((0 : Int) < (xs.length : Int)))) H2
          rw [decide_eq_true (by omega)]
          exact q H2 s2
    · subst eb
      exact ⟨true, R.e, fun _ a ha => q _ (s1.trans s2), fun z => nomatch z⟩
end
end Eh

set_option Elab.async false
set_option linter.all false
set_option maxRecDepth 100000
namespace Eh
open PySem PySem.Spec PyProof.Rows L2
def partsI : Option (Str × V) → Int
  | none => -1
  | some n => partsN n
section
variable {P : Program} {w : World} {K : PySem.W.Frag} {mg : Str → Option Value} {base : Heap}
theorem hu64 {A : Around} {k : Nat} (hr : Room k A) : A.units + 64 < cLine := by
  have := hr.un
  omega
theorem hu0 {A : Around} {k : Nat} (hr : Room k A) : A.units < cLine := by
  have := hr.un
  omega
theorem elt_int {H : Hp} {v : V} (h : Elt K H v) : (∃ i, v = .int i) ∨ (∃ b, v = .bl b) ∨ ((∀ i, v ≠ .int i) ∧ ∃ t, TyX K H v t ∧ PySem.W.kitOne K t (.type "int") = some false) := h.kindI
def spParts (K : PySem.W.Frag) : Sp := fun vs H Q _ => ∃ v nd, vs = [v] ∧ NdV K H v nd ∧ ∀ H', Same H H' → Q (.int (partsI nd)) H'
theorem ok_parts_at {f : Addr} {fd : FuncData} (F : Fun K "_law_parts_at" "_law_parts_at" s__law_parts_at f fd) (T : Txt mg) : FnOk P w K mg base CX0 1 f fd ["node"] (spParts K) := by
  refine F.ok sc__law_parts_at (fun vs H Q E h => ?_) (fun cdv A outer s H vs Q E hr h => ?_)
  · obtain ⟨v, nd, rfl, _⟩ := h
    rfl
  · obtain ⟨v, nd, rfl, hv, q⟩ := h
    refine ⟨_, (pss_cons (ps_if (PW.pt (pw_or (pt_not (pt_val (pe_callB (isiQ (K := K) rfl) (by rfl) T.isinstance_ (by decide +kernel) (pa_cons (pv 0) (pa_cons (pe_bltn (v := .ty "tuple") (by rfl) T.tuple_ (by decide +kernel) rfl) pa_nil))))) (pw_or (pt_cmpR op_ne (pe_callB (lenQ (K := K) rfl) (by rfl) T.len_ (by decide +kernel) (pa_cons (pv 0) pa_nil)) pe_int (nomark _)) (pw_or1 (pt_not (pt_val (pe_callB (isiQ (K := K) rfl) (by rfl) T.isinstance_ (by decide +kernel) (pa_cons (pe_ix (ixT (K := K) rfl) (pv 0) pe_int (fun _ _ => rfl)) (pa_cons (pe_bltn (v := .ty "str") (by rfl) T.str_ (by decide +kernel) rfl) pa_nil)))))))))
  (pss_one (ps_ret (pe_un un_neg pe_int)))
  pss_nil)
  (pss_cons (ps_set (i := 1) sc__law_parts_at.nd rfl (.inl rfl) (pe_ix (ixT (K := K) rfl) (pv 0) pe_int (fun _ _ => rfl)))
  (pss_cons (ps_if (pt_cmpR (inQ (K := K) rfl) (pe_ix (ixT (K := K) rfl) (pv 0) pe_int (fun _ _ => rfl)) (pe_lst (pa_cons pe_str (pa_cons pe_str (pa_cons pe_str (pa_cons pe_str pa_nil))))) (by rfl))
  (pss_one (ps_ret (pe_ifExp (PW.pt (pw_and (pt_val (pe_callB (isiQ (K := K) rfl) (by rfl) T.isinstance_ (by decide +kernel) (pa_cons (pv 1) (pa_cons (pe_bltn (v := .ty "int") (by rfl) T.int_ (by decide +kernel) rfl) pa_nil)))) (pw_and (pt_cmpR op_notBV (pv 1) pe_bl (nomark _)) (pw_and (pt_cmpR op_notBV (pv 1) pe_bl (nomark _)) (pw_and1 (pt_chain op_le op_le pe_int (pv 1) pe_int)))))) (pv 1) (pe_un un_neg pe_int))))
  pss_nil)
  (pss_cons (ps_if (pt_cmpR (inQ (K := K) rfl) (pe_ix (ixT (K := K) rfl) (pv 0) pe_int (fun _ _ => rfl)) (pe_lst (pa_cons pe_str (pa_cons pe_str pa_nil))) (by rfl))
  (pss_one (ps_ret (pe_ifExp (PW.pt (pw_and (pt_val (pe_callB (isiQ (K := K) rfl) (by rfl) T.isinstance_ (by decide +kernel) (pa_cons (pv 1) (pa_cons (pe_bltn (v := .ty "int") (by rfl) T.int_ (by decide +kernel) rfl) pa_nil)))) (pw_and (pt_cmpR op_notBV (pv 1) pe_bl (nomark _)) (pw_and (pt_cmpR op_notBV (pv 1) pe_bl (nomark _)) (pw_and1 (pt_cmpR op_eq (pv 1) pe_int (nomark _))))))) pe_int (pe_un un_neg pe_int))))
  pss_nil)
  (pss_cons (ps_if (PW.pt (pw_or (pt_cmpR (niQ (K := K) rfl) (pe_ix (ixT (K := K) rfl) (pv 0) pe_int (fun _ _ => rfl)) (pe_lst (pa_cons pe_str (pa_cons pe_str pa_nil))) (by rfl)) (pw_or (pt_not (pt_val (pe_callB (isiQ (K := K) rfl) (by rfl) T.isinstance_ (by decide +kernel) (pa_cons (pv 1) (pa_cons (pe_bltn (v := .ty "str") (by rfl) T.str_ (by decide +kernel) rfl) pa_nil))))) (pw_or (pt_not (pt_chain op_lt op_lt pe_int (pe_callB (lenQ (K := K) rfl) (by rfl) T.len_ (by decide +kernel) (pa_cons (pv 1) pa_nil)) pe_int)) (pw_or1 (pt_cmpR (inQ (K := K) rfl) (pv 1) (pe_lst (pa_cons pe_str (pa_cons pe_str pa_nil))) (by rfl)))))))
  (pss_one (ps_ret (pe_un un_neg pe_int)))
  pss_nil)
  (pss_one (ps_ret (pe_ifExp (pt_cmpR (eqEL (K := K) rfl (hu0 hr)) (pe_lc (own := [("sign", 2)]) (g := gName 2) (by rfl) sc__law_parts_at.nd (pi_str (pv 1)) (blkOk_by (by kernel_rfl)) (fun _ _ _ _ _ => (pg_name (i := 2) sc__law_parts_at.nd rfl (.inl rfl))) (fun _ _ _ _ _ => (pts_one (pt_not (pt_chain op_le_str op_le_str pe_str (pv 2) pe_str)))) (fun _ _ _ _ _ => (pv 2))) (pe_lst pa_nil) (nomark _)) pe_int (pe_un un_neg pe_int))))))))), ?_⟩
    cases hv with
    | other hno =>
      obtain ⟨u, ty, hk⟩ := hno.ty (K := K)
      exact ⟨_, rfl, v, .ty "tuple", _, .type "tuple", false, rfl, .ty _, ty, hk, _, rfl, iteT ⟨_, rfl, q _ (Same.refl H)⟩⟩
    | tup hs hn hl =>
      rename_i p0 xs
      refine ⟨_, rfl, .ref p0, .ty "tuple", _, .type "tuple", true, rfl, .ty _, ty_tup hs, kitTT, _, rfl, iteF ⟨_, rfl, .inl ⟨p0, xs, rfl, .inr hs, ?_⟩⟩⟩
      refine ⟨rfl, _, rfl, ?_⟩
      rw [decide_eq_false (fun e => hn (by injection e with e; omega))]
      exact iteT ⟨_, rfl, q _ (Same.refl H)⟩
    | pair hs ha hb =>
      rename_i p0 a b
      refine ⟨_, rfl, .ref p0, .ty "tuple", _, .type "tuple", true, rfl, .ty _, ty_tup hs, kitTT, _, rfl, iteF ⟨_, rfl, .inl ⟨p0, _, rfl, .inr hs, ?_⟩⟩⟩
      refine ⟨rfl, _, rfl, neSelf ?_⟩
      rcases elt_str ha with ⟨k, rfl⟩ | ⟨hn, t, ty, ek⟩
      · refine ⟨_, rfl, p0, _, 0, .str k, rfl, rfl, hs, rfl, .str k, .ty "str", .type "str", .type "str", true, rfl, .ty _, .base (.str k), kitStr, _, rfl, iteF ?_⟩
        refine ⟨_, rfl, p0, _, 1, b, rfl, rfl, hs, rfl, ?_⟩
        refine ⟨_, rfl, p0, _, 0, .str k, rfl, rfl, hs, rfl, lenOk 4, fun l1 n1 => ⟨l1, nodeKinds.map V.str, rfl, .inl (SqL.of upd_same), rfl, flat_strs _, _, rfl, ?_⟩⟩
        have s1 : Same H (upd H l1 (.lst (nodeKinds.map V.str))) := same_new n1
        have hpn : pairNd (.str k) b = if nodeAB k b = true then some (k, b) else none := rfl
        have bad : nodeAB k b = false → ∀ H', Same H H' → Q (.int (-1)) H' := fun e H' s => by
          have q' := q H' s
          rw [hpn, e] at q'
          exact q'
        have good : nodeAB k b = true → ∀ (j : Int) H', Same H H' → j = partsN (k, b) → Q (.int j) H' := fun e j H' s ej => by
          have q' := q H' s
          rw [hpn, e] at q'
          rw [ej]
          exact q'
        refine ite2 (fun h1 => ?_) (fun h1 => ?_)
        · have h1 : nodeKinds.contains k = true := (inV_strs k nodeKinds).symm.trans h1
          have en : nodeAB k b = fewV b := by
            unfold nodeAB
            rw [(node_not_fact h1).1, (node_not_fact h1).2, h1]
            rfl
          rcases elt_int (hb.tk (stk s1)) with ⟨i, rfl⟩ | ⟨c, rfl⟩ | ⟨hn, t, ty, ek⟩
          · refine ⟨_, rfl, .int i, .ty "int", .type "int", .type "int", true, rfl, .ty _, .base (.int i), kitII, _, rfl, iteT ?_⟩
            refine ⟨_, rfl, _, rfl, .inl ⟨i, rfl, _, rfl, iteT ?_⟩⟩
            refine ⟨_, rfl, _, rfl, .inl ⟨i, rfl, _, rfl, iteT ?_⟩⟩
            have en : nodeAB k (.int i) = (decide (2 ≤ i) && decide (i ≤ 4)) := en
            refine ⟨_, rfl, 2, i, rfl, rfl, _, rfl, ?_⟩
            by_cases h2 : (2 : Int) ≤ i
            · rw [decide_eq_true h2]
              refine iteT ⟨i, 4, rfl, rfl, _, rfl, ?_⟩
              by_cases h4 : i ≤ 4
              · rw [decide_eq_true h4]
                refine iteT ⟨_, rfl, good (by rw [en, decide_eq_true h2, decide_eq_true h4]; rfl) i _ s1 ?_⟩
                unfold partsN
                rw [if_pos h1]
                show i = ((i.toNat : Nat) : Int)
                omega
              · rw [decide_eq_false h4]
                exact iteF ⟨_, rfl, bad (by rw [en, decide_eq_false h4, Bool.and_false]) _ s1⟩
            · rw [decide_eq_false h2]
              exact iteF ⟨_, rfl, iteF ⟨_, rfl, bad (by rw [en, decide_eq_false h2]; rfl) _ s1⟩⟩
          · refine ⟨_, rfl, .bl c, .ty "int", .type "bool", .type "int", true, rfl, .ty _, .base (.bl c), kitBI, _, rfl, iteT ?_⟩
            refine ⟨_, rfl, _, rfl, .inr ⟨c, rfl, _, rfl, ?_⟩⟩
            cases c with
            | true => exact iteF (iteF ⟨_, rfl, bad en _ s1⟩)
            | false => exact iteT ⟨_, rfl, _, rfl, .inr ⟨false, rfl, _, rfl, iteF (iteF ⟨_, rfl, bad en _ s1⟩)⟩⟩
          · refine ⟨_, rfl, b, .ty "int", t, .type "int", false, rfl, .ty _, ty, ek, _, rfl, iteF (iteF ⟨_, rfl, bad (en.trans ?_) _ s1⟩)⟩
            cases b with
            | int i => exact absurd rfl (hn i)
            | _ => rfl
        have h1 : nodeKinds.contains k = false := by
          cases e : nodeKinds.contains k with
          | false => rfl
          | true => exact absurd ((inV_strs k nodeKinds).trans e) h1
        refine ⟨_, rfl, p0, _, 0, .str k, rfl, rfl, (stk s1).seq hs, rfl, lenOk 2, fun l2 n2 => ⟨l2, sureKinds.map V.str, rfl, .inl (SqL.of upd_same), rfl, flat_strs _, _, rfl, ?_⟩⟩
        have s2 : Same H _ := s1.trans (same_new (o := .lst (sureKinds.map V.str)) n2)
        refine ite2 (fun h2 => ?_) (fun h2 => ?_)
        · have h2 : sureKinds.contains k = true := (inV_strs k sureKinds).symm.trans h2
          have hf : factKinds.contains k = false := by
            unfold sureKinds at h2
            rw [List.contains_iff_mem] at h2
            simp only [List.mem_cons, List.not_mem_nil, or_false] at h2
            rcases h2 with rfl | rfl <;> decide +kernel
          have en : nodeAB k b = zeroV b := by
            unfold nodeAB
            rw [hf, h2]
            rfl
          rcases elt_int (hb.tk (stk s2)) with ⟨i, rfl⟩ | ⟨c, rfl⟩ | ⟨hn, t, ty, ek⟩
          · refine ⟨_, rfl, .int i, .ty "int", .type "int", .type "int", true, rfl, .ty _, .base (.int i), kitII, _, rfl, iteT ?_⟩
            refine ⟨_, rfl, _, rfl, .inl ⟨i, rfl, _, rfl, iteT ?_⟩⟩
            refine ⟨_, rfl, _, rfl, .inl ⟨i, rfl, _, rfl, iteT ?_⟩⟩
            have en : nodeAB k (.int i) = decide (i = 0) := en
            refine ⟨_, rfl, rfl, _, rfl, ?_⟩
            by_cases h0 : i = 0
            · rw [decide_eq_true (show V.int i = V.int 0 by rw [h0])]
              refine iteT (good (by rw [en, decide_eq_true h0]) 0 _ s2 ?_)
              unfold partsN
              rw [if_neg (by rw [h1]; exact Bool.false_ne_true)]
              rfl
            · rw [decide_eq_false (show ¬ V.int i = V.int 0 from fun e => h0 (by injection e))]
              exact iteF ⟨_, rfl, bad (by rw [en, decide_eq_false h0]) _ s2⟩
          · refine ⟨_, rfl, .bl c, .ty "int", .type "bool", .type "int", true, rfl, .ty _, .base (.bl c), kitBI, _, rfl, iteT ?_⟩
            refine ⟨_, rfl, _, rfl, .inr ⟨c, rfl, _, rfl, ?_⟩⟩
            cases c with
            | false => exact iteF (iteF ⟨_, rfl, bad en _ s2⟩)
            | true => exact iteT ⟨_, rfl, _, rfl, .inr ⟨true, rfl, _, rfl, iteF (iteF ⟨_, rfl, bad en _ s2⟩)⟩⟩
          · refine ⟨_, rfl, b, .ty "int", t, .type "int", false, rfl, .ty _, ty, ek, _, rfl, iteF (iteF ⟨_, rfl, bad (en.trans ?_) _ s2⟩)⟩
            cases b with
            | int i => exact absurd rfl (hn i)
            | _ => rfl
        have h2 : sureKinds.contains k = false := by
          cases e : sureKinds.contains k with
          | false => rfl
          | true => exact absurd ((inV_strs k sureKinds).trans e) h2
        refine ⟨_, rfl, p0, _, 0, .str k, rfl, rfl, (stk s2).seq hs, rfl, lenOk 2, fun l3 n3 => ⟨l3, factKinds.map V.str, rfl, .inl (SqL.of upd_same), rfl, flat_strs _, _, rfl, ?_⟩⟩
        have s3 : Same H _ := s2.trans (same_new (o := .lst (factKinds.map V.str)) n3)
        cases hf : factKinds.contains k with
        | false =>
          refine iteT' (by show (!inV (.str k) (factKinds.map V.str)) = true; rw [inV_strs, hf]; rfl) ⟨_, rfl, bad ?_ _ s3⟩
          unfold nodeAB
          rw [hf, h2, h1]
          rfl
        | true =>
        refine iteF' (by show (!inV (.str k) (factKinds.map V.str)) = false; rw [inV_strs, hf]; rfl) ?_
        have en : nodeAB k b = factV b := by
          unfold nodeAB
          rw [hf]
          rfl
        rcases (hb.tk (stk s3)).kind with ⟨z, rfl, hz, _⟩ | ⟨hn, t, ty, ek⟩
        · refine ⟨_, rfl, .str z, .ty "str", .type "str", .type "str", true, rfl, .ty _, .base (.str z), kitStr, _, rfl, iteF ?_⟩
          have en : nodeAB k (.str z) = factS z := en
          refine ⟨_, rfl, .inr ⟨z, rfl, Nat.le_of_lt (small hz), 0, _, rfl, rfl, _, rfl, ?_⟩⟩
          by_cases h0 : (0 : Int) < z.length
          · rw [decide_eq_true h0]
            refine iteT ⟨_, 9, rfl, rfl, _, rfl, ?_⟩
            by_cases h9 : (z.length : Int) < 9
            · rw [decide_eq_true h9]
              refine iteF ?_
              refine ⟨_, rfl, lenOk 2, fun l4 n4 => ⟨l4, sureKinds.map V.str, rfl, .inl (SqL.of upd_same), rfl, flat_strs _, _, rfl, ?_⟩⟩
              have s4 : Same H _ := s3.trans (same_new (o := .lst (sureKinds.map V.str)) n4)
              cases hy : sureKinds.contains z with
              | true =>
                refine iteT' ((inV_strs z sureKinds).trans hy) ⟨_, rfl, bad (en.trans ?_) _ s4⟩
                unfold sureKinds at hy
                rw [List.contains_iff_mem] at hy
                simp only [List.mem_cons, List.not_mem_nil, or_false] at hy
                rcases hy with rfl | rfl <;> decide +kernel
              | false =>
                refine iteF' ((inV_strs z sureKinds).trans hy) ?_
                have en2 : nodeAB k (.str z) = z.cps.toList.all low := by
                  rw [en]
                  unfold factS
                  have y1 : z ≠ "yes" := fun e => by rw [e] at hy; exact absurd hy (by decide +kernel)
                  have y2 : z ≠ "no" := fun e => by rw [e] at hy; exact absurd hy (by decide +kernel)
                  rw [decide_eq_true (show 1 ≤ z.length ∧ z.length ≤ 8 from ⟨by omega, by omega⟩), decide_eq_false y1, decide_eq_false y2]
                  rfl
                refine ⟨_, rfl, z, rfl, fun D nD => ?_⟩
                have s5 := s4.trans (same_new (o := .lst []) nD)
                have nD1 : H D = none := s4.free nD
                refine lcS (fun j acc H2 => Same H H2 ∧ (acc.length = 0 ↔ (z.cps.toList.take j).all low = true)) ⟨s5, ⟨fun _ => rfl, fun _ => rfl⟩⟩ ?_ ?_
                · rintro j c acc H2 hc hl e ⟨s6, ea⟩
                  have hj : j < 9 := by
                    have := (Array.getElem?_eq_some_iff.mp hc).1
                    have e2 : z.cps.size = z.length := rfl
                    omega
                  have et : (z.cps.toList.take (j + 1)).all low = ((z.cps.toList.take j).all low && low c) := by
                    rw [take_succ' (by rw [Array.getElem?_toList]; exact hc), List.all_append]
                    show (_ && (low c && true)) = _
                    rw [Bool.and_true]
                  have yes : low c = false → LcK (fun j acc H2 => Same H H2 ∧ (acc.length = 0 ↔ (z.cps.toList.take j).all low = true)) D j (.str ⟨#[c]⟩) H2 := fun el => by
                    refine LcK.mk hl (by omega) e ⟨fun b o eb => ?_, ?_⟩
                    · rw [upd_ne (ne_of_none eb nD1)]
                      exact s6 b o eb
                    · rw [List.length_append, et, el, Bool.and_false]
                      exact ⟨(fun z => by have z : acc.length + 1 = 0 := z; omega), (fun z => nomatch z)⟩
                  have no : low c = true → LcP (fun j acc H2 => Same H H2 ∧ (acc.length = 0 ↔ (z.cps.toList.take j).all low = true)) D (j + 1) H2 := fun el =>
                    ⟨acc, by omega, e, s6, by rw [et, el, Bool.and_true]; exact ea⟩
                  refine ⟨_, rfl, "a", _, rfl, rfl, _, rfl, ?_⟩
                  rw [le_sign]
                  by_cases h97 : 97 ≤ c
                  · rw [decide_eq_true h97]
                    refine iteT ⟨_, "z", rfl, rfl, _, rfl, ?_⟩
                    rw [ge_sign]
                    by_cases h122 : c ≤ 122
                    · rw [decide_eq_true h122]
                      exact iteF (no (decide_eq_true ⟨h97, h122⟩))
                    · rw [decide_eq_false h122]
                      exact iteT ⟨_, rfl, yes (decide_eq_false fun h => h122 h.2)⟩
                  · rw [decide_eq_false h97]
                    exact iteF ⟨_, rfl, iteT ⟨_, rfl, yes (decide_eq_false fun h => h97 h.1)⟩⟩
                · rintro acc H2 hl e ⟨s6, ea⟩
                  refine ⟨Nat.zero_le _, fun l5 n5 => ⟨D, l5, acc, rfl, rfl, SqL.of (same_new n5 _ _ e), SqL.of upd_same, _, rfl, ?_⟩⟩
                  have s7 := s6.trans (same_new (o := .lst []) n5)
                  rw [List.take_of_length_le (by rw [Array.length_toList]; exact Nat.le_refl _)] at ea
                  by_cases h : acc.length = 0
                  · rw [decide_eq_true h]
                    refine iteT (good (en2.trans (ea.mp h)) 0 _ s7 ?_)
                    unfold partsN
                    rw [if_neg (by rw [h1]; exact Bool.false_ne_true)]
                    rfl
                  · rw [decide_eq_false h]
                    refine iteF ⟨_, rfl, bad (en2.trans ?_) _ s7⟩
                    cases ec : z.cps.toList.all low with
                    | false => rfl
                    | true => exact absurd (ea.mpr ec) h
            · rw [decide_eq_false h9]
              refine iteT ⟨_, rfl, bad (en.trans ?_) _ s3⟩
              unfold factS
              rw [decide_eq_false (fun h => h9 (by omega))]
              rfl
          · rw [decide_eq_false h0]
            refine iteF ⟨_, rfl, iteT ⟨_, rfl, bad (en.trans ?_) _ s3⟩⟩
            unfold factS
            rw [decide_eq_false (fun h => h0 (by omega))]
            rfl
        · refine ⟨_, rfl, b, .ty "str", t, .type "str", false, rfl, .ty _, ty, ek, _, rfl, iteT ⟨_, rfl, bad (en.trans ?_) _ s3⟩⟩
          cases b with
          | str z => exact absurd rfl (hn z)
          | _ => rfl
      · refine ⟨_, rfl, p0, _, 0, a, rfl, rfl, hs, rfl, a, .ty "str", t, .type "str", false, rfl, .ty _, ty, ek, _, rfl, iteT ⟨_, rfl, ?_⟩⟩
        have e : pairNd a b = none := by
          unfold pairNd
          split
          · exact absurd rfl (hn _)
          · rfl
        have q' := q _ (Same.refl H)
        rw [e] at q'
        exact q'
end
end Eh

set_option Elab.async false
set_option linter.all false
set_option maxRecDepth 100000
namespace Eh
open PySem PySem.Spec PyProof.Rows L2
def goN : Nat → List (Option (Str × V)) → Bool
  | l, [] => decide (l = 0)
  | 0, _ :: _ => false
  | _ + 1, none :: _ => false
  | l + 1, some n :: ns => goN (l + partsN n) ns
theorem goN_is : ∀ (nds : List (Option (Str × V))) (l : Nat), (nds.all Option.isSome && dueGo l (nds.filterMap id)) = goN l nds
  | [], l => by
    cases l <;> rfl
  | none :: r, l => by
    cases l <;> rfl
  | some n :: r, 0 => by
    show ((true && r.all Option.isSome) && dueGo 0 (n :: r.filterMap id)) = false
    show (_ && false) = false
    rw [Bool.and_false]
  | some n :: r, l + 1 => by
    have ih := goN_is r (l + partsN n)
    show ((true && r.all Option.isSome) && dueGo (l + partsN n) (r.filterMap id)) = goN (l + partsN n) r
    rw [Bool.true_and]
    exact ih
theorem okNs_go (nds : List (Option (Str × V))) : okNs nds = goN 1 nds := goN_is nds 1
section
variable {P : Program} {w : World} {K : PySem.W.Frag} {mg : Str → Option Value} {base : Heap}
def spDue (K : PySem.W.Frag) : Sp := fun vs H Q _ => ∃ v nds b, vs = [v] ∧ NodesV K H v nds b ∧ nds.length < 1000 ∧ ∀ H', Same H H' → Q (.bl b) H'
theorem ok_due {fP f : Addr} {fdP fd : FuncData} (F : Fun K "_law_due" "_law_due" s__law_due f fd) (T : Txt mg) (C__law_parts_at : Cal P w K mg base 1 "_law_parts_at" fP fdP ["node"] (spParts K)) : FnOk P w K mg base CX0 2 f fd ["nodes"] (spDue K) := by
  refine F.ok sc__law_due (fun vs H Q E h => ?_) (fun cdv A outer s H vs Q E hr h => ?_)
  · obtain ⟨v, nds, b, rfl, _⟩ := h
    rfl
  · obtain ⟨v, nds, b, rfl, hv, hlen, q⟩ := h
    refine ⟨_, (pss_cons (ps_if (PW.pt (pw_or (pt_not (pt_val (pe_callB (isiQ (K := K) rfl) (by rfl) T.isinstance_ (by decide +kernel) (pa_cons (pv 0) (pa_cons (pe_bltn (v := .ty "tuple") (by rfl) T.tuple_ (by decide +kernel) rfl) pa_nil))))) (pw_or1 (pt_cmpR (eqE (K := K) rfl (hu0 hr)) (pv 0) (pe_tup pa_nil) (nomark _)))))
  (pss_one (ps_ret pe_bl))
  pss_nil)
  (pss_cons (ps_set (i := 1) sc__law_due.nd rfl (.inl rfl) pe_int)
  (pss_cons (ps_for PassesOwn.never (by rfl) (pi_tup (pv 0)) (pg_name (i := 2) sc__law_due.nd rfl (.inl rfl))
  (pss_cons (ps_set (i := 3) sc__law_due.nd rfl (.inl rfl) (pe_call C__law_parts_at.G hr (by rfl) C__law_parts_at.m C__law_parts_at.k C__law_parts_at.b .nil pass0 (pa_cons (pv 2) pa_nil)))
  (pss_cons (ps_if (PW.pt (pw_or (pt_cmpR op_lt (pv 3) pe_int (nomark _)) (pw_or1 (pt_cmpR op_eq (pv 1) pe_int (nomark _)))))
  (pss_one (ps_ret pe_bl))
  pss_nil)
  (pss_one (ps_set (i := 1) sc__law_due.nd rfl (.inl rfl) (pe_op op_add (pe_op op_sub (pv 1) pe_int) (pv 3)))))))
  (pss_one (ps_ret (pe_cmpR op_eq (pv 1) pe_int (nomark _))))))), ?_⟩
    cases hv with
    | other hno =>
      obtain ⟨u, ty, hk⟩ := hno.ty (K := K)
      exact ⟨_, rfl, v, .ty "tuple", _, .type "tuple", false, rfl, .ty _, ty, hk, _, rfl, iteT (q _ (Same.refl H))⟩
    | tup hs hn =>
      rename_i p xs
      have hxn := hn.length
      have q : ∀ H', Same H H' → Q (.bl (goN 1 nds)) H' := fun H' s => by rw [← okNs_go]; exact q H' s
      refine ⟨_, rfl, .ref p, .ty "tuple", _, .type "tuple", true, rfl, .ty _, ty_tup hs, kitTT, _, rfl, iteF ⟨_, rfl, Nat.zero_le _, fun t nt => ?_⟩⟩
      have s1 : Same H (upd H t (.tup [])) := same_new nt
      refine ⟨p, t, xs, rfl, rfl, (stk s1).seq hs, SqT.of upd_same, _, rfl, ?_⟩
      by_cases h0 : xs.length = 0
      · rw [decide_eq_true h0]
        have e : nds = [] := List.length_eq_zero_iff.mp (by omega)
        have q' := q _ s1
        rw [e] at q'
        exact iteT q'
      rw [decide_eq_false h0]
      refine iteF ?_
      refine ⟨_, rfl, p, rfl, ⟨xs, (stk s1).seq hs⟩, for_tup (K := K) (a := p) (xs := xs) (fun i σ H2 => ∃ (left : Nat) (x y : Option V), σ = [some (.ref p), some (.int left), x, y] ∧ Same H H2 ∧ goN 1 nds = goN left (nds.drop i)) ?_ (fun i σ H2 _ h => ?_) ?_ ?_⟩
      · exact ⟨1, none, none, rfl, s1, rfl⟩
      · obtain ⟨left, x, y, _, s2, _⟩ := h
        exact (stk s2).seq hs
      · rintro i v2 σ H2 hi ⟨left, x, y, rfl, s2, hgo⟩
        obtain ⟨nd, en, hnd⟩ := hn.get hi
        rw [drop_at en] at hgo
        refine ⟨_, rfl, v2, nd, rfl, hnd.ku (ku_same s2), fun H3 s3 => ?_⟩
        have s4 := s2.trans s3
        refine ⟨_, rfl, partsI nd, 0, rfl, rfl, _, rfl, ?_⟩
        cases nd with
        | none =>
          refine iteT' (by decide) ?_
          have q' := q _ s4
          rw [hgo] at q'
          cases left <;> exact q'
        | some n =>
          have hp : (0 : Int) ≤ partsI (some n) := Int.natCast_nonneg _
          rw [decide_eq_false (by omega)]
          refine iteF ⟨_, rfl, rfl, _, rfl, ?_⟩
          cases left with
          | zero =>
            refine iteT' (decide_eq_true rfl) ?_
            have q' := q _ s4
            rw [hgo] at q'
            exact q'
          | succ l =>
            rw [decide_eq_false (fun e => by injection e with e; omega)]
            refine iteF ⟨_, rfl, _, _, rfl, rfl, _, rfl, _, _, rfl, rfl, ?_⟩
            refine ⟨l + partsN n, some v2, some (.int (partsI (some n))), ?_, s4, hgo⟩
            have ei : ((l + 1 : Nat) : Int) - 1 + partsI (some n) = ((l + partsN n : Nat) : Int) := by
              show ((l + 1 : Nat) : Int) - 1 + ((partsN n : Nat) : Int) = _
              omega
            rw [← ei]
            rfl
      · rintro σ H2 ⟨left, x, y, rfl, s2, hgo⟩
        refine ⟨_, rfl, rfl, ?_⟩
        have q' := q _ s2
        rw [hgo, hxn, List.drop_length] at q'
        have e : decide (V.int (left : Int) = V.int 0) = goN left [] := by
          have e2 : goN left [] = decide (left = 0) := by cases left <;> rfl
          rw [e2]
          exact decide_eq_decide.mpr ⟨fun z => by injection z with z; omega, fun z => by rw [z]; rfl⟩
        rw [e]
        exact q'
end
end Eh

set_option Elab.async false
set_option linter.all false
set_option maxRecDepth 100000
set_option maxHeartbeats 4000000
namespace Eh
open PySem PySem.Spec PyProof.Rows L2
section
variable {P : Program} {w : World} {K : PySem.W.Frag} {mg : Str → Option Value} {base : Heap}
def spBent (K : PySem.W.Frag) : Sp := fun vs H Q _ => ∃ d p xs ns, vs = [.ref d, .ref p] ∧ D3 H d ∧ SqT K H p xs ∧ NdsAt K H xs ns ∧ GoodN ns ∧ InW uni6 ns ∧ 0 < xs.length ∧ xs.length ≤ 14 ∧
  ∀ t ys H', Gr d H H' → SqT K H' t ys → ys.length ≤ 15 → BAll K H' ys → Q (.ref t) H'
theorem ok_bent {fR fP f : Addr} {fdR fdP fd : FuncData} (F : Fun K "_law_bent" "_law_bent" s__law_bent f fd) (T : Txt mg) (C__law_roll : Cal P w K mg base 1 "_law_roll" fR fdR ["dice", "many"] spRoll)
    (C__law_pick : Cal P w K mg base 2 "_law_pick" fP fdP ["dice", "items"] (spPick K)) : FnOk P w K mg base CX0 3 f fd ["dice", "nodes"] (spBent K) := by
  refine F.ok sc__law_bent (fun vs H Q E h => ?_) (fun cdv A outer s H vs Q E hr h => ?_)
  · obtain ⟨d, p, xs, ns, rfl, _⟩ := h
    rfl
  · obtain ⟨d, p, xs, ns, rfl, D, hS, hN, hg, hw, h0, h14, q⟩ := h
    have hr1 := hr.mono (j := 1) (by omega)
    refine ⟨_, (pss_cons (ps_par3 (i := 2) (j := 3) (l := 4) (by rfl) sc__law_bent.nd rfl rfl rfl (by decide) (by decide) (by decide) (by rfl) (by rfl) (by rfl) (pa_cons (pe_callTy (lstOf (K := K) rfl) (by rfl) T.list_ (by decide +kernel) (pa_cons (pv 1) pa_nil)) (pa_cons (pe_call C__law_roll.G hr1 (by rfl) C__law_roll.m C__law_roll.k C__law_roll.b .nil pass0 (pa_cons (pv 0) (pa_cons (pe_callB (lenQ (K := K) rfl) (by rfl) T.len_ (by decide +kernel) (pa_cons (pv 1) pa_nil)) pa_nil))) (pa_cons (pe_call C__law_roll.G hr1 (by rfl) C__law_roll.m C__law_roll.k C__law_roll.b .nil pass0 (pa_cons (pv 0) (pa_cons pe_int pa_nil))) pa_nil))) (by rfl))
  (pss_cons (ps_asg (pe_ix (ixL (K := K) rfl) (pv 2) (pv 3) (fun _ _ => rfl)) (pg_tup (by rfl) (pgs_cons (pg_name (i := 5) sc__law_bent.nd rfl (.inl rfl)) (pgs_cons (pg_name (i := 6) sc__law_bent.nd rfl (.inl rfl)) pgs_nil))))
  (pss_cons (ps_set (i := 7) sc__law_bent.nd rfl (.inl rfl) (pe_call C__law_pick.G hr (by rfl) C__law_pick.m C__law_pick.k C__law_pick.b .nil pass0 (pa_cons (pv 0) (pa_cons (pe_lst (pa_cons (pe_tup (pa_cons pe_str (pa_cons pe_str pa_nil))) (pa_cons (pe_tup (pa_cons pe_str (pa_cons pe_int pa_nil))) (pa_cons (pe_tup (pa_cons pe_str (pa_cons pe_int pa_nil))) (pa_cons (pe_tup (pa_cons pe_str (pa_cons pe_int pa_nil))) (pa_cons (pe_tup (pa_cons pe_str (pa_cons pe_int pa_nil))) (pa_cons (pe_tup (pa_cons pe_str (pa_cons pe_str pa_nil))) (pa_cons (pe_tup (pa_cons pe_str (pa_cons pe_int pa_nil))) pa_nil)))))))) pa_nil))))
  (pss_cons (ps_if (pt_cmpR op_eq (pv 4) pe_int (nomark _))
  (pss_one (ps_asg (pe_tup (pa_cons (pv 5) (pa_cons (pe_call C__law_pick.G hr (by rfl) C__law_pick.m C__law_pick.k C__law_pick.b .nil pass0 (pa_cons (pv 0) (pa_cons (pe_lst (pa_cons (pv 6) (pa_cons pe_int (pa_cons pe_int (pa_cons pe_int (pa_cons pe_int (pa_cons pe_int (pa_cons pe_int (pa_cons pe_non (pa_cons pe_bl (pa_cons pe_bl (pa_cons pe_str (pa_cons pe_str (pa_cons pe_str (pa_cons pe_str (pa_cons (pe_tup pa_nil) (pa_cons (pe_un un_neg pe_int) (pa_cons pe_str pa_nil)))))))))))))))))) pa_nil))) pa_nil))) (pg_sub (pv 2) (pv 3) set_list)))
  pss_nil)
  (pss_cons (ps_if (pt_cmpR op_eq (pv 4) pe_int (nomark _))
  (pss_one (ps_asg (pe_tup (pa_cons (pe_call C__law_pick.G hr (by rfl) C__law_pick.m C__law_pick.k C__law_pick.b .nil pass0 (pa_cons (pv 0) (pa_cons (pe_lst (pa_cons pe_str (pa_cons pe_str (pa_cons pe_str (pa_cons pe_str (pa_cons pe_str (pa_cons pe_str (pa_cons pe_str (pa_cons pe_str (pa_cons pe_str (pa_cons pe_str (pa_cons pe_non (pa_cons pe_int pa_nil))))))))))))) pa_nil))) (pa_cons (pv 6) pa_nil))) (pg_sub (pv 2) (pv 3) set_list)))
  pss_nil)
  (pss_cons (ps_if (pt_cmpR op_eq (pv 4) pe_int (nomark _))
  (pss_one (ps_asg (pv 7) (pg_sub (pv 2) (pv 3) set_list)))
  pss_nil)
  (pss_cons (ps_if (pt_cmpR op_eq (pv 4) pe_int (nomark _))
  (pss_one (ps_set (i := 2) sc__law_bent.nd rfl (.inl rfl) (pe_op op_cat (pe_op op_cat (pe_slice (slL (K := K) rfl) (pv 2) po_none (po_some (pv 3))) (pe_lst (pa_cons (pv 7) pa_nil))) (pe_slice (slL (K := K) rfl) (pv 2) (po_some (pv 3)) po_none))))
  pss_nil)
  (pss_cons (ps_if (pt_cmpR op_eq (pv 4) pe_int (nomark _))
  (pss_one (ps_set (i := 2) sc__law_bent.nd rfl (.inl rfl) (pe_op op_cat (pe_slice (slL (K := K) rfl) (pv 2) po_none (po_some (pv 3))) (pe_slice (slL (K := K) rfl) (pv 2) (po_some (pe_op op_add (pv 3) pe_int)) po_none))))
  pss_nil)
  (pss_cons (ps_if (pt_cmpR op_eq (pv 4) pe_int (nomark _))
  (pss_one (ps_asg (pe_call C__law_pick.G hr (by rfl) C__law_pick.m C__law_pick.k C__law_pick.b .nil pass0 (pa_cons (pv 0) (pa_cons (pe_lst (pa_cons (pe_callTy (lstOf (K := K) rfl) (by rfl) T.list_ (by decide +kernel) (pa_cons (pe_ix (ixL (K := K) rfl) (pv 2) (pv 3) (fun _ _ => rfl)) pa_nil)) (pa_cons (pe_op op_catA (pe_ix (ixL (K := K) rfl) (pv 2) (pv 3) (fun _ _ => rfl)) (pe_tup (pa_cons pe_int pa_nil))) (pa_cons (pe_slice sl_tup (pe_ix (ixL (K := K) rfl) (pv 2) (pv 3) (fun _ _ => rfl)) po_none (po_some pe_int)) (pa_cons pe_non (pa_cons (pv 5) (pa_cons pe_int (pa_cons pe_dnewK pa_nil)))))))) pa_nil))) (pg_sub (pv 2) (pv 3) set_list)))
  pss_nil)
  (pss_one (ps_ret (pe_callTy call_tuple_of (by rfl) T.tuple_ (by decide +kernel) (pa_cons (pv 2) pa_nil))))))))))))), ?_⟩
    refine ⟨_, rfl, p, xs, rfl, .inr hS, fun l nl => ?_⟩
    have a1 := Gr.laid (o := .lst xs) D nl
    have nld : l ≠ d := D.ne nl
    refine ⟨_, rfl, _, rfl, .inl ⟨p, xs, rfl, .inr ((Tk.new nl).seq hS), d, _, rfl, a1.dice, by omega, by omega, fun r H1 r0 r1 D1 k1 => ?_⟩⟩
    have g1 := a1.trans (off_gr D1 k1)
    refine ⟨_, rfl, d, 6, rfl, D1, by decide, by decide, fun way H2 w0 w1 D2 k2 => ⟨_, _, _, rfl, ?_⟩⟩
    have g2 := g1.trans (off_gr D2 k2)
    have el : H2 l = some (.lst xs) := by rw [k2 l nld, k1 l nld]; exact upd_same
    obtain ⟨at_, rfl⟩ : ∃ a : Nat, r = (a : Int) := ⟨r.toNat, by omega⟩
    have hat : at_ < xs.length := by omega
    obtain ⟨qa, k, t, ev, hk, hq⟩ := hN.get (List.getElem?_eq_getElem hat)
    have ati : atI xs (at_ : Int) = some (.ref qa) := atI_nat (by rw [← ev]; exact List.getElem?_eq_getElem hat)
    have tk2 : Tk H H2 := g2.tk D
    have hm := List.mem_of_getElem? hk
    obtain ⟨eK, eT⟩ := good_elt (K := K) (H := H) (hg _ hm) fun z e => hw k z (by rw [← e]; exact hm)
    have bx : BAll K H xs := nds_b hN hg hw
    refine ⟨_, rfl, _, rfl, l, xs, _, .ref qa, rfl, rfl, SqL.of el, ati, qa, _, rfl, tk2.seq hq, rfl, _, _, rfl, _, _, rfl, rfl, ?_⟩
    -- node
    refine ⟨_, rfl, lenOk 2, fun t1 n1 => ?_⟩
    obtain ⟨j1, b1⟩ := bn_new (K := K) g2.dice n1 (eltS "fact" (by decide +kernel)) (toldS "a" (by decide +kernel) (by decide +kernel))
    refine ⟨lenOk 2, fun t2 n2 => ?_⟩
    obtain ⟨j2, b2⟩ := bn_new (K := K) j1.dice n2 (eltS "yes" (by decide +kernel)) (toldE (eltI 0) fun z e => nomatch e)
    refine ⟨lenOk 2, fun t3 n3 => ?_⟩
    obtain ⟨j3, b3⟩ := bn_new (K := K) j2.dice n3 (eltS "all" (by decide +kernel)) (toldE (eltI 2) fun z e => nomatch e)
    refine ⟨lenOk 2, fun t4 n4 => ?_⟩
    obtain ⟨j4, b4⟩ := bn_new (K := K) j3.dice n4 (eltS "mine" (by decide +kernel)) (toldE (eltI 2) fun z e => nomatch e)
    refine ⟨lenOk 2, fun t5 n5 => ?_⟩
    obtain ⟨j5, b5⟩ := bn_new (K := K) j4.dice n5 (eltS "some" (by decide +kernel)) (toldE (eltI 3) fun z e => nomatch e)
    refine ⟨lenOk 2, fun t6 n6 => ?_⟩
    obtain ⟨j6, b6⟩ := bn_new (K := K) j5.dice n6 (eltS "not" (by decide +kernel)) (toldS "b" (by decide +kernel) (by decide +kernel))
    refine ⟨lenOk 2, fun t7 n7 => ?_⟩
    obtain ⟨j7, b7⟩ := bn_new (K := K) j6.dice n7 (eltS "no" (by decide +kernel)) (toldE (eltI 0) fun z e => nomatch e)
    refine ⟨lenOk 7, fun l2 n8 => ?_⟩
    have j8 := Gr.laid (o := .lst [.ref t1, .ref t2, .ref t3, .ref t4, .ref t5, .ref t6, .ref t7]) j7.dice n8
    have bAll : BAll K _ [.ref t1, .ref t2, .ref t3, .ref t4, .ref t5, .ref t6, .ref t7] := fun v hv => by
      simp only [List.mem_cons, List.not_mem_nil, or_false] at hv
      rcases hv with rfl | rfl | rfl | rfl | rfl | rfl | rfl
      · exact b1.ku ((j2.trans (j3.trans (j4.trans (j5.trans (j6.trans (j7.trans j8)))))).ku j1.dice)
      · exact b2.ku ((j3.trans (j4.trans (j5.trans (j6.trans (j7.trans j8))))).ku j2.dice)
      · exact b3.ku ((j4.trans (j5.trans (j6.trans (j7.trans j8)))).ku j3.dice)
      · exact b4.ku ((j5.trans (j6.trans (j7.trans j8))).ku j4.dice)
      · exact b5.ku ((j6.trans (j7.trans j8)).ku j5.dice)
      · exact b6.ku ((j7.trans j8).ku j6.dice)
      · exact b7.ku (j8.ku j7.dice)
    have j := j1.trans (j2.trans (j3.trans (j4.trans (j5.trans (j6.trans (j7.trans j8))))))
    refine ⟨d, l2, _, rfl, j8.dice, SqL.of upd_same, j7.dice.ne n8, (show 0 < 7 by decide), (show 7 < 1000000 by decide), fun nv H3 hnv D3' k3 => ?_⟩
    have gn := off_gr (H := upd _ l2 _) D3' k3
    have bn := (bAll nv hnv).ku (gn.ku j8.dice)
    have g23 := j.trans gn
    have g3 := g2.trans g23
    have el3 : H3 l = some (.lst xs) := g23.keep _ _ nld el
    have bx3 : BAll K H3 xs := bx.ku (g3.ku D)
    clear j j1 j2 j3 j4 j5 j6 j7 j8 b1 b2 b3 b4 b5 b6 b7 bAll n1 n2 n3 n4 n5 n6 n7 n8 gn hnv k3
    have nlH : H l = none := nl
    have fin : ∀ ys H4 l4, Gr d H H4 → H4 l4 = some (.lst ys) → ys.length ≤ 15 → BAll K H4 ys → ∃ p ys, [V.ref l4] = [.ref p] ∧ ((SqL K H4 p ys ∧ ∀ l, H4 l = none → Q (.ref l) (upd H4 l (.tup ys))) ∨ (SqT K H4 p ys ∧ Q (.ref p) H4)) := fun ys H4 l4 g4 e4 h15 b4 =>
      ⟨l4, ys, rfl, .inl ⟨SqL.of e4, fun t nt => q t ys _ (g4.trans (.laid g4.dice nt)) (SqT.of upd_same) h15 (b4.ku (ku_same (same_new nt)))⟩⟩
    have wc : way = 0 ∨ way = 1 ∨ way = 2 ∨ way = 3 ∨ way = 4 ∨ way = 5 := by omega
    have setB : ∀ {H4 : Hp} {v : V}, Gr d H H4 → H4 l = some (.lst xs) → BAll K H4 xs → BNode K H4 v → Gr d H (upd H4 l (.lst (xs.set at_ v))) ∧ BAll K (upd H4 l (.lst (xs.set at_ v))) (xs.set at_ v) := fun {H4 v} g4 e4 b4 bv =>
      ⟨g4.put nlH nld, fun u hu => (List.mem_or_eq_of_mem_set hu).elim (fun h => (b4 u h).ku (Ku.put e4)) (fun h => by rw [h]; exact bv.ku (Ku.put e4))⟩
    rcases wc with rfl | rfl | rfl | rfl | rfl | rfl
    · refine ⟨_, rfl, rfl, _, rfl, iteT' (decide_eq_true rfl) ?_⟩
      refine ⟨_, rfl, _, rfl, _, rfl, Nat.zero_le _, fun t9 n9 => ⟨_, rfl, lenOk 17, fun l9 m9 => ?_⟩⟩
      have c1 := Gr.laid (o := .tup []) g3.dice n9
      have c2 := Gr.laid (o := .lst [t, .int 0, .int 1, .int 2, .int 3, .int 4, .int 5, .non, .bl true, .bl false, .str "a", .str "A", .str "yes", .str "", .ref t9, .int (-1), .str "abcdefghi"]) c1.dice m9
      refine ⟨d, l9, _, rfl, c2.dice, SqL.of upd_same, c1.dice.ne m9, (show 0 < 17 by decide), (show 17 < 1000000 by decide), fun x H5 hx D5 k5 => ?_⟩
      have c3 := (c1.trans c2).trans (off_gr D5 k5)
      have tk5 : Tk H H5 := (g3.trans c3).tk D
      have s9 : SqT K H5 t9 [] := ((c2.trans (off_gr D5 k5)).tk c1.dice).seq (SqT.of upd_same)
      have tx : ToldOk K H5 x := by
        simp only [List.mem_cons, List.not_mem_nil, or_false] at hx
        rcases hx with rfl | rfl | rfl | rfl | rfl | rfl | rfl | rfl | rfl | rfl | rfl | rfl | rfl | rfl | rfl | rfl | rfl
        · exact eT.tk tk5
        all_goals first
          | exact toldE (eltI _) (fun z e => nomatch e)
          | exact toldE eltN (fun z e => nomatch e)
          | exact toldE (eltB _) (fun z e => nomatch e)
          | exact toldS _ (by decide +kernel) (by decide +kernel)
          | exact toldE (eltT s9) (fun z e => nomatch e)
      refine ⟨lenOk 2, fun ta na => ?_⟩
      obtain ⟨c4, bt⟩ := bn_new (K := K) c3.dice na (eK.tk tk5) tx
      have c5 := c3.trans c4
      have e5 := c5.keep _ _ nld el3
      obtain ⟨c6, c7⟩ := setB (g3.trans c5) e5 (bx3.ku (c5.ku g3.dice)) bt
      refine ⟨_, rfl, _, rfl, l, xs, _, at_, rfl, rfl, e5, ixN_nat hat, ?_⟩
      refine ⟨_, rfl, rfl, _, rfl, iteF' (by decide +kernel) ?_⟩
      refine ⟨_, rfl, rfl, _, rfl, iteF' (by decide +kernel) ?_⟩
      refine ⟨_, rfl, rfl, _, rfl, iteF' (by decide +kernel) ?_⟩
      refine ⟨_, rfl, rfl, _, rfl, iteF' (by decide +kernel) ?_⟩
      refine ⟨_, rfl, rfl, _, rfl, iteF' (by decide +kernel) ?_⟩
      exact ⟨_, rfl, fin _ _ l c6 upd_same (by rw [List.length_set]; omega) c7⟩
    · refine ⟨_, rfl, rfl, _, rfl, iteF' (by decide +kernel) ?_⟩
      refine ⟨_, rfl, rfl, _, rfl, iteT' (decide_eq_true rfl) ?_⟩
      refine ⟨_, rfl, lenOk 12, fun l9 m9 => ?_⟩
      have c2 := Gr.laid (o := .lst [.str "all", .str "some", .str "mine", .str "yours", .str "fact", .str "not", .str "yes", .str "no", .str "or", .str "", .non, .int 0]) g3.dice m9
      refine ⟨d, l9, _, rfl, c2.dice, SqL.of upd_same, g3.dice.ne m9, (show 0 < 12 by decide), (show 12 < 1000000 by decide), fun x H5 hx D5 k5 => ?_⟩
      have c3 := c2.trans (off_gr D5 k5)
      have tk5 : Tk H H5 := (g3.trans c3).tk D
      have tx : Elt K H5 x := by
        simp only [List.mem_cons, List.not_mem_nil, or_false] at hx
        rcases hx with rfl | rfl | rfl | rfl | rfl | rfl | rfl | rfl | rfl | rfl | rfl | rfl
        all_goals first
          | exact eltI _
          | exact eltN
          | exact eltS _ (by decide +kernel)
      refine ⟨_, rfl, lenOk 2, fun ta na => ?_⟩
      obtain ⟨c4, bt⟩ := bn_new (K := K) c3.dice na tx (eT.tk tk5)
      have c5 := c3.trans c4
      have e5 := c5.keep _ _ nld el3
      obtain ⟨c6, c7⟩ := setB (g3.trans c5) e5 (bx3.ku (c5.ku g3.dice)) bt
      refine ⟨_, rfl, _, rfl, l, xs, _, at_, rfl, rfl, e5, ixN_nat hat, ?_⟩
      refine ⟨_, rfl, rfl, _, rfl, iteF' (by decide +kernel) ?_⟩
      refine ⟨_, rfl, rfl, _, rfl, iteF' (by decide +kernel) ?_⟩
      refine ⟨_, rfl, rfl, _, rfl, iteF' (by decide +kernel) ?_⟩
      refine ⟨_, rfl, rfl, _, rfl, iteF' (by decide +kernel) ?_⟩
      exact ⟨_, rfl, fin _ _ l c6 upd_same (by rw [List.length_set]; omega) c7⟩
    · refine ⟨_, rfl, rfl, _, rfl, iteF' (by decide +kernel) ?_⟩
      refine ⟨_, rfl, rfl, _, rfl, iteF' (by decide +kernel) ?_⟩
      refine ⟨_, rfl, rfl, _, rfl, iteT' (decide_eq_true rfl) ?_⟩
      obtain ⟨c6, c7⟩ := setB g3 el3 bx3 bn
      refine ⟨_, rfl, _, rfl, _, rfl, l, xs, _, at_, rfl, rfl, el3, ixN_nat hat, ?_⟩
      refine ⟨_, rfl, rfl, _, rfl, iteF' (by decide +kernel) ?_⟩
      refine ⟨_, rfl, rfl, _, rfl, iteF' (by decide +kernel) ?_⟩
      refine ⟨_, rfl, rfl, _, rfl, iteF' (by decide +kernel) ?_⟩
      exact ⟨_, rfl, fin _ _ l c6 upd_same (by rw [List.length_set]; omega) c7⟩
    · refine ⟨_, rfl, rfl, _, rfl, iteF' (by decide +kernel) ?_⟩
      refine ⟨_, rfl, rfl, _, rfl, iteF' (by decide +kernel) ?_⟩
      refine ⟨_, rfl, rfl, _, rfl, iteF' (by decide +kernel) ?_⟩
      refine ⟨_, rfl, rfl, _, rfl, iteT' (decide_eq_true rfl) ?_⟩
      refine ⟨_, rfl, _, rfl, _, rfl, l, xs, rfl, SqL.of el3, fun l3 n3 => ?_⟩
      rw [cutA]
      refine ⟨_, rfl, lenOk 1, fun l4 n4 => ?_⟩
      have c1 := Gr.laid (o := .lst (xs.take at_)) g3.dice n3
      have c2 := Gr.laid (o := .lst [nv]) c1.dice n4
      have m3 : l3 ≠ d := g3.dice.ne n3
      refine ⟨l3, l4, _, _, rfl, rfl, c2.keep _ _ m3 upd_same, upd_same, Nat.le_of_lt (small (by rw [List.length_take]; show min at_ xs.length + 1 < _; omega)), fun l5 n5 => ?_⟩
      have c3 := Gr.laid (o := .lst (xs.take at_ ++ [nv])) c2.dice n5
      have m5 : l5 ≠ d := c2.dice.ne n5
      have c13 := c1.trans (c2.trans c3)
      refine ⟨_, rfl, _, rfl, _, rfl, l, xs, rfl, SqL.of (c13.keep _ _ nld el3), fun l6 n6 => ?_⟩
      rw [cutB xs at_ (by omega)]
      have c4 := Gr.laid (o := .lst (xs.drop at_)) c3.dice n6
      have hl : (xs.take at_ ++ [nv]).length + (xs.drop at_).length = xs.length + 1 := by
        rw [List.length_append, List.length_take, List.length_drop]
        show min at_ xs.length + 1 + _ = _
        omega
      refine ⟨l5, l6, _, _, rfl, rfl, c4.keep _ _ m5 upd_same, upd_same, Nat.le_of_lt (small (by omega)), fun l7 n7 => ?_⟩
      have c5 := Gr.laid (o := .lst (xs.take at_ ++ [nv] ++ xs.drop at_)) c4.dice n7
      have c6 := c13.trans (c4.trans c5)
      refine ⟨_, rfl, rfl, _, rfl, iteF' (by decide +kernel) ?_⟩
      refine ⟨_, rfl, rfl, _, rfl, iteF' (by decide +kernel) ?_⟩
      refine ⟨_, rfl, fin _ _ l7 (g3.trans c6) upd_same (by rw [List.length_append]; omega) fun v hv => BNode.ku ?_ (c6.ku g3.dice)⟩
      rcases List.mem_append.mp hv with h | h
      · rcases List.mem_append.mp h with h | h
        · exact bx3 v (List.mem_of_mem_take h)
        · rw [List.mem_singleton.mp h]
          exact bn
      · exact bx3 v (List.mem_of_mem_drop h)
    · refine ⟨_, rfl, rfl, _, rfl, iteF' (by decide +kernel) ?_⟩
      refine ⟨_, rfl, rfl, _, rfl, iteF' (by decide +kernel) ?_⟩
      refine ⟨_, rfl, rfl, _, rfl, iteF' (by decide +kernel) ?_⟩
      refine ⟨_, rfl, rfl, _, rfl, iteF' (by decide +kernel) ?_⟩
      refine ⟨_, rfl, rfl, _, rfl, iteT' (decide_eq_true rfl) ?_⟩
      refine ⟨_, rfl, _, rfl, _, rfl, l, xs, rfl, SqL.of el3, fun l3 n3 => ?_⟩
      rw [cutA]
      have c1 := Gr.laid (o := .lst (xs.take at_)) g3.dice n3
      have m3 : l3 ≠ d := g3.dice.ne n3
      refine ⟨_, rfl, _, rfl, _, _, rfl, rfl, _, rfl, l, xs, rfl, SqL.of (c1.keep _ _ nld el3), fun l6 n6 => ?_⟩
      rw [show ((at_ : Int) + 1) = ((at_ + 1 : Nat) : Int) from rfl, cutB xs (at_ + 1) (by omega)]
      have c4 := Gr.laid (o := .lst (xs.drop (at_ + 1))) c1.dice n6
      have hl : (xs.take at_).length + (xs.drop (at_ + 1)).length ≤ xs.length := by
        rw [List.length_take, List.length_drop]
        omega
      refine ⟨l3, l6, _, _, rfl, rfl, c4.keep _ _ m3 upd_same, upd_same, Nat.le_of_lt (small (by omega)), fun l7 n7 => ?_⟩
      have c5 := Gr.laid (o := .lst (xs.take at_ ++ xs.drop (at_ + 1))) c4.dice n7
      have c6 := c1.trans (c4.trans c5)
      refine ⟨_, rfl, rfl, _, rfl, iteF' (by decide +kernel) ?_⟩
      refine ⟨_, rfl, fin _ _ l7 (g3.trans c6) upd_same (by rw [List.length_append]; omega) fun v hv => BNode.ku ?_ (c6.ku g3.dice)⟩
      rcases List.mem_append.mp hv with h | h
      · exact bx3 v (List.mem_of_mem_take h)
      · exact bx3 v (List.mem_of_mem_drop h)
    · refine ⟨_, rfl, rfl, _, rfl, iteF' (by decide +kernel) ?_⟩
      refine ⟨_, rfl, rfl, _, rfl, iteF' (by decide +kernel) ?_⟩
      refine ⟨_, rfl, rfl, _, rfl, iteF' (by decide +kernel) ?_⟩
      refine ⟨_, rfl, rfl, _, rfl, iteF' (by decide +kernel) ?_⟩
      refine ⟨_, rfl, rfl, _, rfl, iteF' (by decide +kernel) ?_⟩
      refine ⟨_, rfl, rfl, _, rfl, iteT' (decide_eq_true rfl) ?_⟩
      have hq3 : SqT K H3 qa [.str k, t] := (g3.tk D).seq hq
      refine ⟨_, rfl, _, rfl, _, rfl, l, xs, _, .ref qa, rfl, rfl, SqL.of el3, ati, qa, _, rfl, .inr hq3, fun l3 n3 => ?_⟩
      have c1 := Gr.laid (o := .lst [.str k, t]) g3.dice n3
      refine ⟨_, rfl, _, rfl, l, xs, _, .ref qa, rfl, rfl, SqL.of (c1.keep _ _ nld el3), ati, lenOk 1, fun t4 n4 => ?_⟩
      have c2 := Gr.laid (o := .tup [.int 0]) c1.dice n4
      have c12 := c1.trans c2
      refine ⟨qa, t4, _, _, rfl, rfl, (c12.tk g3.dice).seq hq3, SqT.of upd_same, lenS 3, (fun e => nomatch e), (fun _ e => nomatch e), fun _ _ p5 n5 => ?_⟩
      have c3 := Gr.laid (o := .tup ([.str k, t] ++ [.int 0])) c2.dice n5
      have c13 := c12.trans c3
      refine ⟨_, rfl, _, rfl, l, xs, _, .ref qa, rfl, rfl, SqL.of (c13.keep _ _ nld el3), ati, _, rfl, qa, _, rfl, (c13.tk g3.dice).seq hq3, (fun h => absurd h.2 (show ¬ (min 1 2 = 2) by decide)), fun t6 n6 => ?_⟩
      have c4 := Gr.laid (o := .tup [.str k]) c3.dice n6
      refine ⟨_, rfl, fun p7 n7 => ?_⟩
      have c5 := Gr.laid (o := .dK []) c4.dice n7
      refine ⟨lenOk 7, fun l8 n8 => ?_⟩
      have c6 := Gr.laid (o := .lst [.ref l3, .ref p5, .ref t6, .non, .str k, .int 0, .ref p7]) c5.dice n8
      refine ⟨d, l8, _, rfl, c6.dice, SqL.of upd_same, c5.dice.ne n8, (show 0 < 7 by decide), (show 7 < 1000000 by decide), fun x H5 hx D5 k5 => ?_⟩
      have c7 := off_gr (H := upd _ l8 _) D5 k5
      have c47 := c4.trans (c5.trans (c6.trans c7))
      have c17 := c13.trans c47
      have e5 := c17.keep _ _ nld el3
      have bt : BNode K H5 x := by
        simp only [List.mem_cons, List.not_mem_nil, or_false] at hx
        rcases hx with rfl | rfl | rfl | rfl | rfl | rfl | rfl
        · exact none_b (.other (.inr (.inr (.inr (.inr (.inl ⟨l3, _, rfl, (c2.trans (c3.trans c47)).keep _ _ (g3.dice.ne n3) upd_same⟩))))))
        · exact none_b (.tup ((c47.tk c3.dice).seq (SqT.of upd_same)) (show ¬ (3 = 2) by decide) (show 3 < 1000000 by decide))
        · exact none_b (.tup (((c5.trans (c6.trans c7)).tk c4.dice).seq (SqT.of upd_same)) (show ¬ (1 = 2) by decide) (show 1 < 1000000 by decide))
        · exact none_b (.other (.inr (.inr (.inr (.inl rfl)))))
        · exact none_b (.other (.inl ⟨k, rfl⟩))
        · exact none_b (.other (.inr (.inl ⟨0, rfl⟩)))
        · exact none_b (.other (.inr (.inr (.inr (.inr (.inr ⟨p7, [], rfl, (c6.trans c7).keep _ _ (c4.dice.ne n7) upd_same⟩))))))
      obtain ⟨d6, d7⟩ := setB (g3.trans c17) e5 (bx3.ku (c17.ku g3.dice)) bt
      refine ⟨_, rfl, _, rfl, l, xs, _, at_, rfl, rfl, e5, ixN_nat hat, ?_⟩
      exact ⟨_, rfl, fin _ _ l d6 upd_same (by rw [List.length_set]; omega) d7⟩
end
end Eh

set_option Elab.async false
set_option linter.all false
set_option maxRecDepth 100000
set_option maxHeartbeats 4000000
namespace Eh
open PySem PySem.Spec PyProof.Rows L2
section
variable {P : Program} {w : World} {K : PySem.W.Frag} {mg : Str → Option Value} {base : Heap}
def spRight : Sp := fun vs H Q _ => ∃ d, vs = [.ref d] ∧ D3 H d ∧ ∀ H', Gr d H H' → Q (.bl true) H'
theorem ok_right {fP fN fM fD fB f : Addr} {fdP fdN fdM fdD fdB fd : FuncData} (F : Fun K "_law_right" "_law_right" s__law_right f fd) (T : Txt mg)
    (C__law_promise : Cal P w K mg base 26 "_law_promise" fP fdP ["dice"] (spPromise K)) (C__law_nodes : Cal P w K mg base 12 "_law_nodes" fN fdN ["plain"] (spNodes K 11)) (C__law_is_made : Cal P w K mg base 6 "_law_is_made" fM fdM ["nodes"] (spMade K))
    (C__law_due : Cal P w K mg base 2 "_law_due" fD fdD ["nodes"] (spDue K)) (C__law_bent : Cal P w K mg base 3 "_law_bent" fB fdB ["dice", "nodes"] (spBent K)) : FnOk P w K mg base CX0 27 f fd ["dice"] spRight := by
  refine F.ok sc__law_right (fun vs H Q E h => ?_) (fun cdv A outer s H vs Q E hr h => ?_)
  · obtain ⟨d, rfl, _⟩ := h
    rfl
  · obtain ⟨d, rfl, D, q⟩ := h
    have hr12 := hr.mono (j := 12) (by omega)
    have hr6 := hr.mono (j := 6) (by omega)
    have hr3 := hr.mono (j := 3) (by omega)
    have hr2 := hr.mono (j := 2) (by omega)
    refine ⟨_, (pss_cons (ps_set (i := 1) sc__law_right.nd rfl (.inl rfl) (pe_callTy call_tuple_of (by rfl) T.tuple_ (by decide +kernel) (pa_cons (pe_call C__law_nodes.G hr12 (by rfl) C__law_nodes.m C__law_nodes.k C__law_nodes.b .nil pass0 (pa_cons (pe_call C__law_promise.G hr (by rfl) C__law_promise.m C__law_promise.k C__law_promise.b .nil pass0 (pa_cons (pv 0) pa_nil)) pa_nil)) pa_nil)))
  (pss_cons (ps_if (PW.pt (pw_or (pt_not (pt_val (pe_call C__law_is_made.G hr6 (by rfl) C__law_is_made.m C__law_is_made.k C__law_is_made.b .nil pass0 (pa_cons (pv 1) pa_nil)))) (pw_or1 (pt_not (pt_val (pe_call C__law_due.G hr2 (by rfl) C__law_due.m C__law_due.k C__law_due.b .nil pass0 (pa_cons (pv 1) pa_nil)))))))
  (pss_one (ps_ret pe_bl))
  pss_nil)
  (pss_cons (ps_for PassesOwn.never (by rfl) (pi_range1 (by rfl) T.range_ (pa_cons pe_int pa_nil)) (pg_name (i := 2) sc__law_right.nd rfl (.inl rfl))
  (pss_cons (ps_set (i := 3) sc__law_right.nd rfl (.inl rfl) (pe_call C__law_bent.G hr3 (by rfl) C__law_bent.m C__law_bent.k C__law_bent.b .nil pass0 (pa_cons (pv 0) (pa_cons (pv 1) pa_nil))))
  (pss_one (ps_if (pt_cmpR op_ne (pe_call C__law_is_made.G hr6 (by rfl) C__law_is_made.m C__law_is_made.k C__law_is_made.b .nil pass0 (pa_cons (pv 3) pa_nil)) (pe_call C__law_due.G hr2 (by rfl) C__law_due.m C__law_due.k C__law_due.b .nil pass0 (pa_cons (pv 3) pa_nil)) (nomark _))
  (pss_one (ps_ret pe_bl))
  pss_nil))))
  (pss_cons (ps_set (i := 4) sc__law_right.nd rfl (.inl rfl) (pe_lst (pa_cons pe_non (pa_cons pe_int (pa_cons (pe_tup pa_nil) (pa_cons (pe_callTy (lstOf (K := K) rfl) (by rfl) T.list_ (by decide +kernel) (pa_cons (pv 1) pa_nil)) (pa_cons (pe_ix (ixT (K := K) rfl) (pv 1) pe_int (fun _ _ => rfl)) (pa_cons pe_str (pa_cons pe_dnewK (pa_cons (pe_tup (pa_cons (pv 1) pa_nil)) (pa_cons (pe_op op_catA (pv 1) (pv 1)) (pa_cons pe_bl pa_nil))))))))))))
  (pss_one (ps_ret (pe_cmpR (eqEL (K := K) rfl (hu0 hr)) (pe_lc (own := [("value", 5)]) (g := gName 5) (by rfl) sc__law_right.nd (piL (K := K) rfl (pv 4)) (blkOk_by (by kernel_rfl)) (fun _ _ _ _ _ => (pg_name (i := 5) sc__law_right.nd rfl (.inl rfl))) (fun _ _ _ _ _ => (pts_one (pt_val (pe_call C__law_is_made.G hr6 (by rfl) C__law_is_made.m C__law_is_made.k C__law_is_made.b .nil pass0 (pa_cons (pv 5) pa_nil))))) (fun _ _ _ _ _ => (pv 5))) (pe_lst pa_nil) (nomark _)))))))), ?_⟩
    refine ⟨_, rfl, d, rfl, D, fun v pl ws H1 g1 A1 hw3 hwu hwi hl11 hc4 => ?_⟩
    have w1 : InW uni6 (nodesOf pl) := fun k z m => hwu z (hwi k z m)
    refine ⟨v, pl, rfl, A1, hl11, by decide, fun xs l H2 s2 n2 e2 N2 => ?_⟩
    obtain ⟨du, gd⟩ := A1.due w1
    have hdue : dueGo 1 (nodesOf pl) = true := by
      have := du 0 []
      rw [List.append_nil] at this
      exact this
    generalize hns : nodesOf pl = ns at w1 hl11 N2 gd hdue du
    have hxn := N2.length
    refine ⟨l, xs, rfl, .inl ⟨SqL.of e2, fun p np => ?_⟩⟩
    have s3 : Same H1 (upd H2 p (.tup xs)) := s2.trans (same_new np)
    have g3 : Gr d H (upd H2 p (.tup xs)) := g1.trans (same_gr g1.dice s3)
    have h3 : SqT K (upd H2 p (.tup xs)) p xs := SqT.of upd_same
    have N3 := N2.tk (Tk.new (o := .tup xs) np)
    generalize upd H2 p (.tup xs) = H3 at g3 h3 N3 ⊢
    clear s3 s2 N2 e2 n2 np A1 g1
    have hnpos : 0 < ns.length := by rw [← hns]; exact nodesOf_pos pl
    have okn : okNs (ns.map some) = true := by rw [not_due_of rfl]; exact hdue
    have few0 : Few (ns.map some) true := by
      have := few_of (nds := ns.map some) (fact_some w1) (by rw [List.length_map]; omega)
      rw [okn] at this
      exact this
    have nv0 : ∀ H', Ku H3 H' → NodesV K H' (.ref p) (ns.map some) true := fun H' k => by
      have := NodesV.tup (h3) (nds_all N3 gd w1)
      rw [okn] at this
      exact this.ku k
    refine ⟨_, rfl, .ref p, _, true, rfl, nv0 _ (ku_same (Same.refl _)), few0, fun H4 s4 => ⟨_, rfl, iteF ?_⟩⟩
    refine ⟨_, rfl, .ref p, _, true, rfl, nv0 _ (ku_same s4), by have := few0.len; omega, fun H5 s5 => ⟨_, rfl, iteF ?_⟩⟩
    have g5 : Gr d H H5 := g3.trans (same_gr g3.dice (s4.trans s5))
    have h5 : SqT K H5 p xs := (stk (s4.trans s5)).seq h3
    have N5 := N3.tk (stk (s4.trans s5))
    clear nv0
    refine ⟨10, rfl, by decide, by decide, ?_⟩
    refine for_range (lo := 0) (n := 10) (fun i σ H6 => (∃ x2 x3 x4 x5, σ = [some (.ref d), some (.ref p), x2, x3, x4, x5]) ∧ Gr d H5 H6) ⟨⟨_, _, _, _, rfl⟩, .refl g5.dice⟩ ?_ ?_
    · rintro i σ H6 hi ⟨⟨x2, x3, x4, x5, rfl⟩, g6⟩
      have t6 := g6.tk g5.dice
      refine ⟨_, rfl, _, rfl, d, p, xs, ns, rfl, g6.dice, t6.seq h5, N5.tk t6, gd, w1, by omega, by omega, fun t ys H7 g7 h7 l15 b7 => ?_⟩
      obtain ⟨nds, na, nl, nf⟩ := b7.nodes
      have few7 := few_of nf (by omega)
      refine ⟨_, rfl, .ref t, nds, _, rfl, .tup h7 na, few7, fun H8 s8 => ?_⟩
      refine ⟨_, rfl, .ref t, nds, _, rfl, (NodesV.tup h7 na).ku (ku_same s8), by omega, fun H9 s9 => ?_⟩
      refine ⟨rfl, _, rfl, neSelf ?_⟩
      exact ⟨⟨_, _, _, _, rfl⟩, g6.trans (g7.trans (same_gr g7.dice (s8.trans s9)))⟩
    · rintro σ H6 ⟨⟨x2, x3, x4, x5, rfl⟩, g6⟩
      have t6 := g6.tk g5.dice
      have h6 := t6.seq h5
      have N6 := N5.tk t6
      have gg : Gr d H H6 := g5.trans g6
      clear g6 t6 h5 N5
      refine ⟨Nat.zero_le _, fun t1 n1 => ?_⟩
      have c1 := Gr.laid (o := .tup []) gg.dice n1
      refine ⟨_, rfl, p, xs, rfl, .inr ((c1.tk gg.dice).seq h6), fun l2 n2 => ?_⟩
      have c2 := Gr.laid (o := .lst xs) c1.dice n2
      have c12 := c1.trans c2
      obtain ⟨q0, k0, u0, ex0, hk0, hq0⟩ := N6.get (List.getElem?_eq_getElem (show 0 < xs.length by omega))
      have at0 : atI xs 0 = some (.ref q0) := atI_nat (j := 0) (by rw [← ex0]; exact List.getElem?_eq_getElem (show 0 < xs.length by omega))
      refine ⟨_, rfl, p, xs, 0, .ref q0, rfl, rfl, (c12.tk gg.dice).seq h6, at0, fun l3 n3 => ?_⟩
      have c3 := Gr.laid (o := .dK []) c2.dice n3
      refine ⟨_, rfl, lenOk 1, fun t4 n4 => ?_⟩
      have c4 := Gr.laid (o := .tup [.ref p]) c3.dice n4
      have c14 := c12.trans (c3.trans c4)
      have h64 := (c14.tk gg.dice).seq h6
      refine ⟨_, rfl, _, rfl, p, p, xs, xs, rfl, rfl, h64, h64, Nat.le_of_lt (small (by omega)), (fun e => by rw [e] at hxn; exact absurd hxn (by show ¬ (0 = ns.length); omega)), (fun _ e => by rw [e] at hxn; exact absurd hxn (by show ¬ (0 = ns.length); omega)), fun _ _ t5 n5 => ?_⟩
      have c5 := Gr.laid (o := .tup (xs ++ xs)) c4.dice n5
      refine ⟨lenOk 10, fun lo n6 => ?_⟩
      obtain ⟨od, eod⟩ : ∃ od : List V, od = [.non, .int 0, .ref t1, .ref l2, .ref q0, .str "a", .ref l3, .ref t4, .ref t5, .bl true] := ⟨_, rfl⟩
      rw [← eod]
      have hod : od.length = 10 := by rw [eod]; rfl
      have c6 := Gr.laid (o := .lst od) c5.dice n6
      have c26 := c3.trans (c4.trans (c5.trans c6))
      have c16 := c12.trans c26
      have oddAll : ∀ v ∈ od, Odd K (upd (upd (upd (upd (upd (upd H6 t1 (.tup [])) l2 (.lst xs)) l3 (.dK [])) t4 (.tup [.ref p])) t5 (.tup (xs ++ xs))) lo (.lst od)) v := by
        intro v hv
        rw [eod] at hv
        simp only [List.mem_cons, List.not_mem_nil, or_false] at hv
        have hg0 := gd _ (List.mem_of_getElem? hk0)
        obtain ⟨f1, f2⟩ := good_elt (K := K) (H := H6) hg0 fun z e => w1 k0 z (by rw [← e]; exact List.mem_of_getElem? hk0)
        rcases hv with rfl | rfl | rfl | rfl | rfl | rfl | rfl | rfl | rfl | rfl
        · exact odd_no (.inr (.inr (.inr (.inl rfl))))
        · exact odd_no (.inr (.inl ⟨0, rfl⟩))
        · exact odd_tup (((c2.trans c26).tk c1.dice).seq (SqT.of upd_same)) .nil rfl (by decide) fun _ h => nomatch h
        · exact odd_no (.inr (.inr (.inr (.inr (.inl ⟨l2, _, rfl, c26.keep _ _ (c1.dice.ne n2) upd_same⟩)))))
        · have nu : NoT (upd (upd (upd (upd (upd (upd H6 t1 (.tup [])) l2 (.lst xs)) l3 (.dK [])) t4 (.tup [.ref p])) t5 (.tup (xs ++ xs))) lo (.lst od)) u0 := by
            cases u0 with
            | str z => exact .inl ⟨z, rfl⟩
            | int i => exact .inr (.inl ⟨i, rfl⟩)
            | _ =>
              exfalso
              unfold nodeAB at hg0
              split at hg0
              · cases hg0
              · split at hg0
                · cases hg0
                · rw [Bool.and_eq_true] at hg0
                  cases hg0.2
          exact odd_tup ((c16.tk gg.dice).seq hq0) (.cons (.other (.inl ⟨k0, rfl⟩)) (.cons (.other nu) .nil)) (by decide) (by decide) fact_none2
        · exact odd_no (.inl ⟨_, rfl⟩)
        · exact odd_no (.inr (.inr (.inr (.inr (.inr ⟨l3, [], rfl, (c4.trans (c5.trans c6)).keep _ _ (c2.dice.ne n3) upd_same⟩)))))
        · have hp : NdV K (upd (upd (upd (upd (upd (upd H6 t1 (.tup [])) l2 (.lst xs)) l3 (.dK [])) t4 (.tup [.ref p])) t5 (.tup (xs ++ xs))) lo (.lst od)) (.ref p) none := by
            have hs := (c16.tk gg.dice).seq h6
            have N7 := N6.tk (c16.tk gg.dice)
            by_cases h2 : xs.length = 2
            · match xs, h2, hs, N7 with
              | [a, b], _, hs, N7 =>
                cases N7 with
                | cons ha r =>
                  cases r with
                  | cons hb r' => exact .pair hs (eltT ha) (eltT hb)
            · exact .tup hs h2 (by omega)
          exact odd_tup (((c5.trans c6).tk c4.dice).seq (SqT.of upd_same)) (.cons hp .nil) (by decide) (by decide) fact_none
        · have N7 := nds_all (N6.tk (c16.tk gg.dice)) gd w1
          refine odd_tup ((c6.tk c5.dice).seq (SqT.of upd_same)) (N7.app N7) ?_ ?_ ?_
          · rw [← List.map_append, not_due_of rfl, du 0 ns]
            cases ns with
            | nil => exact absurd hnpos (by decide)
            | cons _ _ => rfl
          · rw [List.length_append, List.length_map]
            omega
          · intro n hn
            rcases List.mem_append.mp hn with h | h
            · exact fact_some w1 n h
            · exact fact_some w1 n h
        · exact odd_no (.inr (.inr (.inl ⟨true, rfl⟩)))
      have gl := gg.trans c16
      have nlo : lo ≠ d := c5.dice.ne n6
      have elo : (upd (upd (upd (upd (upd (upd H6 t1 (.tup [])) l2 (.lst xs)) l3 (.dK [])) t4 (.tup [.ref p])) t5 (.tup (xs ++ xs))) lo (.lst od)) lo = some (.lst od) := upd_same
      generalize (upd (upd (upd (upd (upd (upd H6 t1 (.tup [])) l2 (.lst xs)) l3 (.dK [])) t4 (.tup [.ref p])) t5 (.tup (xs ++ xs))) lo (.lst od)) = H7 at gl oddAll elo ⊢
      refine ⟨_, rfl, lo, rfl, ⟨od, SqL.of elo⟩, fun Dc nD => ?_⟩
      have s8 : Same H7 (upd H7 Dc (.lst [])) := same_new nD
      have nlD : lo ≠ Dc := ne_of_none elo nD
      refine lcL (K := K) (a := lo) (xs := od) (fun j acc H9 => Same H7 H9 ∧ acc = []) ⟨s8, rfl⟩ (fun j acc H9 h => SqL.of (h.1 _ _ elo)) ?_ ?_
      · rintro j x acc H9 hx hl e ⟨s9, rfl⟩
        obtain ⟨nds, nv, fw⟩ := (oddAll x (List.mem_of_getElem? hx)).ku (ku_same s9)
        refine ⟨_, rfl, x, nds, false, rfl, nv, fw, fun Ha sa => ⟨_, rfl, iteF ⟨[], Nat.zero_le _, sa _ _ e, s9.trans sa, rfl⟩⟩⟩
      · rintro acc H9 hl e ⟨s9, rfl⟩
        refine ⟨Nat.zero_le _, fun le ne => ⟨Dc, le, [], rfl, rfl, SqL.of (same_new ne _ _ e), SqL.of upd_same, ?_⟩⟩
        exact q _ (gl.trans ((same_gr gl.dice s9).trans (.laid (same_gr gl.dice s9).dice ne)))
end
end Eh

set_option Elab.async false
set_option linter.all false
set_option maxRecDepth 100000
set_option maxHeartbeats 4000000
namespace Eh
open PySem PySem.Spec PyProof.Rows L2
theorem dp_bls {K : PySem.W.Frag} {H : Hp} : ∀ zs : List Bool, DpAll K H (zs.map V.bl) (zs.map PyData.bool)
  | [] => .nil
  | z :: zs => .cons (.bl z) (dp_bls zs)
/-- what a row is to be judged -/
def Row (K : PySem.W.Frag) (H : Hp) (v : V) (b : Bool) : Prop := ∃ nds, NodesV K H v nds b ∧ Few nds b
theorem Row.ku {K : PySem.W.Frag} {H H' : Hp} {v : V} {b : Bool} (h : Row K H v b) (k : Ku H H') : Row K H' v b := by
  obtain ⟨nds, a, c⟩ := h
  exact ⟨nds, a.ku k, c⟩
theorem row_tup {K : PySem.W.Frag} {H : Hp} {p : Addr} {xs : List V} {nds : List (Option (Str × V))} {b : Bool} (h : SqT K H p xs) (n : NdAll K H xs nds) (e : okNs nds = b) (l : nds.length ≤ 15) (f : ∀ n ∈ nds, FactOk n) : Row K H (.ref p) b := by
  subst e
  exact ⟨nds, .tup h n, few_of f l⟩
theorem pair_f {K : PySem.W.Frag} {H : Hp} {a b : V} (tb : ToldOk K H b) : FactOk (pairNd a b) := fun k z e => by
  obtain ⟨_, e2, g⟩ := pairNd_some e
  have e2 : b = .str z := e2
  exact tb.2 z e2 (node_str g)
theorem f1 {a : Option (Str × V)} (h : FactOk a) : ∀ n ∈ [a], FactOk n := fun n hn => by rw [List.mem_singleton.mp hn]; exact h
theorem f2 {a b : Option (Str × V)} (h : FactOk a) (k : FactOk b) : ∀ n ∈ [a, b], FactOk n := fun n hn => by
  rcases List.mem_cons.mp hn with e | e
  · rw [e]; exact h
  · exact f1 k n e
theorem f3 {a b c : Option (Str × V)} (h : FactOk a) (k : FactOk b) (m : FactOk c) : ∀ n ∈ [a, b, c], FactOk n := fun n hn => by
  rcases List.mem_cons.mp hn with e | e
  · rw [e]; exact h
  · exact f2 k m n e
def flags : List Bool := [true, false, false, false, true]
theorem rows5 {K : PySem.W.Frag} {H : Hp} {r1 r2 r3 r4 r5 : V} (w1 : Row K H r1 true) (w2 : Row K H r2 false) (w3 : Row K H r3 false) (w4 : Row K H r4 false) (w5 : Row K H r5 true) :
    ∀ (j : Nat) (v : V), ([r1, r2, r3, r4, r5] : List V)[j]? = some v → ∃ b, flags[j]? = some b ∧ Row K H v b
  | 0, v, h => by
    cases (show some r1 = some v from h)
    exact ⟨_, rfl, w1⟩
  | 1, v, h => by
    cases (show some r2 = some v from h)
    exact ⟨_, rfl, w2⟩
  | 2, v, h => by
    cases (show some r3 = some v from h)
    exact ⟨_, rfl, w3⟩
  | 3, v, h => by
    cases (show some r4 = some v from h)
    exact ⟨_, rfl, w4⟩
  | 4, v, h => by
    cases (show some r5 = some v from h)
    exact ⟨_, rfl, w5⟩
  | n + 5, v, h => nomatch (show (none : Option V) = some v from h)
section
variable {P : Program} {w : World} {K : PySem.W.Frag} {mg : Str → Option Value} {base : Heap}
def spLaw (K : PySem.W.Frag) : Sp := fun vs H Q _ => ∃ (a : Addr) (ns : List Int), vs = [.ref a] ∧ SqL K H a (ns.map V.int) ∧ ns.length ≤ 63 ∧ ∀ H', Q (.bl true) H'
theorem ok_law {fD fR fM f : Addr} {fdD fdR fdM fd : FuncData} (F : Fun K "law" "law" s_law f fd) (T : Txt mg)
    (C__law_dice : Cal P w K mg base 1 "_law_dice" fD fdD ["script", "spot"] (spDice K)) (C__law_right : Cal P w K mg base 27 "_law_right" fR fdR ["dice"] spRight) (C__law_is_made : Cal P w K mg base 6 "_law_is_made" fM fdM ["nodes"] (spMade K)) :
    FnG P w K mg base 28 f fd ["script"] (spLaw K) := by
  refine funG F sc_law (fun vs H Q E h => ?_) (fun cdv A outer s H vs Q E hgd hr h => ?_)
  · obtain ⟨a, ns, rfl, _⟩ := h
    rfl
  · obtain ⟨a, ns, rfl, hS, hl, q⟩ := h
    have hr1 := hr.mono (j := 1) (by omega)
    have hr6 := hr.mono (j := 6) (by omega)
    refine ⟨_, (pss_cons (ps_for PassesOwn.never (by rfl) (pi_range1 (by rfl) T.range_ (pa_cons (pe_callB (call_max2 (by rfl)) (by rfl) T.max_ (by decide +kernel) (pa_cons pe_int (pa_cons (pe_callB (call_min2 (by rfl)) (by rfl) T.min_ (by decide +kernel) (pa_cons pe_int (pa_cons (pe_callB (lenQ (K := K) rfl) (by rfl) T.len_ (by decide +kernel) (pa_cons (pv 0) pa_nil)) pa_nil))) pa_nil))) pa_nil)) (pg_name (i := 1) sc_law.nd rfl (.inl rfl))
  (pss_cons (ps_set (i := 2) sc_law.nd rfl (.inl rfl) (pe_call C__law_dice.G hr1 (by rfl) C__law_dice.m C__law_dice.k C__law_dice.b .nil pass0 (pa_cons (pv 0) (pa_cons (pv 1) pa_nil))))
  (pss_one (ps_for PassesOwn.never (by rfl) (pi_range1 (by rfl) T.range_ (pa_cons pe_int pa_nil)) (pg_name (i := 3) sc_law.nd rfl (.inl rfl))
  (pss_one (ps_if (pt_not (pt_val (pe_call C__law_right.G hr (by rfl) C__law_right.m C__law_right.k C__law_right.b .nil pass0 (pa_cons (pv 2) pa_nil))))
  (pss_one (ps_ret pe_bl))
  pss_nil))))))
  (pss_cons (ps_set (i := 4) sc_law.nd rfl (.inl rfl) (pe_lst (pa_cons (pe_tup (pa_cons (pe_tup (pa_cons pe_str (pa_cons pe_int pa_nil))) pa_nil)) (pa_cons (pe_tup (pa_cons (pe_tup (pa_cons pe_str (pa_cons pe_str pa_nil))) pa_nil)) (pa_cons (pe_tup (pa_cons (pe_tup (pa_cons pe_str (pa_cons pe_bl pa_nil))) pa_nil)) (pa_cons (pe_tup (pa_cons (pe_tup (pa_cons pe_str (pa_cons pe_int pa_nil))) (pa_cons (pe_tup (pa_cons pe_str (pa_cons pe_int pa_nil))) pa_nil))) (pa_cons (pe_tup (pa_cons (pe_tup (pa_cons pe_str (pa_cons pe_int pa_nil))) (pa_cons (pe_tup (pa_cons pe_str (pa_cons pe_int pa_nil))) (pa_cons (pe_tup (pa_cons pe_str (pa_cons pe_int pa_nil))) pa_nil)))) pa_nil)))))))
  (pss_one (ps_ret (pe_cmpR (eqD (K := K) rfl (hu64 hr)) (pe_lc (own := [("nodes", 5)]) (g := gName 5) (by rfl) sc_law.nd (piL (K := K) rfl (pv 4)) (blkOk_by (by kernel_rfl)) (fun _ _ _ _ _ => (pg_name (i := 5) sc_law.nd rfl (.inl rfl))) (fun _ _ _ _ _ => pts_nil) (fun _ _ _ _ _ => (pe_call C__law_is_made.G hr6 (by rfl) C__law_is_made.m C__law_is_made.k C__law_is_made.b .nil pass0 (pa_cons (pv 5) pa_nil)))) (pe_lst (pa_cons pe_bl (pa_cons pe_bl (pa_cons pe_bl (pa_cons pe_bl (pa_cons pe_bl pa_nil)))))) (nomark _)))))), ?_⟩
    refine ⟨_, rfl, .inl ⟨a, _, rfl, .inl hS, _, _, rfl, _, _, rfl, ?_⟩⟩
    obtain ⟨mm, em, hm⟩ : ∃ m : Int, (if (if ((ns.map V.int).length : Int) < 8 then ((ns.map V.int).length : Int) else 8) > 1 then (if ((ns.map V.int).length : Int) < 8 then ((ns.map V.int).length : Int) else 8) else 1) = m ∧ 0 ≤ m ∧ m ≤ 8 := by
      refine ⟨_, rfl, ?_⟩
      split <;> (try split) <;> omega
    rw [em]
    refine ⟨mm, rfl, by omega, by omega, ?_⟩
    refine for_range (lo := 0) (n := mm.toNat) (fun i σ H2 => (∃ x1 x2 x3 x4 x5, σ = [some (.ref a), x1, x2, x3, x4, x5]) ∧ Same H H2) ⟨⟨none, none, none, none, none, rfl⟩, Same.refl H⟩ ?_ ?_
    · rintro i σ H2 hi ⟨⟨x1, x2, x3, x4, x5, rfl⟩, s2⟩
      refine ⟨_, rfl, _, rfl, a, ns, i, by rw [Int.zero_add]; rfl, s2.seq hS, fun d H3 s3 n3 D3' => ?_⟩
      have nd : H d = none := s2.free n3
      refine ⟨3, rfl, by decide, by decide, ?_⟩
      refine for_range (lo := 0) (n := 3) (fun j σ H4 => (∃ x1 x3 x4 x5, σ = [some (.ref a), x1, some (.ref d), x3, x4, x5]) ∧ Same H H4 ∧ D3 H4 d) ⟨⟨_, _, _, _, rfl⟩, s2.trans s3, D3'⟩ ?_ ?_
      · rintro j σ H4 hj ⟨⟨x1, x3, x4, x5, rfl⟩, s4, D4⟩
        refine ⟨_, rfl, d, rfl, D4, fun H5 g5 => ⟨_, rfl, iteF ?_⟩⟩
        exact ⟨⟨_, _, _, _, rfl⟩, gr_same nd s4 g5, g5.dice⟩
      · rintro σ H4 ⟨⟨x1, x3, x4, x5, rfl⟩, s4, D4⟩
        exact ⟨⟨_, _, _, _, _, rfl⟩, s4⟩
    · rintro σ H2 ⟨⟨x1, x2, x3, x4, x5, rfl⟩, s2⟩
      refine ⟨lenOk 2, fun a1 n1 => ⟨lenOk 1, fun r1 m1 => ?_⟩⟩
      refine ⟨lenOk 2, fun a2 n2 => ⟨lenOk 1, fun r2 m2 => ?_⟩⟩
      refine ⟨lenOk 2, fun a3 n3 => ⟨lenOk 1, fun r3 m3 => ?_⟩⟩
      refine ⟨lenOk 2, fun a4 n4 => ⟨lenOk 2, fun a5 n5 => ⟨lenOk 2, fun r4 m4 => ?_⟩⟩⟩
      refine ⟨lenOk 2, fun a6 n6 => ⟨lenOk 2, fun a7 n7 => ⟨lenOk 2, fun a8 n8 => ⟨lenOk 3, fun r5 m5 => ?_⟩⟩⟩⟩
      refine ⟨lenOk 5, fun lo nlo => ?_⟩
      have c1 := same_new (o := .tup [.str "yes", .int 0]) n1
      have d1 := same_new (o := .tup [.ref a1]) m1
      have c2 := same_new (o := .tup [.str "fact", .str "yes"]) n2
      have d2 := same_new (o := .tup [.ref a2]) m2
      have c3 := same_new (o := .tup [.str "yes", .bl false]) n3
      have d3 := same_new (o := .tup [.ref a3]) m3
      have c4 := same_new (o := .tup [.str "all", .int 2]) n4
      have c5 := same_new (o := .tup [.str "yes", .int 0]) n5
      have d4 := same_new (o := .tup [.ref a4, .ref a5]) m4
      have c6 := same_new (o := .tup [.str "mine", .int 2]) n6
      have c7 := same_new (o := .tup [.str "yes", .int 0]) n7
      have c8 := same_new (o := .tup [.str "no", .int 0]) n8
      have d5 := same_new (o := .tup [.ref a6, .ref a7, .ref a8]) m5
      have el := same_new (o := .lst [.ref r1, .ref r2, .ref r3, .ref r4, .ref r5]) nlo
      have k5 := c6.trans (c7.trans (c8.trans (d5.trans el)))
      have k4 := c4.trans (c5.trans (d4.trans k5))
      have k3 := c3.trans (d3.trans k4)
      have k2 := c2.trans (d2.trans k3)
      have w1 : Row K _ (.ref r1) true := Row.ku (row_tup (SqT.of upd_same) (.cons (.pair ((stk d1).seq (SqT.of upd_same)) (eltS "yes" (by decide +kernel)) (eltI 0)) .nil) (by decide +kernel) (by decide) (f1 (pair_f (K := K) (H := H2) (toldE (eltI 0) fun z e => nomatch e)))) (ku_same k2)
      have w2 : Row K _ (.ref r2) false := Row.ku (row_tup (SqT.of upd_same) (.cons (.pair ((stk d2).seq (SqT.of upd_same)) (eltS "fact" (by decide +kernel)) (eltS "yes" (by decide +kernel))) .nil) (by decide +kernel) (by decide) (f1 (pair_f (K := K) (H := H2) (toldS "yes" (by decide +kernel) (by decide +kernel))))) (ku_same k3)
      have w3 : Row K _ (.ref r3) false := Row.ku (row_tup (SqT.of upd_same) (.cons (.pair ((stk d3).seq (SqT.of upd_same)) (eltS "yes" (by decide +kernel)) (eltB false)) .nil) (by decide +kernel) (by decide) (f1 (pair_f (K := K) (H := H2) (toldE (eltB false) fun z e => nomatch e)))) (ku_same k4)
      have w4 : Row K _ (.ref r4) false := Row.ku (row_tup (SqT.of upd_same) (.cons (.pair ((stk (c5.trans d4)).seq (SqT.of upd_same)) (eltS "all" (by decide +kernel)) (eltI 2)) (.cons (.pair ((stk d4).seq (SqT.of upd_same)) (eltS "yes" (by decide +kernel)) (eltI 0)) .nil)) (by decide +kernel) (by decide)
        (f2 (pair_f (K := K) (H := H2) (toldE (eltI 2) fun z e => nomatch e)) (pair_f (K := K) (H := H2) (toldE (eltI 0) fun z e => nomatch e)))) (ku_same k5)
      have w5 : Row K _ (.ref r5) true := Row.ku (row_tup (SqT.of upd_same) (.cons (.pair ((stk (c7.trans (c8.trans d5))).seq (SqT.of upd_same)) (eltS "mine" (by decide +kernel)) (eltI 2)) (.cons (.pair ((stk (c8.trans d5)).seq (SqT.of upd_same)) (eltS "yes" (by decide +kernel)) (eltI 0)) (.cons (.pair ((stk d5).seq (SqT.of upd_same)) (eltS "no" (by decide +kernel)) (eltI 0)) .nil))) (by decide +kernel) (by decide)
        (f3 (pair_f (K := K) (H := H2) (toldE (eltI 2) fun z e => nomatch e)) (pair_f (K := K) (H := H2) (toldE (eltI 0) fun z e => nomatch e)) (pair_f (K := K) (H := H2) (toldE (eltI 0) fun z e => nomatch e)))) (ku_same el)
      have elo := upd_same (H := upd (upd (upd (upd (upd (upd (upd (upd (upd (upd (upd (upd (upd H2 a1 (.tup [.str "yes", .int 0])) r1 (.tup [.ref a1])) a2 (.tup [.str "fact", .str "yes"])) r2 (.tup [.ref a2])) a3 (.tup [.str "yes", .bl false])) r3 (.tup [.ref a3])) a4 (.tup [.str "all", .int 2])) a5 (.tup [.str "yes", .int 0])) r4 (.tup [.ref a4, .ref a5])) a6 (.tup [.str "mine", .int 2])) a7 (.tup [.str "yes", .int 0])) a8 (.tup [.str "no", .int 0])) r5 (.tup [.ref a6, .ref a7, .ref a8])) (a := lo) (o := HO.lst [.ref r1, .ref r2, .ref r3, .ref r4, .ref r5])
      generalize upd (upd (upd (upd (upd (upd (upd (upd (upd (upd (upd (upd (upd (upd H2 a1 (.tup [.str "yes", .int 0])) r1 (.tup [.ref a1])) a2 (.tup [.str "fact", .str "yes"])) r2 (.tup [.ref a2])) a3 (.tup [.str "yes", .bl false])) r3 (.tup [.ref a3])) a4 (.tup [.str "all", .int 2])) a5 (.tup [.str "yes", .int 0])) r4 (.tup [.ref a4, .ref a5])) a6 (.tup [.str "mine", .int 2])) a7 (.tup [.str "yes", .int 0])) a8 (.tup [.str "no", .int 0])) r5 (.tup [.ref a6, .ref a7, .ref a8])) lo (HO.lst [.ref r1, .ref r2, .ref r3, .ref r4, .ref r5]) = H7 at w1 w2 w3 w4 w5 elo ⊢
      have hrow := rows5 w1 w2 w3 w4 w5
      clear c1 d1 c2 d2 c3 d3 c4 c5 d4 c6 c7 c8 d5 el k5 k4 k3 k2 w1 w2 w3 w4 w5
      refine ⟨_, rfl, lo, rfl, ⟨_, SqL.of elo⟩, fun Dc nD => ?_⟩
      have s8 : Same H7 (upd H7 Dc (.lst [])) := same_new nD
      refine lcL (K := K) (a := lo) (xs := [.ref r1, .ref r2, .ref r3, .ref r4, .ref r5]) (fun j acc H9 => Same H7 H9 ∧ acc = (flags.take j).map V.bl) ⟨s8, rfl⟩ (fun j acc H9 h => SqL.of (h.1 _ _ elo)) ?_ ?_
      · rintro j x acc H9 hx hl2 e ⟨s9, ea⟩
        obtain ⟨b, eb, hr9⟩ := hrow j x hx
        obtain ⟨nds, nv, fw⟩ := hr9.ku (ku_same s9)
        have hj : j < 5 := (List.getElem?_eq_some_iff.mp hx).1
        refine yesT ⟨_, rfl, x, nds, b, rfl, nv, fw, fun Ha sa => ?_⟩
        refine LcK.mk hl2 (by omega) (sa _ _ e) ⟨fun b' o eb' => ?_, ?_⟩
        · rw [upd_ne (ne_of_none eb' nD)]
          exact sa _ _ (s9 b' o eb')
        · rw [ea, take_succ' eb, List.map_append]
          rfl
      · rintro acc H9 hl2 e ⟨s9, ea⟩
        have ea : acc = flags.map V.bl := ea
        rw [ea] at e
        refine ⟨lenOk 5, fun le ne => ⟨.list (flags.map PyData.bool), .list (flags.map PyData.bool), .lst (SqL.of (same_new ne _ _ e)) (dp_bls flags), .lst (SqL.of upd_same) (dp_bls flags), by decide +kernel, by decide +kernel, ?_⟩⟩
        have e2 : PyData.eqv (.list (flags.map PyData.bool)) (.list (flags.map PyData.bool)) = true := by decide +kernel
        rw [e2]
        exact q _
end
end Eh

set_option Elab.async false
set_option linter.all false
set_option maxRecDepth 100000
namespace Eh
open PySem PySem.Spec PyProof.Rows L2
theorem all_mk {l : PySem.W.OpenLaw} {w : World} {K : PySem.W.Frag} {h : Heap} {mg : Str → Option Value} {fa f1 f2 f3 f4 f5 f6 f7 f8 f9 f10 f11 f12 f13 f14 f15 f16 f17 f18 f19 f20 f21 f22 f23 f24 : Addr} (X : K.In h) (G : h.Ns mainGlobals mg) (hfa : mg "law" = some (.ref fa))
    {od1 an1 od2 an2 od3 an3 od4 an4 od5 an5 od6 an6 od7 an7 od8 an8 od9 an9 od10 an10 od11 an11 od12 an12 od13 an13 od14 an14 od15 an15 od16 an16 od17 an17 od18 an18 od19 an19 od20 an20 od21 an21 od22 an22 od23 an23 od24 an24 : Option Addr} {sl1 sl2 sl3 sl4 sl5 sl6 sl7 sl8 sl9 sl10 sl11 sl12 sl13 sl14 sl15 sl16 sl17 sl18 sl19 sl20 sl21 sl22 sl23 sl24 : Array (Option Value)} {oc1 kV1 dc1 pm1 cd1 ct1 oc2 kV2 dc2 pm2 cd2 ct2 oc3 kV3 dc3 pm3 cd3 ct3 oc4 kV4 dc4 pm4 cd4 ct4 oc5 kV5 dc5 pm5 cd5 ct5 oc6 kV6 dc6 pm6 cd6 ct6 oc7 kV7 dc7 pm7 cd7 ct7 oc8 kV8 dc8 pm8 cd8 ct8 oc9 kV9 dc9 pm9 cd9 ct9 oc10 kV10 dc10 pm10 cd10 ct10 oc11 kV11 dc11 pm11 cd11 ct11 oc12 kV12 dc12 pm12 cd12 ct12 oc13 kV13 dc13 pm13 cd13 ct13 oc14 kV14 dc14 pm14 cd14 ct14 oc15 kV15 dc15 pm15 cd15 ct15 oc16 kV16 dc16 pm16 cd16 ct16 oc17 kV17 dc17 pm17 cd17 ct17 oc18 kV18 dc18 pm18 cd18 ct18 oc19 kV19 dc19 pm19 cd19 ct19 oc20 kV20 dc20 pm20 cd20 ct20 oc21 kV21 dc21 pm21 cd21 ct21 oc22 kV22 dc22 pm22 cd22 ct22 oc23 kV23 dc23 pm23 cd23 ct23 oc24 kV24 dc24 pm24 cd24 ct24 : Value}
    (a1 : PySem.W.nsIn K mainGlobals "_law_roll" = some (some (.ref f1))) (l1 : K.lookup f1 = some ⟨oc1, od1, .func (PySem.W.fnOf "_law_roll" "_law_roll" (defArgs s__law_roll) (defBody s__law_roll) (defScope s__law_roll) .none kV1 dc1 pm1 an1 cd1 ct1), sl1⟩) (c1 : PySem.W.codeIn K cd1 "_law_roll" = true) (k1 : PySem.W.keepIn K (.ref f1) = true)
    (a2 : PySem.W.nsIn K mainGlobals "_law_pick" = some (some (.ref f2))) (l2 : K.lookup f2 = some ⟨oc2, od2, .func (PySem.W.fnOf "_law_pick" "_law_pick" (defArgs s__law_pick) (defBody s__law_pick) (defScope s__law_pick) .none kV2 dc2 pm2 an2 cd2 ct2), sl2⟩) (c2 : PySem.W.codeIn K cd2 "_law_pick" = true) (k2 : PySem.W.keepIn K (.ref f2) = true)
    (a3 : PySem.W.nsIn K mainGlobals "_law_some" = some (some (.ref f3))) (l3 : K.lookup f3 = some ⟨oc3, od3, .func (PySem.W.fnOf "_law_some" "_law_some" (defArgs s__law_some) (defBody s__law_some) (defScope s__law_some) .none kV3 dc3 pm3 an3 cd3 ct3), sl3⟩) (c3 : PySem.W.codeIn K cd3 "_law_some" = true) (k3 : PySem.W.keepIn K (.ref f3) = true)
    (a4 : PySem.W.nsIn K mainGlobals "_law_dice" = some (some (.ref f4))) (l4 : K.lookup f4 = some ⟨oc4, od4, .func (PySem.W.fnOf "_law_dice" "_law_dice" (defArgs s__law_dice) (defBody s__law_dice) (defScope s__law_dice) .none kV4 dc4 pm4 an4 cd4 ct4), sl4⟩) (c4 : PySem.W.codeIn K cd4 "_law_dice" = true) (k4 : PySem.W.keepIn K (.ref f4) = true)
    (a5 : PySem.W.nsIn K mainGlobals "is_integer" = some (some (.ref f5))) (l5 : K.lookup f5 = some ⟨oc5, od5, .func (PySem.W.fnOf "is_integer" "is_integer" (defArgs s_is_integer) (defBody s_is_integer) (defScope s_is_integer) .none kV5 dc5 pm5 an5 cd5 ct5), sl5⟩) (c5 : PySem.W.codeIn K cd5 "is_integer" = true) (k5 : PySem.W.keepIn K (.ref f5) = true)
    (a6 : PySem.W.nsIn K mainGlobals "is_fact" = some (some (.ref f6))) (l6 : K.lookup f6 = some ⟨oc6, od6, .func (PySem.W.fnOf "is_fact" "is_fact" (defArgs s_is_fact) (defBody s_is_fact) (defScope s_is_fact) .none kV6 dc6 pm6 an6 cd6 ct6), sl6⟩) (c6 : PySem.W.codeIn K cd6 "is_fact" = true) (k6 : PySem.W.keepIn K (.ref f6) = true)
    (a7 : PySem.W.nsIn K mainGlobals "is_node" = some (some (.ref f7))) (l7 : K.lookup f7 = some ⟨oc7, od7, .func (PySem.W.fnOf "is_node" "is_node" (defArgs s_is_node) (defBody s_is_node) (defScope s_is_node) .none kV7 dc7 pm7 an7 cd7 ct7), sl7⟩) (c7 : PySem.W.codeIn K cd7 "is_node" = true) (k7 : PySem.W.keepIn K (.ref f7) = true)
    (a8 : PySem.W.nsIn K mainGlobals "depth_of" = some (some (.ref f8))) (l8 : K.lookup f8 = some ⟨oc8, od8, .func (PySem.W.fnOf "depth_of" "depth_of" (defArgs s_depth_of) (defBody s_depth_of) (defScope s_depth_of) .none kV8 dc8 pm8 an8 cd8 ct8), sl8⟩) (c8 : PySem.W.codeIn K cd8 "depth_of" = true) (k8 : PySem.W.keepIn K (.ref f8) = true)
    (a9 : PySem.W.nsIn K mainGlobals "facts_of" = some (some (.ref f9))) (l9 : K.lookup f9 = some ⟨oc9, od9, .func (PySem.W.fnOf "facts_of" "facts_of" (defArgs s_facts_of) (defBody s_facts_of) (defScope s_facts_of) .none kV9 dc9 pm9 an9 cd9 ct9), sl9⟩) (c9 : PySem.W.codeIn K cd9 "facts_of" = true) (k9 : PySem.W.keepIn K (.ref f9) = true)
    (a10 : PySem.W.nsIn K mainGlobals "choices_of" = some (some (.ref f10))) (l10 : K.lookup f10 = some ⟨oc10, od10, .func (PySem.W.fnOf "choices_of" "choices_of" (defArgs s_choices_of) (defBody s_choices_of) (defScope s_choices_of) .none kV10 dc10 pm10 an10 cd10 ct10), sl10⟩) (c10 : PySem.W.codeIn K cd10 "choices_of" = true) (k10 : PySem.W.keepIn K (.ref f10) = true)
    (a11 : PySem.W.nsIn K mainGlobals "_are_nodes" = some (some (.ref f11))) (l11 : K.lookup f11 = some ⟨oc11, od11, .func (PySem.W.fnOf "_are_nodes" "_are_nodes" (defArgs s__are_nodes) (defBody s__are_nodes) (defScope s__are_nodes) .none kV11 dc11 pm11 an11 cd11 ct11), sl11⟩) (c11 : PySem.W.codeIn K cd11 "_are_nodes" = true) (k11 : PySem.W.keepIn K (.ref f11) = true)
    (a12 : PySem.W.nsIn K mainGlobals "_law_is_leaf" = some (some (.ref f12))) (l12 : K.lookup f12 = some ⟨oc12, od12, .func (PySem.W.fnOf "_law_is_leaf" "_law_is_leaf" (defArgs s__law_is_leaf) (defBody s__law_is_leaf) (defScope s__law_is_leaf) .none kV12 dc12 pm12 an12 cd12 ct12), sl12⟩) (c12 : PySem.W.codeIn K cd12 "_law_is_leaf" = true) (k12 : PySem.W.keepIn K (.ref f12) = true)
    (a13 : PySem.W.nsIn K mainGlobals "_law_leaf" = some (some (.ref f13))) (l13 : K.lookup f13 = some ⟨oc13, od13, .func (PySem.W.fnOf "_law_leaf" "_law_leaf" (defArgs s__law_leaf) (defBody s__law_leaf) (defScope s__law_leaf) .none kV13 dc13 pm13 an13 cd13 ct13), sl13⟩) (c13 : PySem.W.codeIn K cd13 "_law_leaf" = true) (k13 : PySem.W.keepIn K (.ref f13) = true)
    (a14 : PySem.W.nsIn K mainGlobals "_law_nodes" = some (some (.ref f14))) (l14 : K.lookup f14 = some ⟨oc14, od14, .func (PySem.W.fnOf "_law_nodes" "_law_nodes" (defArgs s__law_nodes) (defBody s__law_nodes) (defScope s__law_nodes) .none kV14 dc14 pm14 an14 cd14 ct14), sl14⟩) (c14 : PySem.W.codeIn K cd14 "_law_nodes" = true) (k14 : PySem.W.keepIn K (.ref f14) = true)
    (a15 : PySem.W.nsIn K mainGlobals "_law_count" = some (some (.ref f15))) (l15 : K.lookup f15 = some ⟨oc15, od15, .func (PySem.W.fnOf "_law_count" "_law_count" (defArgs s__law_count) (defBody s__law_count) (defScope s__law_count) .none kV15 dc15 pm15 an15 cd15 ct15), sl15⟩) (c15 : PySem.W.codeIn K cd15 "_law_count" = true) (k15 : PySem.W.keepIn K (.ref f15) = true)
    (a16 : PySem.W.nsIn K mainGlobals "_law_drawn" = some (some (.ref f16))) (l16 : K.lookup f16 = some ⟨oc16, od16, .func (PySem.W.fnOf "_law_drawn" "_law_drawn" (defArgs s__law_drawn) (defBody s__law_drawn) (defScope s__law_drawn) .none kV16 dc16 pm16 an16 cd16 ct16), sl16⟩) (c16 : PySem.W.codeIn K cd16 "_law_drawn" = true) (k16 : PySem.W.keepIn K (.ref f16) = true)
    (a17 : PySem.W.nsIn K mainGlobals "_law_known" = some (some (.ref f17))) (l17 : K.lookup f17 = some ⟨oc17, od17, .func (PySem.W.fnOf "_law_known" "_law_known" (defArgs s__law_known) (defBody s__law_known) (defScope s__law_known) .none kV17 dc17 pm17 an17 cd17 ct17), sl17⟩) (c17 : PySem.W.codeIn K cd17 "_law_known" = true) (k17 : PySem.W.keepIn K (.ref f17) = true)
    (a18 : PySem.W.nsIn K mainGlobals "_law_promise" = some (some (.ref f18))) (l18 : K.lookup f18 = some ⟨oc18, od18, .func (PySem.W.fnOf "_law_promise" "_law_promise" (defArgs s__law_promise) (defBody s__law_promise) (defScope s__law_promise) .none kV18 dc18 pm18 an18 cd18 ct18), sl18⟩) (c18 : PySem.W.codeIn K cd18 "_law_promise" = true) (k18 : PySem.W.keepIn K (.ref f18) = true)
    (a19 : PySem.W.nsIn K mainGlobals "_law_is_made" = some (some (.ref f19))) (l19 : K.lookup f19 = some ⟨oc19, od19, .func (PySem.W.fnOf "_law_is_made" "_law_is_made" (defArgs s__law_is_made) (defBody s__law_is_made) (defScope s__law_is_made) .none kV19 dc19 pm19 an19 cd19 ct19), sl19⟩) (c19 : PySem.W.codeIn K cd19 "_law_is_made" = true) (k19 : PySem.W.keepIn K (.ref f19) = true)
    (a20 : PySem.W.nsIn K mainGlobals "_law_parts_at" = some (some (.ref f20))) (l20 : K.lookup f20 = some ⟨oc20, od20, .func (PySem.W.fnOf "_law_parts_at" "_law_parts_at" (defArgs s__law_parts_at) (defBody s__law_parts_at) (defScope s__law_parts_at) .none kV20 dc20 pm20 an20 cd20 ct20), sl20⟩) (c20 : PySem.W.codeIn K cd20 "_law_parts_at" = true) (k20 : PySem.W.keepIn K (.ref f20) = true)
    (a21 : PySem.W.nsIn K mainGlobals "_law_due" = some (some (.ref f21))) (l21 : K.lookup f21 = some ⟨oc21, od21, .func (PySem.W.fnOf "_law_due" "_law_due" (defArgs s__law_due) (defBody s__law_due) (defScope s__law_due) .none kV21 dc21 pm21 an21 cd21 ct21), sl21⟩) (c21 : PySem.W.codeIn K cd21 "_law_due" = true) (k21 : PySem.W.keepIn K (.ref f21) = true)
    (a22 : PySem.W.nsIn K mainGlobals "_law_bent" = some (some (.ref f22))) (l22 : K.lookup f22 = some ⟨oc22, od22, .func (PySem.W.fnOf "_law_bent" "_law_bent" (defArgs s__law_bent) (defBody s__law_bent) (defScope s__law_bent) .none kV22 dc22 pm22 an22 cd22 ct22), sl22⟩) (c22 : PySem.W.codeIn K cd22 "_law_bent" = true) (k22 : PySem.W.keepIn K (.ref f22) = true)
    (a23 : PySem.W.nsIn K mainGlobals "_law_right" = some (some (.ref f23))) (l23 : K.lookup f23 = some ⟨oc23, od23, .func (PySem.W.fnOf "_law_right" "_law_right" (defArgs s__law_right) (defBody s__law_right) (defScope s__law_right) .none kV23 dc23 pm23 an23 cd23 ct23), sl23⟩) (c23 : PySem.W.codeIn K cd23 "_law_right" = true) (k23 : PySem.W.keepIn K (.ref f23) = true)
    (a24 : PySem.W.nsIn K mainGlobals "law" = some (some (.ref f24))) (l24 : K.lookup f24 = some ⟨oc24, od24, .func (PySem.W.fnOf "law" "law" (defArgs s_law) (defBody s_law) (defScope s_law) .none kV24 dc24 pm24 an24 cd24 ct24), sl24⟩) (c24 : PySem.W.codeIn K cd24 "law" = true) (k24 : PySem.W.keepIn K (.ref f24) = true)
    (z1 : PySem.W.nsIn K mainGlobals "classmethod" = some none)
    (z2 : PySem.W.nsIn K mainGlobals "property" = some none)
    (z3 : PySem.W.nsIn K mainGlobals "isinstance" = some none)
    (z4 : PySem.W.nsIn K mainGlobals "list" = some none)
    (z5 : PySem.W.nsIn K mainGlobals "tuple" = some none)
    (z6 : PySem.W.nsIn K mainGlobals "dict" = some none)
    (z7 : PySem.W.nsIn K mainGlobals "len" = some none)
    (z8 : PySem.W.nsIn K mainGlobals "reversed" = some none)
    (z9 : PySem.W.nsIn K mainGlobals "any" = some none)
    (z10 : PySem.W.nsIn K mainGlobals "all" = some none)
    (z11 : PySem.W.nsIn K mainGlobals "range" = some none)
    (z12 : PySem.W.nsIn K mainGlobals "bool" = some none)
    (z13 : PySem.W.nsIn K mainGlobals "abs" = some none)
    (z14 : PySem.W.nsIn K mainGlobals "str" = some none)
    (z15 : PySem.W.nsIn K mainGlobals "max" = some none)
    (z16 : PySem.W.nsIn K mainGlobals "sorted" = some none)
    (z17 : PySem.W.nsIn K mainGlobals "iter" = some none)
    (z18 : PySem.W.nsIn K mainGlobals "int" = some none)
    (z19 : PySem.W.nsIn K mainGlobals "sum" = some none)
    (z20 : PySem.W.nsIn K mainGlobals "min" = some none)
    (z21 : PySem.W.nsIn K mainGlobals "super" = some none)
    {t1 : Tok} (i1 : PySem.W.nsIn K mainGlobals "MAX_LETTERS" = some (some (.int 8 t1)))
    {t2 : Tok} (i2 : PySem.W.nsIn K mainGlobals "LEAST_PARTS" = some (some (.int 2 t2)))
    {t3 : Tok} (i3 : PySem.W.nsIn K mainGlobals "MOST_PARTS" = some (some (.int 4 t3)))
    {t4 : Tok} (i4 : PySem.W.nsIn K mainGlobals "MAX_NODES" = some (some (.int 40 t4)))
    {t5 : Tok} (i5 : PySem.W.nsIn K mainGlobals "MAX_FACTS" = some (some (.int 6 t5)))
    {t6 : Tok} (i6 : PySem.W.nsIn K mainGlobals "MAX_CHOICES" = some (some (.int 10 t6)))
    {t7 : Tok} (i7 : PySem.W.nsIn K mainGlobals "MAX_DEPTH" = some (some (.int 8 t7)))
    {CE : Addr} (x1 : PySem.W.nsIn K mainGlobals "InvalidPromise" = some (some (.ref CE)))
    (x2 : PySem.W.excIn K CE [.type "ValueError", .type "Exception", .type "BaseException", .type "object"] "ValueError.__new__" = true)
    (x3 : PySem.W.keepIn K (.ref CE) = true) (x4 : PySem.W.subIn K (.ref CE) (.type "BaseException") = some true) (x5 : PySem.W.typeIn K (.ref CE) = some (.type "type")) (x6 : PySem.W.isClsIn K CE = true) (x7 : PySem.W.subIn K (.ref CE) (.ref CE) = some true)
    {C : Addr} (gC : PySem.W.nsIn K mainGlobals "Promise" = some (some (.ref C))) (pg : PySem.W.plainGet K C Str.empty = true) (hd : PySem.W.hasDictIn K C = true) (po : PySem.W.plainOver K C = true) (sa : PySem.W.findIn K (.ref C) "__setattr__" = some (some (.builtin "object.__setattr__"))) (mk : PySem.W.makesIn K C = true) (kc : PySem.W.keepIn K (.ref C) = true) (nN : PySem.W.findIn K (.ref C) "_nodes" = some none)
    {fI : Addr} {odI anI : Option Addr} {slI : Array (Option Value)} {ocI kVI dcI pmI cdI ctI : Value} (aI : PySem.W.findIn K (.ref C) "__init__" = some (some (.ref fI))) (iI : PySem.W.isFn K (.ref fI) = true) (lI : K.lookup fI = some ⟨ocI, odI, .func (PySem.W.fnOf "__init__" "Promise.__init__" (defArgs s_Promise___init__) (defBody s_Promise___init__) (defScope s_Promise___init__) .none kVI dcI pmI anI cdI ctI), slI⟩) (cI : PySem.W.codeIn K cdI "Promise.__init__" = true) (kI : PySem.W.keepIn K (.ref fI) = true)
    {fL : Addr} {odL anL : Option Addr} {slL : Array (Option Value)} {ocL kVL dcL pmL cdL ctL : Value} (aL : PySem.W.findIn K (.ref C) "__len__" = some (some (.ref fL))) (iL : PySem.W.isFn K (.ref fL) = true) (lL : K.lookup fL = some ⟨ocL, odL, .func (PySem.W.fnOf "__len__" "Promise.__len__" (defArgs s_Promise___len__) (defBody s_Promise___len__) (defScope s_Promise___len__) .none kVL dcL pmL anL cdL ctL), slL⟩) (cL : PySem.W.codeIn K cdL "Promise.__len__" = true) (kL : PySem.W.keepIn K (.ref fL) = true)
    {pS : Addr} {nS : Nat} {h1 h2 h3 h4 : Int} {tk1 tk2 tk3 tk4 : Tok} {v1 v2 v3 v4 : Value} (y1 : PySem.W.nsIn K mainGlobals "SIGNS" = some (some (.ref pS))) (y2 : K.lookup pS = some ⟨.type "dict", none, .dict #[⟨h1, .str "all" tk1, v1⟩, ⟨h2, .str "mine" tk2, v2⟩, ⟨h3, .str "some" tk3, v3⟩, ⟨h4, .str "yours" tk4, v4⟩] nS, #[]⟩)
    (y3 : PySem.W.KeysLit w.params [⟨h1, .str "all" tk1, v1⟩, ⟨h2, .str "mine" tk2, v2⟩, ⟨h3, .str "some" tk3, v3⟩, ⟨h4, .str "yours" tk4, v4⟩])
    (y4 : (pS == sysModules) = false)
    : ∃ fd : FuncData, (∀ (s : Shared) (v : Value), BindsTo s fd ⟨[v], []⟩ [("script", v)]) ∧ ∀ base : Heap, K.In base → base.Ns mainGlobals mg → FnG l.prog w K mg base 28 fa fd ["script"] (spLaw K) := by
  have e := hfa.symm.trans (PySem.W.mg_of X G a24)
  cases e
  have T : Txt mg := ⟨PySem.W.mg_none_of X G z1, PySem.W.mg_none_of X G z2, PySem.W.mg_none_of X G z3, PySem.W.mg_none_of X G z4, PySem.W.mg_none_of X G z5, PySem.W.mg_none_of X G z6, PySem.W.mg_none_of X G z7, PySem.W.mg_none_of X G z8, PySem.W.mg_none_of X G z9, PySem.W.mg_none_of X G z10, PySem.W.mg_none_of X G z11, PySem.W.mg_none_of X G z12, PySem.W.mg_none_of X G z13, PySem.W.mg_none_of X G z14, PySem.W.mg_none_of X G z15, PySem.W.mg_none_of X G z16, PySem.W.mg_none_of X G z17, PySem.W.mg_none_of X G z18, PySem.W.mg_none_of X G z19, PySem.W.mg_none_of X G z20, PySem.W.mg_none_of X G z21⟩
  have F1 := fun_mk (st := s__law_roll) l1 c1 k1
  have b1 := F1.binds (ps := ["dice", "many"]) fun _ _ _ _ _ _ us hl => match us, hl with | [_, _], _ => rfl
  have m1 := PySem.W.mg_of X G a1
  have F2 := fun_mk (st := s__law_pick) l2 c2 k2
  have b2 := F2.binds (ps := ["dice", "items"]) fun _ _ _ _ _ _ us hl => match us, hl with | [_, _], _ => rfl
  have m2 := PySem.W.mg_of X G a2
  have F3 := fun_mk (st := s__law_some) l3 c3 k3
  have b3 := F3.binds (ps := ["dice", "items", "size"]) fun _ _ _ _ _ _ us hl => match us, hl with | [_, _, _], _ => rfl
  have m3 := PySem.W.mg_of X G a3
  have F4 := fun_mk (st := s__law_dice) l4 c4 k4
  have b4 := F4.binds (ps := ["script", "spot"]) fun _ _ _ _ _ _ us hl => match us, hl with | [_, _], _ => rfl
  have m4 := PySem.W.mg_of X G a4
  have F5 := fun_mk (st := s_is_integer) l5 c5 k5
  have b5 := F5.binds (ps := ["value"]) fun _ _ _ _ _ _ us hl => match us, hl with | [_], _ => rfl
  have m5 := PySem.W.mg_of X G a5
  have F6 := fun_mk (st := s_is_fact) l6 c6 k6
  have b6 := F6.binds (ps := ["value"]) fun _ _ _ _ _ _ us hl => match us, hl with | [_], _ => rfl
  have m6 := PySem.W.mg_of X G a6
  have F7 := fun_mk (st := s_is_node) l7 c7 k7
  have b7 := F7.binds (ps := ["value"]) fun _ _ _ _ _ _ us hl => match us, hl with | [_], _ => rfl
  have m7 := PySem.W.mg_of X G a7
  have F8 := fun_mk (st := s_depth_of) l8 c8 k8
  have b8 := F8.binds (ps := ["nodes"]) fun _ _ _ _ _ _ us hl => match us, hl with | [_], _ => rfl
  have m8 := PySem.W.mg_of X G a8
  have F9 := fun_mk (st := s_facts_of) l9 c9 k9
  have b9 := F9.binds (ps := ["nodes"]) fun _ _ _ _ _ _ us hl => match us, hl with | [_], _ => rfl
  have m9 := PySem.W.mg_of X G a9
  have F10 := fun_mk (st := s_choices_of) l10 c10 k10
  have b10 := F10.binds (ps := ["nodes"]) fun _ _ _ _ _ _ us hl => match us, hl with | [_], _ => rfl
  have m10 := PySem.W.mg_of X G a10
  have F11 := fun_mk (st := s__are_nodes) l11 c11 k11
  have b11 := F11.binds (ps := ["value"]) fun _ _ _ _ _ _ us hl => match us, hl with | [_], _ => rfl
  have m11 := PySem.W.mg_of X G a11
  have F12 := fun_mk (st := s__law_is_leaf) l12 c12 k12
  have b12 := F12.binds (ps := ["plain"]) fun _ _ _ _ _ _ us hl => match us, hl with | [_], _ => rfl
  have m12 := PySem.W.mg_of X G a12
  have F13 := fun_mk (st := s__law_leaf) l13 c13 k13
  have b13 := F13.binds (ps := ["dice", "words"]) fun _ _ _ _ _ _ us hl => match us, hl with | [_, _], _ => rfl
  have m13 := PySem.W.mg_of X G a13
  have F14 := fun_mk (st := s__law_nodes) l14 c14 k14
  have b14 := F14.binds (ps := ["plain"]) fun _ _ _ _ _ _ us hl => match us, hl with | [_], _ => rfl
  have m14 := PySem.W.mg_of X G a14
  have F15 := fun_mk (st := s__law_count) l15 c15 k15
  have b15 := F15.binds (ps := ["plain", "kinds"]) fun _ _ _ _ _ _ us hl => match us, hl with | [_, _], _ => rfl
  have m15 := PySem.W.mg_of X G a15
  have F16 := fun_mk (st := s__law_drawn) l16 c16 k16
  have b16 := F16.binds (ps := ["dice", "words", "most", "choices"]) fun _ _ _ _ _ _ us hl => match us, hl with | [_, _, _, _], _ => rfl
  have m16 := PySem.W.mg_of X G a16
  have F17 := fun_mk (st := s__law_known) l17 c17 k17
  have b17 := F17.binds (ps := ["dice"]) fun _ _ _ _ _ _ us hl => match us, hl with | [_], _ => rfl
  have m17 := PySem.W.mg_of X G a17
  have F18 := fun_mk (st := s__law_promise) l18 c18 k18
  have b18 := F18.binds (ps := ["dice"]) fun _ _ _ _ _ _ us hl => match us, hl with | [_], _ => rfl
  have m18 := PySem.W.mg_of X G a18
  have F19 := fun_mk (st := s__law_is_made) l19 c19 k19
  have b19 := F19.binds (ps := ["nodes"]) fun _ _ _ _ _ _ us hl => match us, hl with | [_], _ => rfl
  have m19 := PySem.W.mg_of X G a19
  have F20 := fun_mk (st := s__law_parts_at) l20 c20 k20
  have b20 := F20.binds (ps := ["node"]) fun _ _ _ _ _ _ us hl => match us, hl with | [_], _ => rfl
  have m20 := PySem.W.mg_of X G a20
  have F21 := fun_mk (st := s__law_due) l21 c21 k21
  have b21 := F21.binds (ps := ["nodes"]) fun _ _ _ _ _ _ us hl => match us, hl with | [_], _ => rfl
  have m21 := PySem.W.mg_of X G a21
  have F22 := fun_mk (st := s__law_bent) l22 c22 k22
  have b22 := F22.binds (ps := ["dice", "nodes"]) fun _ _ _ _ _ _ us hl => match us, hl with | [_, _], _ => rfl
  have m22 := PySem.W.mg_of X G a22
  have F23 := fun_mk (st := s__law_right) l23 c23 k23
  have b23 := F23.binds (ps := ["dice"]) fun _ _ _ _ _ _ us hl => match us, hl with | [_], _ => rfl
  have m23 := PySem.W.mg_of X G a23
  have F24 := fun_mk (st := s_law) l24 c24 k24
  have b24 := F24.binds (ps := ["script"]) fun _ _ _ _ _ _ us hl => match us, hl with | [_], _ => rfl
  have m24 := PySem.W.mg_of X G a24
  have n1 := PySem.W.mg_of X G i1
  have n2 := PySem.W.mg_of X G i2
  have n3 := PySem.W.mg_of X G i3
  have n4 := PySem.W.mg_of X G i4
  have n5 := PySem.W.mg_of X G i5
  have n6 := PySem.W.mg_of X G i6
  have n7 := PySem.W.mg_of X G i7
  refine ⟨PySem.W.fnOf "law" "law" (defArgs s_law) (defBody s_law) (defScope s_law) .none kV24 dc24 pm24 an24 cd24 ct24, fun s v => .of_eq rfl, fun base _ _ => ?_⟩
  have R : ErrC K mg "InvalidPromise" CE := ⟨PySem.W.mg_of X G x1, x2, x3, x4, x5, exmSelf x4 x6 x5 x7⟩
  have PC : PromC K mg C fI fL := ⟨PySem.W.mg_of X G gC, ⟨mk, aI, iI, kc⟩, ⟨pg, hd, po, sa⟩, nN, aL, iL⟩
  have S : SignsAt K w mg pS := signs_mk (PySem.W.mg_of X G y1) y2 y3 y4
  have FI := fun_mk (st := s_Promise___init__) lI cI kI
  have bI := FI.binds (ps := ["self", "nodes"]) fun _ _ _ _ _ _ us hl => match us, hl with | [_, _], _ => rfl
  have FL := fun_mk (st := s_Promise___len__) lL cL kL
  have bL := FL.binds (ps := ["self"]) fun _ _ _ _ _ _ us hl => match us, hl with | [_], _ => rfl
  have G1 : Cal l.prog w K mg base 1 "_law_roll" f1 _ ["dice", "many"] spRoll := ⟨ok_roll F1 T, m1, k1, b1⟩
  have G2 : Cal l.prog w K mg base 2 "_law_pick" f2 _ ["dice", "items"] (spPick K) := ⟨ok_pick F2 T G1, m2, k2, b2⟩
  have G3 : Cal l.prog w K mg base 2 "_law_some" f3 _ ["dice", "items", "size"] (spSome K) := ⟨ok_some F3 T G1, m3, k3, b3⟩
  have G4 : Cal l.prog w K mg base 1 "_law_dice" f4 _ ["script", "spot"] (spDice K) := ⟨ok_dice F4 T, m4, k4, b4⟩
  have G5 : Cal l.prog w K mg base 1 "is_integer" f5 _ ["value"] (spInteger K) := ⟨ok_is_integer F5 T, m5, k5, b5⟩
  have G6 : Cal l.prog w K mg base 1 "is_fact" f6 _ ["value"] (spFact K) := ⟨ok_is_fact F6 T ⟨_, n1⟩, m6, k6, b6⟩
  have G7 : Cal l.prog w K mg base 2 "is_node" f7 _ ["value"] (spIsNode K) := ⟨ok_is_node F7 T S ⟨_, n2⟩ ⟨_, n3⟩ G6 G5, m7, k7, b7⟩
  have G8 : Cal l.prog w K mg base 1 "depth_of" f8 _ ["nodes"] (spDepth K) := ⟨ok_depth_of F8 T S, m8, k8, b8⟩
  have G9 : Cal l.prog w K mg base 1 "facts_of" f9 _ ["nodes"] (spFacts K) := ⟨ok_facts_of F9 T, m9, k9, b9⟩
  have G10 : Cal l.prog w K mg base 1 "choices_of" f10 _ ["nodes"] (spChoices K) := ⟨ok_choices_of F10 T, m10, k10, b10⟩
  have G11 : Cal l.prog w K mg base 3 "_are_nodes" f11 _ ["value"] (spAre K) := ⟨ok_are_nodes F11 T ⟨_, n4⟩ ⟨_, n5⟩ ⟨_, n6⟩ ⟨_, n7⟩ G7 G9 G10 G8, m11, k11, b11⟩
  have G12 : Cal l.prog w K mg base 1 "_law_is_leaf" f12 _ ["plain"] (spIsLeaf K) := ⟨ok_is_leaf F12 T, m12, k12, b12⟩
  have G13 : Cal l.prog w K mg base 3 "_law_leaf" f13 _ ["dice", "words"] (spLeaf K) := ⟨ok_leaf F13 T G1 G2, m13, k13, b13⟩
  have G14 : Cal l.prog w K mg base 12 "_law_nodes" f14 _ ["plain"] (spNodes K 11) := ⟨ok_nodes F14 T G12 m14 k14 b14 11, m14, k14, b14⟩
  have G15 : Cal l.prog w K mg base 13 "_law_count" f15 _ ["plain", "kinds"] (spCount K 11) := ⟨ok_count F15 T G14, m15, k15, b15⟩
  have G16 : Cal l.prog w K mg base 25 "_law_drawn" f16 _ ["dice", "words", "most", "choices"] (spDrawn K 11) := ⟨ok_drawn (N := 11) (by decide) F16 T G1 G2 G13 G14 G15 m16 k16 b16 11 (Nat.le_refl _), m16, k16, b16⟩
  have G17 : Cal l.prog w K mg base 3 "_law_known" f17 _ ["dice"] (spKnown K) := ⟨ok_known F17 T G2, m17, k17, b17⟩
  have G18 : Cal l.prog w K mg base 26 "_law_promise" f18 _ ["dice"] (spPromise K) := ⟨ok_promise (k := 25) (by decide) F18 T G1 G2 G3 G17 G16, m18, k18, b18⟩
  have GI : FnOk l.prog w K mg base (L2.CX l.prog w) 4 fI _ ["self", "nodes"] (spInit K C CE) := ok_init FI T R PC G11
  have GL : FnOk l.prog w K mg base CX0 1 fL _ ["self"] (spLen K C) := ok_len FL T PC
  have G19 : Cal l.prog w K mg base 6 "_law_is_made" f19 _ ["nodes"] (spMade K) := ⟨ok_is_made F19 T R PC GI bI GL bL, m19, k19, b19⟩
  have G20 : Cal l.prog w K mg base 1 "_law_parts_at" f20 _ ["node"] (spParts K) := ⟨ok_parts_at F20 T, m20, k20, b20⟩
  have G21 : Cal l.prog w K mg base 2 "_law_due" f21 _ ["nodes"] (spDue K) := ⟨ok_due F21 T G20, m21, k21, b21⟩
  have G22 : Cal l.prog w K mg base 3 "_law_bent" f22 _ ["dice", "nodes"] (spBent K) := ⟨ok_bent F22 T G1 G2, m22, k22, b22⟩
  have G23 : Cal l.prog w K mg base 27 "_law_right" f23 _ ["dice"] spRight := ⟨ok_right F23 T G18 G14 G19 G21 G22, m23, k23, b23⟩
  exact ok_law F24 T G4 G23 G19
end Eh
open PySem PySem.W PyProof.Rows
set_option maxHeartbeats 0 in
theorem PySem.Challenge.cw_eitherhand_k05_nodes_judged_holds : PySem.Challenge.rw_eitherhand_k05_nodes_judged.Holds := by
  w_on; o_law; k_head; (case hw => w_witness2)
  k_fill
  refine Eh.walk_ofG (l := PySem.Challenge.rw_eitherhand_k05_nodes_judged) (n := 63) (k := 28) (x := "script") (sp := fun w => Eh.spLaw _) rfl (by decide) rfl ⟨rfl, by decide, by decide⟩ (fun w h Y => PySem.W.kIn_of Y) ?F (fun _ _ a ns hl hS => ⟨a, ns, rfl, hS, hl, fun _ => rfl⟩)
  case F =>
    intro w mg fa h KX G hmg
    refine' Eh.all_mk KX G hmg ?a1 ?l1 ?c1 ?k1 ?a2 ?l2 ?c2 ?k2 ?a3 ?l3 ?c3 ?k3 ?a4 ?l4 ?c4 ?k4 ?a5 ?l5 ?c5 ?k5 ?a6 ?l6 ?c6 ?k6 ?a7 ?l7 ?c7 ?k7 ?a8 ?l8 ?c8 ?k8 ?a9 ?l9 ?c9 ?k9 ?a10 ?l10 ?c10 ?k10 ?a11 ?l11 ?c11 ?k11 ?a12 ?l12 ?c12 ?k12 ?a13 ?l13 ?c13 ?k13 ?a14 ?l14 ?c14 ?k14 ?a15 ?l15 ?c15 ?k15 ?a16 ?l16 ?c16 ?k16 ?a17 ?l17 ?c17 ?k17 ?a18 ?l18 ?c18 ?k18 ?a19 ?l19 ?c19 ?k19 ?a20 ?l20 ?c20 ?k20 ?a21 ?l21 ?c21 ?k21 ?a22 ?l22 ?c22 ?k22 ?a23 ?l23 ?c23 ?k23 ?a24 ?l24 ?c24 ?k24 ?z1 ?z2 ?z3 ?z4 ?z5 ?z6 ?z7 ?z8 ?z9 ?z10 ?z11 ?z12 ?z13 ?z14 ?z15 ?z16 ?z17 ?z18 ?z19 ?z20 ?z21 ?i1 ?i2 ?i3 ?i4 ?i5 ?i6 ?i7 ?x1 ?x2 ?x3 ?x4 ?x5 ?x6 ?x7 ?gC ?pg ?hd ?po ?sa ?mk ?kc ?nN ?aI ?iI ?lI ?cI ?kI ?aL ?iL ?lL ?cL ?kL ?y1 ?y2 ?y3 ?y4
    (case a1 => k_is); (case l1 => k_is); (case c1 => k_is); (case k1 => k_is); (case a2 => k_is); (case l2 => k_is); (case c2 => k_is); (case k2 => k_is); (case a3 => k_is); (case l3 => k_is); (case c3 => k_is); (case k3 => k_is); (case a4 => k_is); (case l4 => k_is); (case c4 => k_is); (case k4 => k_is); (case a5 => k_is); (case l5 => k_is); (case c5 => k_is); (case k5 => k_is); (case a6 => k_is); (case l6 => k_is); (case c6 => k_is); (case k6 => k_is); (case a7 => k_is); (case l7 => k_is); (case c7 => k_is); (case k7 => k_is); (case a8 => k_is); (case l8 => k_is); (case c8 => k_is); (case k8 => k_is); (case a9 => k_is); (case l9 => k_is); (case c9 => k_is); (case k9 => k_is); (case a10 => k_is); (case l10 => k_is); (case c10 => k_is); (case k10 => k_is); (case a11 => k_is); (case l11 => k_is); (case c11 => k_is); (case k11 => k_is); (case a12 => k_is); (case l12 => k_is); (case c12 => k_is); (case k12 => k_is); (case a13 => k_is); (case l13 => k_is); (case c13 => k_is); (case k13 => k_is); (case a14 => k_is); (case l14 => k_is); (case c14 => k_is); (case k14 => k_is); (case a15 => k_is); (case l15 => k_is); (case c15 => k_is); (case k15 => k_is); (case a16 => k_is); (case l16 => k_is); (case c16 => k_is); (case k16 => k_is); (case a17 => k_is); (case l17 => k_is); (case c17 => k_is); (case k17 => k_is); (case a18 => k_is); (case l18 => k_is); (case c18 => k_is); (case k18 => k_is); (case a19 => k_is); (case l19 => k_is); (case c19 => k_is); (case k19 => k_is); (case a20 => k_is); (case l20 => k_is); (case c20 => k_is); (case k20 => k_is); (case a21 => k_is); (case l21 => k_is); (case c21 => k_is); (case k21 => k_is); (case a22 => k_is); (case l22 => k_is); (case c22 => k_is); (case k22 => k_is); (case a23 => k_is); (case l23 => k_is); (case c23 => k_is); (case k23 => k_is); (case a24 => k_is); (case l24 => k_is); (case c24 => k_is); (case k24 => k_is); (case z1 => k_is); (case z2 => k_is); (case z3 => k_is); (case z4 => k_is); (case z5 => k_is); (case z6 => k_is); (case z7 => k_is); (case z8 => k_is); (case z9 => k_is); (case z10 => k_is); (case z11 => k_is); (case z12 => k_is); (case z13 => k_is); (case z14 => k_is); (case z15 => k_is); (case z16 => k_is); (case z17 => k_is); (case z18 => k_is); (case z19 => k_is); (case z20 => k_is); (case z21 => k_is); (case i1 => k_is); (case i2 => k_is); (case i3 => k_is); (case i4 => k_is); (case i5 => k_is); (case i6 => k_is); (case i7 => k_is); (case x1 => k_is); (case x2 => k_exc); (case x3 => k_is); (case x4 => k_is); (case x5 => k_is); (case x6 => k_is); (case x7 => k_is); (case gC => k_is); (case pg => k_is); (case hd => k_is); (case po => k_is); (case sa => k_is); (case mk => k_is); (case kc => k_is); (case nN => k_is); (case aI => k_is); (case iI => k_is); (case lI => k_is); (case cI => k_is); (case kI => k_is); (case aL => k_is); (case iL => k_is); (case lL => k_is); (case cL => k_is); (case kL => k_is); (case y1 => k_is); (case y2 => k_is); (case y3 => exact ⟨⟨_, _, rfl, rfl⟩, ⟨_, _, rfl, rfl⟩, ⟨_, _, rfl, rfl⟩, ⟨_, _, rfl, rfl⟩, trivial⟩); (case y4 => first | rfl | decide | k_is)

