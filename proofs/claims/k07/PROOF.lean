import PyProof.Rows.All
import Wide.All
import OpenK.AllK
import Wide.FinOn
import PySem.Challenge.RW_eitherhand_k07_whole_texts_of_promises
import HandS.ForMost
import HandS.Wide
import HandS.IsInst
import HandS.RaiseMore
import HandS.Text
import PyProof.FactsAll.dict_1
import PyProof.FactsAll.subtypes_3
import PyProof.FactsAll.subtypes_4
import HandS.ExcOwn
import HandS.WordsExc
import HandS.TryOnly
import KE.KExcSuper
import HandS.Nested
import HandS.ExcInit
import HandS.ExcField
import HandS.TryMany
import HandS.Strs
import KE.GoesSet
import HandS.DictComp
import HandS.Style
import HandS.OwnIter
import HandS.Rev
import HandS.Property
import HandS.TupAny
import HandS.OwnEq
import HandS.ClsMeth
import HandS.IterNext
import HandS.IterVal
import PyProof.FactsAll.tuple_iterator_1
import HandS.Replace
import HandS.ReplaceLit
import HandS.CallLocal
import HandS.Deep
import HandS.ReplaceDef
import HandS.ReplaceList
import PyProof.NeKinds
import HandS.Lambda
import KE.KExcLine
import KE.RegKSuper
set_option Elab.async false
set_option linter.all false
set_option maxRecDepth 100000
namespace Eh
open PySem PySem.Spec PyProof.Rows L2
/-! ### the text -/
def topS (i : Nat) : Stmt := PySem.Challenge.pw_eitherhand_k07_whole_texts_of_promises.main.body.getD i (.Pass ⟨0, 0, 0, 0⟩)
abbrev s__wall : Stmt := topS 0
theorem sc__wall : FnScope ["k"] ["k"] (defScope s__wall) := ⟨rfl, rfl, rfl, by decide +kernel, rfl, by decide +kernel, by decide +kernel⟩
abbrev s__copied : Stmt := topS 2
theorem sc__copied : FnScope ["value", "item", "key"] ["value"] (defScope s__copied) := ⟨rfl, rfl, rfl, by decide +kernel, rfl, by decide +kernel, by decide +kernel⟩
abbrev s_ParseError___init__ : Stmt := inClass (topS 7) 0
abbrev s_InvalidNumber___init__ : Stmt := inClass (topS 8) 0
abbrev s_is_integer : Stmt := topS 11
theorem sc_is_integer : FnScope ["value"] ["value"] (defScope s_is_integer) := ⟨rfl, rfl, rfl, by decide +kernel, rfl, by decide +kernel, by decide +kernel⟩
abbrev s_is_index : Stmt := topS 12
theorem sc_is_index : FnScope ["value", "many"] ["value", "many"] (defScope s_is_index) := ⟨rfl, rfl, rfl, by decide +kernel, rfl, by decide +kernel, by decide +kernel⟩
abbrev s_is_fact : Stmt := topS 13
theorem sc_is_fact : FnScope ["value", "letter"] ["value"] (defScope s_is_fact) := ⟨rfl, rfl, rfl, by decide +kernel, rfl, by decide +kernel, by decide +kernel⟩
abbrev s_is_node : Stmt := topS 20
theorem sc_is_node : FnScope ["value", "kind", "told"] ["value"] (defScope s_is_node) := ⟨rfl, rfl, rfl, by decide +kernel, rfl, by decide +kernel, by decide +kernel⟩
abbrev s_depth_of : Stmt := topS 21
theorem sc_depth_of : FnScope ["nodes", "missing", "deepest", "kind", "told"] ["nodes"] (defScope s_depth_of) := ⟨rfl, rfl, rfl, by decide +kernel, rfl, by decide +kernel, by decide +kernel⟩
abbrev s_facts_of : Stmt := topS 22
theorem sc_facts_of : FnScope ["nodes", "kind", "told"] ["nodes"] (defScope s_facts_of) := ⟨rfl, rfl, rfl, by decide +kernel, rfl, by decide +kernel, by decide +kernel⟩
abbrev s_choices_of : Stmt := topS 23
theorem sc_choices_of : FnScope ["nodes", "kind", "_"] ["nodes"] (defScope s_choices_of) := ⟨rfl, rfl, rfl, by decide +kernel, rfl, by decide +kernel, by decide +kernel⟩
abbrev s_text_of : Stmt := topS 24
theorem sc_text_of : FnScope ["nodes", "texts", "kind", "told", "parts", "_"] ["nodes"] (defScope s_text_of) := ⟨rfl, rfl, rfl, by decide +kernel, rfl, by decide +kernel, by decide +kernel⟩
abbrev s_bracketed : Stmt := topS 25
theorem sc_bracketed : FnScope ["kind", "parts", "inner"] ["kind", "parts"] (defScope s_bracketed) := ⟨rfl, rfl, rfl, by decide +kernel, rfl, by decide +kernel, by decide +kernel⟩
abbrev s_plain_text : Stmt := topS 26
theorem sc_plain_text : FnScope ["kind", "told"] ["kind", "told"] (defScope s_plain_text) := ⟨rfl, rfl, rfl, by decide +kernel, rfl, by decide +kernel, by decide +kernel⟩
abbrev s_nodes_in : Stmt := topS 27
theorem sc_nodes_in : FnScope ["text", "kinds", "counts", "around", "word", "kind", "told", "at"] ["text"] (defScope s_nodes_in) := ⟨rfl, rfl, rfl, by decide +kernel, rfl, by decide +kernel, by decide +kernel⟩
abbrev s__split : Stmt := topS 28
theorem sc__split : FnScope ["text", "spaced"] ["text"] (defScope s__split) := ⟨rfl, rfl, rfl, by decide +kernel, rfl, by decide +kernel, by decide +kernel⟩
abbrev s__plain_node : Stmt := topS 29
theorem sc__plain_node : FnScope ["word"] ["word"] (defScope s__plain_node) := ⟨rfl, rfl, rfl, by decide +kernel, rfl, by decide +kernel, by decide +kernel⟩
abbrev s_turned : Stmt := topS 30
theorem sc_turned : FnScope ["nodes", "kind", "told"] ["nodes"] (defScope s_turned) := ⟨rfl, rfl, rfl, by decide +kernel, rfl, by decide +kernel, by decide +kernel⟩
abbrev s_joined : Stmt := topS 31
theorem sc_joined : FnScope ["kind", "parts", "found", "part"] ["kind", "parts"] (defScope s_joined) := ⟨rfl, rfl, rfl, by decide +kernel, rfl, by decide +kernel, by decide +kernel⟩
abbrev s_parts_of : Stmt := topS 32
theorem sc_parts_of : FnScope ["nodes", "found", "start", "end"] ["nodes"] (defScope s_parts_of) := ⟨rfl, rfl, rfl, by decide +kernel, rfl, by decide +kernel, by decide +kernel⟩
abbrev s_end_of : Stmt := topS 33
theorem sc_end_of : FnScope ["nodes", "start", "missing", "end", "kind", "told"] ["nodes", "start"] (defScope s_end_of) := ⟨rfl, rfl, rfl, by decide +kernel, rfl, by decide +kernel, by decide +kernel⟩
abbrev s_has_part : Stmt := topS 34
theorem sc_has_part : FnScope ["nodes", "part", "size", "start"] ["nodes", "part"] (defScope s_has_part) := ⟨rfl, rfl, rfl, by decide +kernel, rfl, by decide +kernel, by decide +kernel⟩
abbrev s__are_nodes : Stmt := topS 41
theorem sc__are_nodes : FnScope ["value", "node"] ["value"] (defScope s__are_nodes) := ⟨rfl, rfl, rfl, by decide +kernel, rfl, by decide +kernel, by decide +kernel⟩
abbrev s__are_parts : Stmt := topS 42
theorem sc__are_parts : FnScope ["value", "part"] ["value"] (defScope s__are_parts) := ⟨rfl, rfl, rfl, by decide +kernel, rfl, by decide +kernel, by decide +kernel⟩
abbrev s__is_kind : Stmt := topS 43
theorem sc__is_kind : FnScope ["value"] ["value"] (defScope s__is_kind) := ⟨rfl, rfl, rfl, by decide +kernel, rfl, by decide +kernel, by decide +kernel⟩
abbrev s__of_both : Stmt := topS 44
theorem sc__of_both : FnScope ["kind", "one", "other"] ["kind", "one", "other"] (defScope s__of_both) := ⟨rfl, rfl, rfl, by decide +kernel, rfl, by decide +kernel, by decide +kernel⟩
abbrev s_Promise___init__ : Stmt := inClass (topS 45) 0
theorem sc_Promise___init__ : FnScope ["self", "nodes"] ["self", "nodes"] (defScope s_Promise___init__) := ⟨rfl, rfl, rfl, by decide +kernel, rfl, by decide +kernel, by decide +kernel⟩
abbrev s_Promise_read : Stmt := inClass (topS 45) 1
theorem sc_Promise_read : FnScope ["cls", "text", "nodes"] ["cls", "text"] (defScope s_Promise_read) := ⟨rfl, rfl, rfl, by decide +kernel, rfl, by decide +kernel, by decide +kernel⟩
abbrev s_Promise_of : Stmt := inClass (topS 45) 2
theorem sc_Promise_of : FnScope ["cls", "kind", "parts", "part"] ["cls", "kind", "parts"] (defScope s_Promise_of) := ⟨rfl, rfl, rfl, by decide +kernel, rfl, by decide +kernel, by decide +kernel⟩
abbrev s_Promise_fact : Stmt := inClass (topS 45) 3
theorem sc_Promise_fact : FnScope ["cls", "word"] ["cls", "word"] (defScope s_Promise_fact) := ⟨rfl, rfl, rfl, by decide +kernel, rfl, by decide +kernel, by decide +kernel⟩
abbrev s_Promise_sure : Stmt := inClass (topS 45) 4
theorem sc_Promise_sure : FnScope ["cls"] ["cls"] (defScope s_Promise_sure) := ⟨rfl, rfl, rfl, by decide +kernel, rfl, by decide +kernel, by decide +kernel⟩
abbrev s_Promise_never : Stmt := inClass (topS 45) 5
theorem sc_Promise_never : FnScope ["cls"] ["cls"] (defScope s_Promise_never) := ⟨rfl, rfl, rfl, by decide +kernel, rfl, by decide +kernel, by decide +kernel⟩
abbrev s_Promise_nodes : Stmt := inClass (topS 45) 6
theorem sc_Promise_nodes : FnScope ["self"] ["self"] (defScope s_Promise_nodes) := ⟨rfl, rfl, rfl, by decide +kernel, rfl, by decide +kernel, by decide +kernel⟩
abbrev s_Promise_text : Stmt := inClass (topS 45) 7
theorem sc_Promise_text : FnScope ["self"] ["self"] (defScope s_Promise_text) := ⟨rfl, rfl, rfl, by decide +kernel, rfl, by decide +kernel, by decide +kernel⟩
abbrev s_Promise_kind : Stmt := inClass (topS 45) 8
theorem sc_Promise_kind : FnScope ["self"] ["self"] (defScope s_Promise_kind) := ⟨rfl, rfl, rfl, by decide +kernel, rfl, by decide +kernel, by decide +kernel⟩
abbrev s_Promise_parts : Stmt := inClass (topS 45) 9
theorem sc_Promise_parts : FnScope ["self", "nodes"] ["self"] (defScope s_Promise_parts) := ⟨rfl, rfl, rfl, by decide +kernel, rfl, by decide +kernel, by decide +kernel⟩
abbrev s_Promise_facts : Stmt := inClass (topS 45) 10
theorem sc_Promise_facts : FnScope ["self"] ["self"] (defScope s_Promise_facts) := ⟨rfl, rfl, rfl, by decide +kernel, rfl, by decide +kernel, by decide +kernel⟩
abbrev s_Promise_choices : Stmt := inClass (topS 45) 11
theorem sc_Promise_choices : FnScope ["self"] ["self"] (defScope s_Promise_choices) := ⟨rfl, rfl, rfl, by decide +kernel, rfl, by decide +kernel, by decide +kernel⟩
abbrev s_Promise_depth : Stmt := inClass (topS 45) 12
theorem sc_Promise_depth : FnScope ["self"] ["self"] (defScope s_Promise_depth) := ⟨rfl, rfl, rfl, by decide +kernel, rfl, by decide +kernel, by decide +kernel⟩
abbrev s_Promise___and__ : Stmt := inClass (topS 45) 13
theorem sc_Promise___and__ : FnScope ["self", "other"] ["self", "other"] (defScope s_Promise___and__) := ⟨rfl, rfl, rfl, by decide +kernel, rfl, by decide +kernel, by decide +kernel⟩
abbrev s_Promise___or__ : Stmt := inClass (topS 45) 14
theorem sc_Promise___or__ : FnScope ["self", "other"] ["self", "other"] (defScope s_Promise___or__) := ⟨rfl, rfl, rfl, by decide +kernel, rfl, by decide +kernel, by decide +kernel⟩
abbrev s_Promise___add__ : Stmt := inClass (topS 45) 15
theorem sc_Promise___add__ : FnScope ["self", "other"] ["self", "other"] (defScope s_Promise___add__) := ⟨rfl, rfl, rfl, by decide +kernel, rfl, by decide +kernel, by decide +kernel⟩
abbrev s_Promise___mul__ : Stmt := inClass (topS 45) 16
theorem sc_Promise___mul__ : FnScope ["self", "other"] ["self", "other"] (defScope s_Promise___mul__) := ⟨rfl, rfl, rfl, by decide +kernel, rfl, by decide +kernel, by decide +kernel⟩
abbrev s_Promise___neg__ : Stmt := inClass (topS 45) 17
theorem sc_Promise___neg__ : FnScope ["self"] ["self"] (defScope s_Promise___neg__) := ⟨rfl, rfl, rfl, by decide +kernel, rfl, by decide +kernel, by decide +kernel⟩
abbrev s_Promise_renamed : Stmt := inClass (topS 45) 18
theorem sc_Promise_renamed : FnScope ["self", "names"] ["self", "names"] (defScope s_Promise_renamed) := ⟨rfl, rfl, rfl, by decide +kernel, rfl, by decide +kernel, by decide +kernel⟩
abbrev s_Promise_put : Stmt := inClass (topS 45) 19
theorem sc_Promise_put : FnScope ["self", "word", "other"] ["self", "word", "other"] (defScope s_Promise_put) := ⟨rfl, rfl, rfl, by decide +kernel, rfl, by decide +kernel, by decide +kernel⟩
abbrev s_Promise_with_part : Stmt := inClass (topS 45) 20
theorem sc_Promise_with_part : FnScope ["self", "index", "other"] ["self", "index", "other"] (defScope s_Promise_with_part) := ⟨rfl, rfl, rfl, by decide +kernel, rfl, by decide +kernel, by decide +kernel⟩
abbrev s_Promise_many : Stmt := inClass (topS 45) 21
theorem sc_Promise_many : FnScope ["self", "kind", "first", "_"] ["self", "kind"] (defScope s_Promise_many) := ⟨rfl, rfl, rfl, by decide +kernel, rfl, by decide +kernel, by decide +kernel⟩
abbrev s_Promise___len__ : Stmt := inClass (topS 45) 22
theorem sc_Promise___len__ : FnScope ["self"] ["self"] (defScope s_Promise___len__) := ⟨rfl, rfl, rfl, by decide +kernel, rfl, by decide +kernel, by decide +kernel⟩
abbrev s_Promise___iter__ : Stmt := inClass (topS 45) 23
theorem sc_Promise___iter__ : FnScope ["self"] ["self"] (defScope s_Promise___iter__) := ⟨rfl, rfl, rfl, by decide +kernel, rfl, by decide +kernel, by decide +kernel⟩
abbrev s_Promise___getitem__ : Stmt := inClass (topS 45) 24
theorem sc_Promise___getitem__ : FnScope ["self", "index"] ["self", "index"] (defScope s_Promise___getitem__) := ⟨rfl, rfl, rfl, by decide +kernel, rfl, by decide +kernel, by decide +kernel⟩
abbrev s_Promise___contains__ : Stmt := inClass (topS 45) 25
theorem sc_Promise___contains__ : FnScope ["self", "value"] ["self", "value"] (defScope s_Promise___contains__) := ⟨rfl, rfl, rfl, by decide +kernel, rfl, by decide +kernel, by decide +kernel⟩
abbrev s_Promise___eq__ : Stmt := inClass (topS 45) 26
theorem sc_Promise___eq__ : FnScope ["self", "value"] ["self", "value"] (defScope s_Promise___eq__) := ⟨rfl, rfl, rfl, by decide +kernel, rfl, by decide +kernel, by decide +kernel⟩
abbrev s_Promise___str__ : Stmt := inClass (topS 45) 27
theorem sc_Promise___str__ : FnScope ["self"] ["self"] (defScope s_Promise___str__) := ⟨rfl, rfl, rfl, by decide +kernel, rfl, by decide +kernel, by decide +kernel⟩
abbrev s__law_dice : Stmt := topS 47
theorem sc__law_dice : FnScope ["script", "spot", "cell", "great", "blend"] ["script", "spot"] (defScope s__law_dice) := ⟨rfl, rfl, rfl, by decide +kernel, rfl, by decide +kernel, by decide +kernel⟩
abbrev s__law_roll : Stmt := topS 48
theorem sc__law_roll : FnScope ["dice", "many", "found", "one", "two"] ["dice", "many"] (defScope s__law_roll) := ⟨rfl, rfl, rfl, by decide +kernel, rfl, by decide +kernel, by decide +kernel⟩
abbrev s__law_pick : Stmt := topS 49
theorem sc__law_pick : FnScope ["dice", "items"] ["dice", "items"] (defScope s__law_pick) := ⟨rfl, rfl, rfl, by decide +kernel, rfl, by decide +kernel, by decide +kernel⟩
abbrev s__law_some : Stmt := topS 50
theorem sc__law_some : FnScope ["dice", "items", "size", "left", "turn"] ["dice", "items", "size"] (defScope s__law_some) := ⟨rfl, rfl, rfl, by decide +kernel, rfl, by decide +kernel, by decide +kernel⟩
abbrev s__law_is_leaf : Stmt := topS 51
theorem sc__law_is_leaf : FnScope ["plain"] ["plain"] (defScope s__law_is_leaf) := ⟨rfl, rfl, rfl, by decide +kernel, rfl, by decide +kernel, by decide +kernel⟩
abbrev s__law_leaf : Stmt := topS 52
theorem sc__law_leaf : FnScope ["dice", "words", "way"] ["dice", "words"] (defScope s__law_leaf) := ⟨rfl, rfl, rfl, by decide +kernel, rfl, by decide +kernel, by decide +kernel⟩
abbrev s__law_drawn : Stmt := topS 53
theorem sc__law_drawn : FnScope ["dice", "words", "most", "choices", "kind", "many", "left", "parts", "room", "at", "more", "share"] ["dice", "words", "most", "choices"] (defScope s__law_drawn) := ⟨rfl, rfl, rfl, by decide +kernel, rfl, by decide +kernel, by decide +kernel⟩
abbrev s__law_promise : Stmt := topS 54
theorem sc__law_promise : FnScope ["dice", "words", "word"] ["dice"] (defScope s__law_promise) := ⟨rfl, rfl, rfl, by decide +kernel, rfl, by decide +kernel, by decide +kernel⟩
abbrev s__law_known : Stmt := topS 55
theorem sc__law_known : FnScope ["dice", "a", "b", "c", "not_a", "not_b", "not_c", "some"] ["dice"] (defScope s__law_known) := ⟨rfl, rfl, rfl, by decide +kernel, rfl, by decide +kernel, by decide +kernel⟩
abbrev s__law_nodes : Stmt := topS 56
theorem sc__law_nodes : FnScope ["plain", "found", "part"] ["plain"] (defScope s__law_nodes) := ⟨rfl, rfl, rfl, by decide +kernel, rfl, by decide +kernel, by decide +kernel⟩
abbrev s__law_count : Stmt := topS 57
theorem sc__law_count : FnScope ["plain", "kinds", "node"] ["plain", "kinds"] (defScope s__law_count) := ⟨rfl, rfl, rfl, by decide +kernel, rfl, by decide +kernel, by decide +kernel⟩
abbrev s__law_text : Stmt := topS 58
theorem sc__law_text : FnScope ["plain", "sign", "inner", "part"] ["plain"] (defScope s__law_text) := ⟨rfl, rfl, rfl, by decide +kernel, rfl, by decide +kernel, by decide +kernel⟩
abbrev s__law_made : Stmt := topS 59
theorem sc__law_made : FnScope ["plain"] ["plain"] (defScope s__law_made) := ⟨rfl, rfl, rfl, by decide +kernel, rfl, by decide +kernel, by decide +kernel⟩
abbrev s__law_read : Stmt := topS 60
theorem sc__law_read : FnScope ["text", "word", "sign"] ["text"] (defScope s__law_read) := ⟨rfl, rfl, rfl, by decide +kernel, rfl, by decide +kernel, by decide +kernel⟩
abbrev s__law_pieces : Stmt := topS 61
theorem sc__law_pieces : FnScope ["text", "sign", "found", "start", "deep", "at"] ["text", "sign"] (defScope s__law_pieces) := ⟨rfl, rfl, rfl, by decide +kernel, rfl, by decide +kernel, by decide +kernel⟩
abbrev s__law_read_parts : Stmt := topS 62
theorem sc__law_read_parts : FnScope ["text", "rows", "sign", "kind", "pieces", "parts", "piece"] ["text"] (defScope s__law_read_parts) := ⟨rfl, rfl, rfl, by decide +kernel, rfl, by decide +kernel, by decide +kernel⟩
abbrev s__law_bent : Stmt := topS 63
theorem sc__law_bent : FnScope ["dice", "text", "at", "way", "piece"] ["dice", "text"] (defScope s__law_bent) := ⟨rfl, rfl, rfl, by decide +kernel, rfl, by decide +kernel, by decide +kernel⟩
abbrev s__law_got : Stmt := topS 64
theorem sc__law_got : FnScope ["text", "error"] ["text"] (defScope s__law_got) := ⟨rfl, rfl, rfl, by decide +kernel, rfl, by decide +kernel, by decide +kernel⟩
abbrev s__law_right : Stmt := topS 65
theorem sc__law_right : FnScope ["dice", "plain", "text", "turn", "near", "due", "told"] ["dice"] (defScope s__law_right) := ⟨rfl, rfl, rfl, by decide +kernel, rfl, by decide +kernel, by decide +kernel⟩
abbrev s_law : Stmt := topS 66
theorem sc_law : FnScope ["script", "spot", "dice", "turn", "odd", "value"] ["script"] (defScope s_law) := ⟨rfl, rfl, rfl, by decide +kernel, rfl, by decide +kernel, by decide +kernel⟩
/-- the names of built-ins that the text reads and has not taken -/
structure Txt (mg : Str → Option Value) : Prop where
  classmethod_ : mg "classmethod" = none
  property_ : mg "property" = none
  isinstance_ : mg "isinstance" = none
  list_ : mg "list" = none
  tuple_ : mg "tuple" = none
  dict_ : mg "dict" = none
  len_ : mg "len" = none
  reversed_ : mg "reversed" = none
  any_ : mg "any" = none
  all_ : mg "all" = none
  range_ : mg "range" = none
  bool_ : mg "bool" = none
  abs_ : mg "abs" = none
  str_ : mg "str" = none
  max_ : mg "max" = none
  sorted_ : mg "sorted" = none
  iter_ : mg "iter" = none
  int_ : mg "int" = none
  sum_ : mg "sum" = none
  min_ : mg "min" = none
  super_ : mg "super" = none
end Eh

set_option Elab.async false
set_option linter.all false
set_option maxRecDepth 100000
namespace Eh
open PySem PySem.Spec PyProof.Rows L2
/-! ### what is called -/
structure Cal (P : Program) (w : World) (K : PySem.W.Frag) (mg : Str → Option Value) (base : Heap) (k : Nat) (x : Str) (f : Addr) (fd : FuncData) (ps : List Str) (sp : Sp) : Prop where
  G : FnOk P w K mg base CX0 k f fd ps sp
  m : mg x = some (.ref f)
  k : PySem.W.keepIn K (.ref f) = true
  b : Binds K fd ps []
/-! ### rules that the layer lacks -/
section
variable {X : Cx}
theorem op_powB : OpR X (binaryOp .Pow) (rI (fun i j => 0 ≤ j ∧ (Builtin.Int.intBits i : Int) * j ≤ 2 ^ 27) fun i j => .int (i ^ j.toNat)) :=
  opI fun _ _ _ _ _ _ _ hc q => pow_int hc.1 hc.2 q
theorem call_repr_bl : CallR X (.builtin "repr") (fun xs H Q => ∃ b, xs = [.bl b] ∧ Q (.str (if b then "True" else "False")) H) := by
  intro pins s σ H xs us Q I r h
  obtain ⟨b, rfl, q⟩ := h
  cases r with
  | cons r1 r2 =>
    cases r2
    cases r1
    exact PySem.P.repr_of_bool ⟨.str _, H, I.tok _, ⟨_, rfl⟩, q⟩
end
/-! ### the dice -/
/-- the list of the dice's three numbers stands at d -/
def D3 (H : Hp) (d : Addr) : Prop := ∃ g b c : Int, H d = some (.lst [.int g, .int b, .int c])
/-- from H to H' only the dice at d were turned, and new objects laid -/
structure Gr (d : Addr) (H H' : Hp) : Prop where
  dice : D3 H' d
  keep : ∀ a o, a ≠ d → H a = some o → H' a = some o
theorem Gr.refl {d : Addr} {H : Hp} (h : D3 H d) : Gr d H H := ⟨h, fun _ _ _ e => e⟩
theorem Gr.trans {d : Addr} {H H1 H2 : Hp} (a : Gr d H H1) (b : Gr d H1 H2) : Gr d H H2 := ⟨b.dice, fun p o n e => b.keep p o n (a.keep p o n e)⟩
theorem Gr.laid {d p : Addr} {H : Hp} {o : HO} (h : D3 H d) (n : H p = none) : Gr d H (upd H p o) := by
  obtain ⟨g, b, c, e⟩ := h
  exact ⟨⟨g, b, c, by rw [upd_ne (ne_of_none e n)]; exact e⟩, fun a u _ z => by rw [upd_ne (ne_of_none z n)]; exact z⟩
theorem D3.ne {d p : Addr} {H : Hp} (h : D3 H d) (n : H p = none) : p ≠ d := by
  obtain ⟨g, b, c, e⟩ := h
  exact (ne_of_none e n).symm
theorem Gr.seq {K : PySem.W.Frag} {d a : Addr} {H H' : Hp} {xs : List V} (r : Gr d H H') (n : a ≠ d) (h : SqL K H a xs) : SqL K H' a xs := by
  rcases h with (h | ⟨o, h⟩) | h
  · exact .inl (.inl (r.keep _ _ n h))
  · exact .inl (.inr ⟨o, r.keep _ _ n h⟩)
  · exact .inr h
theorem Gr.put {d l : Addr} {H H' : Hp} {o : HO} (r : Gr d H H') (n : H l = none) (m : l ≠ d) : Gr d H (upd H' l o) := by
  obtain ⟨g, b, c, e⟩ := r.dice
  exact ⟨⟨g, b, c, by rw [upd_ne m.symm]; exact e⟩, fun a u q z => by rw [upd_ne (ne_of_none z n)]; exact r.keep a u q z⟩
theorem Gr.free {d l : Addr} {H H' : Hp} (r : Gr d H H') (h : D3 H d) (n : H' l = none) : H l = none := by
  cases q : H l with
  | none => rfl
  | some o =>
    by_cases e : l = d
    · obtain ⟨g, b, c, z⟩ := r.dice
      rw [e, z] at n
      cases n
    · rw [r.keep l o e q] at n
      cases n
section
variable {P : Program} {w : World} {K : PySem.W.Frag} {mg : Str → Option Value} {base : Heap}
def spRoll : Sp := fun vs H Q _ => ∃ (d : Addr) (many : Int), vs = [.ref d, .int many] ∧ D3 H d ∧ 0 < many ∧ many < 1073741824 ∧
  ∀ (r : Int) H', 0 ≤ r → r < many → D3 H' d → (∀ a, a ≠ d → H' a = H a) → Q (.int r) H'
theorem fmod_in {i m : Int} (h : 0 < m) : 0 ≤ i.fmod m ∧ i.fmod m < m := by
  rw [Int.fmod_eq_emod_of_nonneg i (by omega)]
  exact ⟨Int.emod_nonneg i (by omega), Int.emod_lt_of_pos i h⟩
theorem in64 {x : Int} (h : 0 ≤ x ∧ x < 2305843009213693951) : -(2 ^ 64) < x ∧ x < 2 ^ 64 := by omega
theorem in64' {x : Int} (h : 0 ≤ x ∧ x < 2305843009213693807) : -(2 ^ 64) < x ∧ x < 2 ^ 64 := by omega
theorem m1N : (2305843009213693951 : Int) ≠ 0 := by decide
theorem m2N : (2305843009213693807 : Int) ≠ 0 := by decide
theorem m3N : (2305843009213693537 : Int) ≠ 0 := by decide
theorem d8N : (8192 : Int) ≠ 0 ∧ (8192 : Int).natAbs < 1073741824 := by decide
theorem ok_roll {f : Addr} {fd : FuncData} (F : Fun K "_law_roll" "_law_roll" s__law_roll f fd) (T : Txt mg) : FnOk P w K mg base CX0 1 f fd ["dice", "many"] spRoll := by
  refine F.ok sc__law_roll (fun vs H Q E h => ?_) (fun cdv A outer s H vs Q E hr h => ?_)
  · obtain ⟨d, m, rfl, _⟩ := h
    rfl
  · obtain ⟨d, m, rfl, ⟨g, b, c, eH⟩, m0, m1, q⟩ := h
    refine ⟨_, (pss_cons (ps_if (pt_cmpR op_gt (pe_ix ix_list (pv 0) pe_int (fun _ _ => rfl)) pe_int (nomark _))
  (pss_cons (ps_set (i := 2) sc__law_roll.nd rfl (.inl rfl) (pe_op op_modN (pe_callTy call_int1 (by rfl) T.int_ (by decide +kernel) (pa_cons (pe_ix ix_list (pv 0) pe_int (fun _ _ => rfl)) pa_nil)) (pv 1)))
  (pss_cons (ps_asg (pe_op op_fdivN (pe_ix ix_list (pv 0) pe_int (fun _ _ => rfl)) (pv 1)) (pg_sub (pv 0) pe_int set_list))
  (pss_one (ps_ret (pv 2)))))
  pss_nil)
  (pss_cons (ps_asg (pe_op op_add (pe_ix ix_list (pv 0) pe_int (fun _ _ => rfl)) pe_int) (pg_sub (pv 0) pe_int set_list))
  (pss_cons (ps_set (i := 3) sc__law_roll.nd rfl (.inl rfl) (pe_op op_modN (pe_callTy call_int1 (by rfl) T.int_ (by decide +kernel) (pa_cons (pe_op op_add (pe_ix ix_list (pv 0) pe_int (fun _ _ => rfl)) (pe_op op_mul pe_int (pe_ix ix_list (pv 0) pe_int (fun _ _ => rfl)))) pa_nil)) pe_int))
  (pss_cons (ps_set (i := 4) sc__law_roll.nd rfl (.inl rfl) (pe_op op_add (pe_op op_mul (pe_op op_modN (pe_callTy call_int1 (by rfl) T.int_ (by decide +kernel) (pa_cons (pe_op op_mul (pv 3) (pv 3)) pa_nil)) pe_int) (pv 3)) (pe_op op_mul pe_int (pe_ix ix_list (pv 0) pe_int (fun _ _ => rfl)))))
  (pss_cons (ps_set (i := 4) sc__law_roll.nd rfl (.inl rfl) (pe_op op_modN (pe_callTy call_int1 (by rfl) T.int_ (by decide +kernel) (pa_cons (pv 4) pa_nil)) pe_int))
  (pss_one (ps_ret (pe_op op_modN (pe_callTy call_int1 (by rfl) T.int_ (by decide +kernel) (pa_cons (pe_op op_fdivN (pv 4) pe_int) pa_nil)) (pv 1))))))))), ?_⟩
    refine ⟨_, rfl, d, _, 0, _, rfl, rfl, SqL.of eH, atI_nat (j := 0) rfl, g, 0, rfl, rfl, _, rfl, ite2 (fun _ => ?_) (fun _ => ?_)⟩
    · refine ⟨_, rfl, d, _, 0, _, rfl, rfl, SqL.of eH, atI_nat (j := 0) rfl, .inl ⟨g, rfl, ?_⟩⟩
      refine ⟨_, rfl, g, m, rfl, rfl, by omega, ?_⟩
      refine ⟨_, rfl, d, _, 0, _, rfl, rfl, SqL.of eH, atI_nat (j := 0) rfl, _, rfl, g, m, rfl, rfl, ⟨by omega, by omega⟩, ?_⟩
      refine ⟨_, rfl, d, _, 0, 0, rfl, rfl, eH, rfl, ?_⟩
      refine ⟨_, rfl, q _ _ (fmod_in m0).1 (fmod_in m0).2 ⟨_, b, c, upd_same⟩ fun a n => upd_ne n⟩
    · refine ⟨_, rfl, d, _, 2, _, rfl, rfl, SqL.of eH, atI_nat (j := 2) rfl, c, 1, rfl, rfl, ?_⟩
      refine ⟨_, rfl, d, _, 2, 2, rfl, rfl, eH, rfl, ?_⟩
      have e1 : (upd H d (.lst [.int g, .int b, .int (c + 1)])) d = some (.lst [.int g, .int b, .int (c + 1)]) := upd_same
      refine ⟨_, rfl, d, _, 1, _, rfl, rfl, SqL.of e1, atI_nat (j := 1) rfl, _, rfl, d, _, 2, _, rfl, rfl, SqL.of e1, atI_nat (j := 2) rfl, _, _, rfl, rfl, .inl ⟨by decide, by decide⟩, _, _, rfl, rfl, .inl ⟨_, rfl, ?_⟩⟩
      refine ⟨_, _, rfl, rfl, m1N, ?_⟩
      refine ⟨_, rfl, _, rfl, _, _, rfl, rfl, .inl (in64 (fmod_in (by decide))), .inl ⟨_, rfl, ?_⟩⟩
      refine ⟨_, _, rfl, rfl, m2N, ?_⟩
      refine ⟨_, rfl, _, _, rfl, rfl, .inl (in64' (fmod_in (by decide))), ?_⟩
      refine ⟨_, rfl, d, _, 2, _, rfl, rfl, SqL.of e1, atI_nat (j := 2) rfl, _, _, rfl, rfl, .inl ⟨by decide, by decide⟩, _, _, rfl, rfl, ?_⟩
      refine ⟨_, rfl, .inl ⟨_, rfl, _, _, rfl, rfl, m3N, ?_⟩⟩
      refine ⟨_, rfl, _, _, rfl, rfl, d8N, .inl ⟨_, rfl, _, rfl, _, m, rfl, rfl, by omega, ?_⟩⟩
      exact q _ _ (fmod_in m0).1 (fmod_in m0).2 ⟨g, b, _, upd_same⟩ fun a n => upd_ne n
end
end Eh

set_option Elab.async false
set_option linter.all false
set_option maxRecDepth 100000
namespace Eh
open PySem PySem.Spec PyProof.Rows L2
/-! ### the rules with the written part named (within a comprehension the context's own name of it is out of reach) -/
section
variable {X : Cx} {K : PySem.W.Frag}
theorem ixL (h : X.K = K) : IxR X (rIxL K) := by subst h; exact ix_list
theorem ixT (h : X.K = K) : IxR X (rIxT K) := by subst h; exact ix_tup
theorem slL (h : X.K = K) : SlR X (rSlL K) := by subst h; exact sl_list
theorem inQ (h : X.K = K) : OpR X (compareOp .In) (rIn K false) := by subst h; exact op_in_seq
theorem niQ (h : X.K = K) : OpR X (compareOp .NotIn) (rIn K true) := by subst h; exact op_notIn_seq
theorem eqD (h : X.K = K) (hu : X.A.units + 64 < cLine) : OpR X (compareOp .Eq) (rEqD K) := by subst h; exact op_eqD hu
theorem neD (h : X.K = K) (hu : X.A.units + 64 < cLine) : OpR X (compareOp .NotEq) (rNeD K) := by subst h; exact op_neD hu
def rLen (K : PySem.W.Frag) : List V → Hp → VK → Prop := fun xs H Q => (∃ p ys, xs = [.ref p] ∧ (SqL K H p ys ∨ SqT K H p ys) ∧ Q (.int ys.length) H) ∨ (∃ z : Str, xs = [.str z] ∧ z.length ≤ sizeLine ∧ Q (.int z.length) H)
theorem lenQ (h : X.K = K) : CallR X (.builtin "len") (rLen K) := by subst h; exact call_len_seq.or call_len_str
def rLstOf (K : PySem.W.Frag) : List V → Hp → VK → Prop := fun xs H Q => ∃ p ys, xs = [.ref p] ∧ (SqL K H p ys ∨ SqT K H p ys) ∧ ∀ l, H l = none → Q (.ref l) (upd H l (.lst ys))
theorem lstOf (h : X.K = K) : CallR X (.type "list") (rLstOf K) := by subst h; exact call_list_of
theorem isiQ (h : X.K = K) : CallR X (.builtin "isinstance") (rIsi K) := by subst h; exact call_isi
theorem allQ (h : X.K = K) (hc : X.calm = true) : CallR X (.builtin "all") (rAll K) := by subst h; exact cr_all hc
theorem bmK {e : Expr} {T : String} {r : V → List V → Hp → VK → Prop} {to : TE} {t : TA} (h : X.K = K) (p : PE X e (tBM X.K T r to t)) : PE X e (tBM K T r to t) := by subst h; exact p
theorem bm0K {e : Expr} {T : String} {r : V → List V → Hp → VK → Prop} {to : TE} (h : X.K = K) (p : PE X e (tBM0 X.K T r to)) : PE X e (tBM0 K T r to) := by subst h; exact p
theorem piL {tg l : Expr} {tl : TE} (h : X.K = K) (hl : PE X l tl) : PI X tg l (iList K tl) := by subst h; exact pi_list hl
end
end Eh

set_option Elab.async false
set_option linter.all false
set_option maxRecDepth 100000
namespace Eh
open PySem PySem.Spec PyProof.Rows L2
/-! ### comprehensions over one name, the list that grows told -/
theorem small {n : Nat} (h : n < 1000000) : n < sizeLine := Nat.lt_of_lt_of_le h (by decide)
theorem wipe1 {σ : L2.St} {i : Nat} {x : Option V} : wipe ((wipe σ [i]).set i x) [i] = wipe σ [i] := by
  show ((σ.set i none).set i x).set i none = σ.set i none
  rw [List.set_set, List.set_set]
/-- ahead of turn j: what is made stands at D, and R -/
def LcP (R : Nat → List V → Hp → Prop) (D : Addr) (j : Nat) (H : Hp) : Prop := ∃ acc, acc.length ≤ j ∧ H D = some (.lst acc) ∧ R j acc H
/-- behind the element of turn j -/
def LcK (R : Nat → List V → Hp → Prop) (D : Addr) (j : Nat) : VK := fun y H4 => ∃ acc, H4 D = some (.lst acc) ∧ acc.length < sizeLine ∧ LcP R D (j + 1) (upd H4 D (.lst (acc ++ [y])))
theorem LcK.mk {R : Nat → List V → Hp → Prop} {D : Addr} {j : Nat} {acc : List V} {y : V} {H : Hp} (hl : acc.length ≤ j) (hj : j < 1000000) (e : H D = some (.lst acc)) (r : R (j + 1) (acc ++ [y]) (upd H D (.lst (acc ++ [y])))) : LcK R D j y H :=
  ⟨acc, e, small (by omega), acc ++ [y], by rw [List.length_append]; show acc.length + 1 ≤ j + 1; omega, upd_same, r⟩
/-- what a comprehension's reading asks behind its new list -/
def LcGoal (J : It) (g : TG) (tt : TT) (te : TE) (vs : List Nat) (σ : L2.St) (H1 : Hp) (D : Addr) (Qd : Hp → Prop) : Prop :=
  ∃ W : Nat → Nat → Hp → Prop, (∃ m, W 0 m (upd H1 D (.lst []))) ∧ ∀ i m H, W i m H → (J.stop i H ∧ Qd H) ∨ (J.go i H ∧ ∃ Nx : Hp → Prop, (∀ H', Nx H' → ∃ m', m' < m ∧ W (i + 1) m' H') ∧
    ∀ x H', J.yld i H x H' → g x (wipe σ vs) H' fun σ2 H2 => wipe σ2 vs = wipe σ vs ∧ tt σ2 H2 fun b H3 => if b = true then te σ2 H3 fun y H4 => ∃ acc, H4 D = some (.lst acc) ∧ acc.length < sizeLine ∧ Nx (upd H4 D (.lst (acc ++ [y]))) else Nx H3)
theorem yesT {τ : L2.St} {H : Hp} {A B : Hp → Prop} (h : A H) : tYes τ H (fun b H3 => if b = true then A H3 else B H3) := by
  show (if true = true then A H else B H)
  rw [if_pos rfl]
  exact h
section
variable {te : TE} {tt : TT} {σ : L2.St} {H1 : Hp} {D : Addr} {Qd : Hp → Prop} {i : Nat}
theorem lc_any {J : It} {n : Nat} (R : Nat → List V → Hp → Prop) (h0 : R 0 [] (upd H1 D (.lst [])))
    (hgo : ∀ j acc H, j < n → acc.length ≤ j → H D = some (.lst acc) → R j acc H → J.go j H ∧ ∀ x H', J.yld j H x H' → H' = H ∧
      tt ((wipe σ [i]).set i (some x)) H fun b H3 => if b = true then te ((wipe σ [i]).set i (some x)) H3 (LcK R D j) else LcP R D (j + 1) H3)
    (hstop : ∀ acc H, acc.length ≤ n → H D = some (.lst acc) → R n acc H → J.stop n H ∧ Qd H) : LcGoal J (gName i) tt te [i] σ H1 D Qd := by
  refine ⟨fun j m H => m = n - j ∧ j ≤ n ∧ LcP R D j H, ⟨n, by omega, Nat.zero_le _, [], Nat.le_refl _, upd_same, h0⟩, ?_⟩
  rintro j m H ⟨rfl, hj, acc, hl, e, r⟩
  by_cases hlt : j < n
  · obtain ⟨g1, g2⟩ := hgo j acc H hlt hl e r
    refine .inr ⟨g1, LcP R D (j + 1), fun H' q => ⟨n - (j + 1), by omega, rfl, hlt, q⟩, fun x H' y => ?_⟩
    obtain ⟨eH, k⟩ := g2 x H' y
    subst eH
    exact ⟨wipe1, k⟩
  · have ej : j = n := by omega
    subst ej
    exact .inl (hstop acc H hl e r)
/-- over a range, no test -/
theorem lcR {lo : Int} {n : Nat} (R : Nat → List V → Hp → Prop) (h0 : R 0 [] (upd H1 D (.lst [])))
    (hs : ∀ j acc H, j < n → acc.length ≤ j → H D = some (.lst acc) → R j acc H → te ((wipe σ [i]).set i (some (.int (lo + j)))) H (LcK R D j))
    (hd : ∀ acc H, acc.length ≤ n → H D = some (.lst acc) → R n acc H → Qd H) : LcGoal (Itr lo n) (gName i) tYes te [i] σ H1 D Qd :=
  lc_any R h0 (fun j acc H hj hl e r => ⟨hj, fun x H' y => ⟨y.1, by
    rw [show x = .int (lo + j) from y.2]
    exact hs j acc H hj hl e r⟩⟩) fun acc H hl e r => ⟨Nat.le_refl _, hd acc H hl e r⟩
/-- over a text, no test; with one -/
theorem lcS {z : Str} (R : Nat → List V → Hp → Prop) (h0 : R 0 [] (upd H1 D (.lst [])))
    (hs : ∀ j c acc H, z.cps[j]? = some c → acc.length ≤ j → H D = some (.lst acc) → R j acc H →
      tt ((wipe σ [i]).set i (some (.str ⟨#[c]⟩))) H fun b H3 => if b = true then te ((wipe σ [i]).set i (some (.str ⟨#[c]⟩))) H3 (LcK R D j) else LcP R D (j + 1) H3)
    (hd : ∀ acc H, acc.length ≤ z.cps.size → H D = some (.lst acc) → R z.cps.size acc H → Qd H) : LcGoal (Its z) (gName i) tt te [i] σ H1 D Qd :=
  lc_any R h0 (fun j acc H hj hl e r => ⟨hj, fun x H' y => by
    obtain ⟨y1, c, hc, rfl⟩ := y
    exact ⟨y1, hs j c acc H hc hl e r⟩⟩) fun acc H hl e r => ⟨Nat.le_refl _, hd acc H hl e r⟩
/-- over a list that stays -/
theorem lcL {K : PySem.W.Frag} {a : Addr} {xs : List V} (R : Nat → List V → Hp → Prop) (h0 : R 0 [] (upd H1 D (.lst []))) (hl : ∀ j acc H, R j acc H → SqL K H a xs)
    (hs : ∀ j x acc H, xs[j]? = some x → acc.length ≤ j → H D = some (.lst acc) → R j acc H →
      tt ((wipe σ [i]).set i (some x)) H fun b H3 => if b = true then te ((wipe σ [i]).set i (some x)) H3 (LcK R D j) else LcP R D (j + 1) H3)
    (hd : ∀ acc H, acc.length ≤ xs.length → H D = some (.lst acc) → R xs.length acc H → Qd H) : LcGoal (Itl K a) (gName i) tt te [i] σ H1 D Qd :=
  lc_any R h0 (fun j acc H hj hl' e r => ⟨⟨xs, xs[j], hl _ _ _ r, List.getElem?_eq_getElem hj⟩, fun x H' y => ⟨y.1, hs j x acc H (y.2 xs (hl _ _ _ r)) hl' e r⟩⟩)
    fun acc H hl' e r => ⟨⟨xs, hl _ _ _ r, Nat.le_refl _⟩, hd acc H hl' e r⟩
/-- over a tuple that stays -/
theorem lcT {K : PySem.W.Frag} {a : Addr} {xs : List V} (R : Nat → List V → Hp → Prop) (h0 : R 0 [] (upd H1 D (.lst []))) (hl : ∀ j acc H, R j acc H → SqT K H a xs)
    (hs : ∀ j x acc H, xs[j]? = some x → acc.length ≤ j → H D = some (.lst acc) → R j acc H →
      tt ((wipe σ [i]).set i (some x)) H fun b H3 => if b = true then te ((wipe σ [i]).set i (some x)) H3 (LcK R D j) else LcP R D (j + 1) H3)
    (hd : ∀ acc H, acc.length ≤ xs.length → H D = some (.lst acc) → R xs.length acc H → Qd H) : LcGoal (Itt K a) (gName i) tt te [i] σ H1 D Qd :=
  lc_any R h0 (fun j acc H hj hl' e r => ⟨⟨xs, xs[j], hl _ _ _ r, List.getElem?_eq_getElem hj⟩, fun x H' y => ⟨y.1, hs j x acc H (y.2 xs (hl _ _ _ r)) hl' e r⟩⟩)
    fun acc H hl' e r => ⟨⟨xs, hl _ _ _ r, Nat.le_refl _⟩, hd acc H hl' e r⟩
end
end Eh

set_option Elab.async false
set_option linter.all false
set_option maxRecDepth 100000
namespace Eh
open PySem PySem.Spec PyProof.Rows L2
section
variable {P : Program} {w : World} {K : PySem.W.Frag} {mg : Str → Option Value} {base : Heap}
theorem seq_off {d a : Addr} {H H' : Hp} {xs : List V} (n : a ≠ d) (k : ∀ b, b ≠ d → H' b = H b) (h : SqL K H a xs) : SqL K H' a xs := by
  rcases h with (h | ⟨o, h⟩) | h
  · exact .inl (.inl (by rw [k a n]; exact h))
  · exact .inl (.inr ⟨o, by rw [k a n]; exact h⟩)
  · exact .inr h
/-! pick -/
def spPick (K : PySem.W.Frag) : Sp := fun vs H Q _ => ∃ (d a : Addr) (xs : List V), vs = [.ref d, .ref a] ∧ D3 H d ∧ SqL K H a xs ∧ a ≠ d ∧ 0 < xs.length ∧ xs.length < 1000000 ∧
  ∀ x H', x ∈ xs → D3 H' d → (∀ b, b ≠ d → H' b = H b) → Q x H'
theorem at_in {xs : List V} {r : Int} (h0 : 0 ≤ r) (h1 : r < xs.length) : ∃ x, atI xs r = some x ∧ x ∈ xs := by
  have h : r.toNat < xs.length := by omega
  refine ⟨xs[r.toNat], ?_, List.getElem_mem h⟩
  have e := atI_nat (xs := xs) (j := r.toNat) (List.getElem?_eq_getElem h)
  rwa [Int.toNat_of_nonneg h0] at e
theorem ok_pick {f fR : Addr} {fd fdR : FuncData} (F : Fun K "_law_pick" "_law_pick" s__law_pick f fd) (T : Txt mg) (C__law_roll : Cal P w K mg base 1 "_law_roll" fR fdR ["dice", "many"] spRoll) :
    FnOk P w K mg base CX0 2 f fd ["dice", "items"] (spPick K) := by
  refine F.ok sc__law_pick (fun vs H Q E h => ?_) (fun cdv A outer s H vs Q E hr h => ?_)
  · obtain ⟨d, a, xs, rfl, _⟩ := h
    rfl
  · obtain ⟨d, a, xs, rfl, D, hS, hn, h0, h1, q⟩ := h
    refine ⟨_, (pss_one (ps_ret (pe_ix (ixL (K := K) rfl) (pv 1) (pe_call C__law_roll.G hr (by rfl) C__law_roll.m C__law_roll.k C__law_roll.b .nil pass0 (pa_cons (pv 0) (pa_cons (pe_callB (lenQ (K := K) rfl) (by rfl) T.len_ (by decide +kernel) (pa_cons (pv 1) pa_nil)) pa_nil))) (fun _ _ => rfl)))), ?_⟩
    refine ⟨_, rfl, _, rfl, _, rfl, (.inl ⟨a, xs, rfl, .inl hS, d, _, rfl, D, by omega, by omega, fun r H' r0 r1 D' k => ?_⟩)⟩
    obtain ⟨x, e, hx⟩ := at_in r0 r1
    exact ⟨a, xs, r, x, rfl, rfl, seq_off hn k hS, e, q x H' hx D' k⟩
end
end Eh

set_option Elab.async false
set_option linter.all false
set_option maxRecDepth 100000
namespace Eh
open PySem PySem.Spec PyProof.Rows L2
section
variable {P : Program} {w : World} {K : PySem.W.Frag} {mg : Str → Option Value} {base : Heap}
/-! dice -/
def spDice (K : PySem.W.Frag) : Sp := fun vs H Q _ => ∃ (a : Addr) (ns : List Int) (k : Nat), vs = [.ref a, .int k] ∧ SqL K H a (ns.map V.int) ∧
  ∀ d H', Same H H' → H d = none → D3 H' d → Q (.ref d) H'
theorem p60 : (0 : Int) ≤ 60 ∧ (60 : Int) ≤ 1000000 ∧ (10 : Int).natAbs < 2 ^ 64 := by decide
theorem p18 : (0 : Int) ≤ 18 ∧ (18 : Int) ≤ 1000000 ∧ (10 : Int).natAbs < 2 ^ 64 := by decide
theorem p600 : (0 : Int) ≤ 10 ∧ (Builtin.Int.intBits ((10 : Int) ^ (60 : Int).toNat) : Int) * 10 ≤ 2 ^ 27 := by decide +kernel
theorem n600 : ((10 : Int) ^ (60 : Int).toNat) ^ (10 : Int).toNat ≠ 0 := by decide +kernel
theorem mulR {i j : Int} (h : -(2 ^ 64) < j ∧ j < 2 ^ 64) : CMul i j := .inr h
theorem mulL {i j : Int} (h : -(2 ^ 64) < i ∧ i < 2 ^ 64) : CMul i j := .inl h
theorem same_new {H : Hp} {p : Addr} {o : HO} (h : H p = none) : Same H (upd H p o) := fun b x e => by
  rw [upd_ne (ne_of_none e h)]
  exact e
theorem lenOk (n : Nat) {xs : List V} (e : xs.length = n := by rfl) (h : n < 1000000 := by decide) : xs.length ≤ sizeLine := by
  rw [e]
  exact Nat.le_of_lt (small h)
theorem ok_dice {f : Addr} {fd : FuncData} (F : Fun K "_law_dice" "_law_dice" s__law_dice f fd) (T : Txt mg) : FnOk P w K mg base CX0 1 f fd ["script", "spot"] (spDice K) := by
  refine F.ok sc__law_dice (fun vs H Q E h => ?_) (fun cdv A outer s H vs Q E hr h => ?_)
  · obtain ⟨a, ns, k, rfl, _⟩ := h
    rfl
  · obtain ⟨a, ns, k, rfl, hS, q⟩ := h
    refine ⟨_, (pss_cons (ps_set (i := 2) sc__law_dice.nd rfl (.inl rfl) (pe_op op_add (pe_op op_mul pe_int (pv 1)) pe_int))
  (pss_cons (ps_if (pt_cmpR op_lt (pv 1) (pe_callB (lenQ (K := K) rfl) (by rfl) T.len_ (by decide +kernel) (pa_cons (pv 0) pa_nil)) (nomark _))
  (pss_one (ps_set (i := 2) sc__law_dice.nd rfl (.inl rfl) (pe_ix (ixL (K := K) rfl) (pv 0) (pv 1) (fun _ _ => rfl))))
  pss_nil)
  (pss_cons (ps_set (i := 3) sc__law_dice.nd rfl (.inl rfl) (pe_op op_modN (pe_callTy call_int1 (by rfl) T.int_ (by decide +kernel) (pa_cons (pe_callB call_abs (by rfl) T.abs_ (by decide +kernel) (pa_cons (pv 2) pa_nil)) pa_nil)) (pe_op op_powB (pe_op op_pow pe_int pe_int) pe_int)))
  (pss_cons (ps_set (i := 4) sc__law_dice.nd rfl (.inl rfl) (pe_op op_add (pe_op op_add (pe_op op_add (pe_op op_mul (pe_op op_modN (pe_callTy call_int1 (by rfl) T.int_ (by decide +kernel) (pa_cons (pv 3) pa_nil)) pe_int) pe_int) (pe_op op_mul pe_int (pv 1))) (pe_op op_mul pe_int (pe_callTy call_int1 (by rfl) T.int_ (by decide +kernel) (pa_cons (pe_cmpR op_lt (pv 2) pe_int (nomark _)) pa_nil)))) pe_int))
  (pss_one (ps_ret (pe_lst (pa_cons (pe_callB (call_max2 (by rfl)) (by rfl) T.max_ (by decide +kernel) (pa_cons pe_int (pa_cons (pe_op op_sub (pv 3) (pe_op op_pow pe_int pe_int)) pa_nil))) (pa_cons (pe_op op_modN (pe_callTy call_int1 (by rfl) T.int_ (by decide +kernel) (pa_cons (pv 4) pa_nil)) pe_int) (pa_cons pe_int pa_nil)))))))))), ?_⟩
    refine ⟨_, rfl, _, _, rfl, rfl, mulL (by decide), _, _, rfl, rfl, ?_⟩
    refine ⟨_, rfl, _, rfl, .inl ⟨a, _, rfl, .inl hS, _, _, rfl, rfl, _, rfl, ite2 (fun hk => ?A) (fun _ => ?B)⟩⟩
    case' A =>
      have hk : (k : Int) < ((ns.map V.int).length : Int) := of_decide_eq_true hk
      have hk' : k < ns.length := by rw [List.length_map] at hk; omega
      refine ⟨_, rfl, _, rfl, a, _, k, .int ns[k], rfl, rfl, hS, atI_nat (by rw [List.getElem?_map, List.getElem?_eq_getElem hk']; rfl), ?_⟩
    all_goals
      refine ⟨_, rfl, _, rfl, .inl ⟨_, rfl, _, _, rfl, rfl, p60, _, _, rfl, rfl, p600, _, _, rfl, rfl, n600, ?_⟩⟩
      refine ⟨_, rfl, .inl ⟨_, rfl, _, _, rfl, rfl, m3N, _, _, rfl, rfl, mulR (by decide), _, rfl, _, _, rfl, rfl, mulL (by decide), _, _, rfl, rfl, _, rfl, _, _, rfl, rfl, .inr ⟨_, rfl, _, _, rfl, rfl, mulL (by decide), _, _, rfl, rfl, _, _, rfl, rfl, ?_⟩⟩⟩
      refine ⟨_, rfl, _, _, rfl, rfl, p18, _, _, rfl, rfl, _, _, rfl, _, rfl, .inl ⟨_, rfl, _, _, rfl, rfl, m3N, lenOk 3, fun l nl => ?_⟩⟩
      exact q l _ (same_new nl) nl ⟨_, _, _, upd_same⟩
end
end Eh

set_option Elab.async false
set_option linter.all false
set_option maxRecDepth 100000
/-! a text == a dict; a value of any kind in a tuple of texts -/
namespace Eh
open PySem PySem.SeqAt
theorem dictNoStr (l : Addr) (dd : Option Addr) (es : Array DictEntry) (n : Nat) (sl : Array (Option Value)) (b : Str) (u : Tok) :
    Meets (Builtin.«dict.__eq__» ⟨[.ref l, .str b u], []⟩) (fun _ R s => s.heap.get? l = some { cls := .type "dict", dict := dd, data := .dict es n, slots := sl } ∧ R (.ok (.ret .notImplemented)) s) :=
  .of_wp fun prog w A R s h => by
    obtain ⟨hp, g, d, tk, os⟩ := s
    obtain ⟨hl, h⟩ := h
    have f1 := PySem.F.sub_str_dict
    wp_walk using wpAny_loadPart' hl
    exact ⟨_, rfl, h⟩
theorem strNoDict (l : Addr) (dd : Option Addr) (es : Array DictEntry) (n : Nat) (sl : Array (Option Value)) (b : Str) (u : Tok) :
    Meets (Builtin.«str.__eq__» ⟨[.str b u, .ref l], []⟩) (fun _ R s => s.heap.get? l = some { cls := .type "dict", dict := dd, data := .dict es n, slots := sl } ∧ R (.ok (.ret .notImplemented)) s) :=
  .of_wp fun prog w A R s h => by
    obtain ⟨hp, g, d, tk, os⟩ := s
    obtain ⟨hl, h⟩ := h
    wp_walk using wpAny_loadPart' hl, wpAny_load hl
    exact ⟨_, rfl, h⟩
section
variable {A : Around} {s : Shared}
theorem rcStrDict {l : Addr} {dd : Option Addr} {es : Array DictEntry} {n : Nat} {sl : Array (Option Value)} (b : Str) (u : Tok) (ho : s.heap.get? l = some { cls := .type "dict", dict := dd, data := .dict es n, slots := sl }) (hu : A.units < cLine) :
    RcAt A s (.str b u) (.ref l) false := fun prog w E Q h =>
  rc_eq_decline_or (k := false) (typeIs_str s b u) ⟨_, ho, rfl⟩ (by decide) PySem.F.sub_dict_str PySem.F.slot_str_eq PySem.F.slot_dict_eq_refl
    (fun _ hq => call_meets PySem.F.slot_str_eq (typeIs_str s b u) PySem.F.entry_str_eq (PySem.F.args_str_eq_2 _ _) (strNoDict l dd es n sl b u) ⟨ho, hq⟩)
    (fun _ hq => call_meets PySem.F.slot_dict_eq_refl ⟨_, ho, rfl⟩ PySem.F.entry_dict_eq (PySem.F.args_dict_eq_2 _ _) (dictNoStr l dd es n sl b u) ⟨ho, hq⟩)
    (fun _ hq => wpAny_of_eq (rfl : isSame (.str b u) (.ref l) = pure false) hq) (.inr hu) h
theorem eqStrDict {l : Addr} {dd : Option Addr} {es : Array DictEntry} {n : Nat} {sl : Array (Option Value)} (b : Str) (u : Tok) (ho : s.heap.get? l = some { cls := .type "dict", dict := dd, data := .dict es n, slots := sl }) (hu : A.units < cLine) :
    EqAt A s (.str b u) (.ref l) false := fun prog w E Q h => by
  unfold eqBool
  exact wpAny_holding (wpAny_ite_split (fun z => absurd (eq_of_beq z) nofun) fun _ => wpAny_bind (rcStrDict b u ho hu prog w E _ (wpAny_truthy_bool h)))
end
end Eh
namespace Eh
open PySem PySem.Spec PyProof.Rows L2
/-- what may stand on the left of `in` here: flat, or a list, a tuple, a dict -/
def Sorted5 (H : Hp) (x : V) : Prop := flatV x = true ∨ ∃ a, x = .ref a ∧ ((∃ xs, H a = some (.tup xs)) ∨ (∃ xs, H a = some (.lst xs)) ∨ ∃ kvs, H a = some (.dK kvs))
def rInS (K : PySem.W.Frag) : R2 := fun x y H Q => ∃ (p : Addr) (ws : List Str), y = .ref p ∧ SqT K H p (ws.map V.str) ∧ Sorted5 H x ∧ Q (.bl (inV x (ws.map V.str))) H
theorem flat_strs (ws : List Str) : (ws.map V.str).all flatV = true := by
  rw [List.all_eq_true]
  intro x hx
  obtain ⟨z, _, rfl⟩ := List.mem_map.mp hx
  rfl
theorem strs_only : ∀ {ws : List Str} {us : List Value}, Vals (ws.map V.str) us → ∀ u ∈ us, ∃ z t, u = .str z t
  | [], _, .nil, _, h => by cases h
  | z :: ws, _, .cons r t, u, h => by
    rcases List.mem_cons.mp h with rfl | h
    · obtain ⟨t, e⟩ := r
      exact ⟨z, t, e⟩
    · exact strs_only t u h
theorem inV_ref {a : Addr} (ws : List Str) : inV (.ref a) (ws.map V.str) = false := by
  unfold inV
  rw [List.any_map, List.any_eq_false]
  intro z _
  exact fun h => by cases h
theorem inS {X : Cx} {K : PySem.W.Frag} (hK : X.K = K) (hu : X.A.units + 1 < cLine) : OpR X (compareOp .In) (rInS K) := by
  subst hK
  intro pins s σ H x y v u Q I rx ry h
  obtain ⟨p, ws, rfl, hq, so, q⟩ := h
  rcases so with fl | ⟨a, rfl, so⟩
  · exact op_in_seq pins s σ H x (.ref p) v u Q I rx ry ⟨p, _, rfl, .inr hq, fl, flat_strs ws, q⟩
  · cases rx
    cases ry
    rw [inV_ref] at q
    obtain ⟨its, r, pl, hz⟩ := I.tuple hq
    have e0 : its.toArray.any (fun _ => false) = false := by simp
    refine SeqAt.in_tupleAt (fun _ => false) pl (fun w hw => ?_) ⟨.bl _, H, I, rfl, by rw [e0]; exact q⟩
    obtain ⟨z, t, rfl⟩ := strs_only r w (by simpa using hw)
    have hu1 : X.A.in1.units < cLine := hu
    rcases so with ⟨xs, h⟩ | ⟨xs, h⟩ | ⟨kvs, h⟩
    · obtain ⟨i2, r2, p2, _⟩ := I.tuple (SqT.of h)
      exact SeqAt.EqAt.str_tuple z t p2 hu1
    · obtain ⟨i2, r2, p2, _⟩ := I.list (SqL.of h)
      exact SeqAt.EqAt.str_list z t p2.isList hu1
    · obtain ⟨_, _, _, _, o, es, ep, h1, h2, h3, _⟩ := (show ObjOk X.prog X.w H s.heap a (.dK kvs) from I.hok a _ h)
      obtain ⟨oc, od, dt, sl⟩ := o
      have e1 : oc = .type "dict" := h2.1
      simp only at h3
      subst e1 h3
      exact eqStrDict z t h1 hu1
end Eh

set_option Elab.async false
set_option linter.all false
set_option maxRecDepth 100000
/-! promises of defs that are only asked where nothing is being shown (no list's repr runs around them) -/
namespace Eh
open PySem PySem.Spec PyProof.Rows L2
structure FnG (P : Program) (w : World) (K : PySem.W.Frag) (mg : Str → Option Value) (base : Heap) (k : Nat) (f : Addr) (fd : FuncData) (ps : List Str) (sp : Sp) : Prop where
  len : ∀ vs H Q E, sp vs H Q E → vs.length = ps.length
  run : ∀ (A : Around) (outer : List Env) (s : Shared) (H : Hp) (args : Args) (us : List Value) (vs : List V) (Q : VK) (E : XK), A.guards = some [] → Room k A → Env0 P w K mg base A outer s H →
    BindsTo s fd args (ps.zip us) → Vals vs us → sp vs H Q E → codeAny (model P w) A (.call (.ref f) args) (CR CX0 outer P w H s Q E) s
section
variable {P : Program} {w : World} {K : PySem.W.Frag} {mg : Str → Option Value} {base : Heap}
theorem funG {x qual : Str} {st : Stmt} {f : Addr} {fd : FuncData} {N ps : List Str} {k : Nat} {sp : Sp} (F : Fun K x qual st f fd) (S : FnScope N ps (defScope st)) (len : ∀ vs H Q E, sp vs H Q E → vs.length = ps.length)
    (body : ∀ (cdv : Value) (A : Around) (outer : List Env) (s : Shared) (H : Hp) (vs : List V) (Q : VK) (E : XK), (A.deeper (envOfC qual (defScope st) s.heap.objs.size f cdv)).guards = some [] →
      Room k (A.deeper (envOfC qual (defScope st) s.heap.objs.size f cdv)) → sp vs H Q E →
      ∃ t, PSs (cxOf CX0 P w K mg base N qual (defScope st) f cdv A outer s H E).nox (defBody st) t ∧ t { nx := fun _ H' => Q .non H', rt := Q } (start N vs) H) : FnG P w K mg base (k + 1) f fd ps sp where
  len := len
  run A outer s H args us vs Q E hg hr e0 hb r hsp := by
    obtain ⟨oc, od, kV, doc, pm, an, cdv, ct, osl, rfl, lk, hcd⟩ := F.ex
    have old := fun b o e => (e0.bs b o e).1
    have KX := e0.mod.kin.keeps old
    have ok := fun (y : Str × Value) (hy : y ∈ ps.zip us) => S.par y.1 (List.of_mem_zip (a := y.1) (b := y.2) hy).1
    refine codeAny_call_function hr.depth (KX _ _ lk) rfl S.co S.gen rfl (PySem.W.codeRec_of KX hcd) (hb _ _ _ _ ?_)
    refine wpAny_newFunctionEnv_cells S.kind (fun y hy => (ok y hy).imp id fun q => ⟨q, PySem.W.cellsFrom_some _ _ _ (.inl q)⟩) fun env he s1 x => ?_
    cases he
    obtain ⟨t, ht, hq⟩ := body cdv A outer s H vs Q E hg (hr.deeper _) hsp
    refine ⟨(e0.mod.nolimit.keeps old).keeps x.toInCall.keep, codeAny_func ?_⟩
    have I := inv_start (CX := CX0) (E := E) S hr.hd e0 (len _ _ _ _ hsp) r x
    refine wpAny_mono (ht.nox.run [] s1 (start N vs) H _ I hq) (fun fl s' hs => ?_) fun _ _ h => h
    have fin {σ' : L2.St} {H' : Hp} {v : V} {u : Value} (J : Inv (cxOf CX0 P w K mg base N qual (defScope st) f cdv A outer s H E) [] σ' H' s') (rv : RelV v u) (q : Q v H') : CE outer P w H s Q u s' := ⟨v, H', J.os, J.bare, J.base, J.hok, rv, q⟩
    match fl, hs with
    | .ret u, ⟨v, _, _, J, rv, q⟩ => exact fin J rv q
    | .next, ⟨_, _, J, q⟩ => exact fin (v := V.non) J rfl q
    | .brk, ⟨_, _, _, q⟩ => exact q.elim
    | .cont, ⟨_, _, _, q⟩ => exact q.elim
end
section
variable {X : Cx} {k : Nat} {f : Addr} {fd : FuncData} {ps : List Str} {sp : Sp} {x : Str} {p pos : Pos} {e : Expr} {es : List Expr} {t : TA}
theorem pe_callG (F : FnG X.prog X.w X.K X.mg X.base k f fd ps sp) (hgd : X.A.guards = some []) (hr : Room k X.A) (hg : Gl X x) (hm : X.mg x = some (.ref f)) (hk : PySem.W.keepIn X.K (.ref f) = true) (hb : Binds X.K fd ps []) (ha : PA X (e :: es) t)
    (hdb : (x == ("__debug__" : Str)) = false := by decide) (he : starEach (e :: es) X.env = (false, eval e X.env) :: starEach es X.env := by rfl)
    (hpl : (backTo pos (starEach es X.env)).any (·.1) = false := by rfl) : PE X (.Call (.Name x p) (e :: es) [] pos) (fun σ H Q => t σ H fun vs H1 => sp vs H1 Q E0) where
  run pins s σ H Q I h := by
    refine wpAny_Call_Name_kw (ld_glob I hg hm (PySem.W.callWith_K (h₀ := X.base) I.ok.mod.kin hk (thn (ha.run pos pins s σ H _ I h) fun us s1 hh => ?_) he hpl) hdb)
    obtain ⟨vs, H1, I1, r, q⟩ := hh
    refine ⟨I1.kIn, wpAny_call (codeAny_mono (F.run X.A X.stack s1 H1 ⟨us, []⟩ us vs Q E0 hgd hr I1.env0 ?_ r q) fun rr s' hq => ?_)⟩
    · have z := hb s1 us I1.kIn
      rw [List.append_nil] at z
      exact z (by rw [← r.length]; exact F.len _ _ _ _ q)
    · match rr, hq with
      | .ok (.ret u), hq => exact I1.after hq
      | .error _, hq => exact (show False from hq).elim
      | .ok .next, hq => exact (show False from hq).elim
      | .ok .brk, hq => exact (show False from hq).elim
      | .ok .cont, hq => exact (show False from hq).elim
end
/-! an own error is what its class names -/
theorem exmSelf {K : PySem.W.Frag} {C : Addr} (b : PySem.W.subIn K (.ref C) (.type "BaseException") = some true) (i : PySem.W.isClsIn K C = true)
    (t : PySem.W.typeIn K (.ref C) = some (.type "type")) (s : PySem.W.subIn K (.ref C) (.ref C) = some true) : PySem.W.exmOne K (.ref C) (.ref C) = some true := by
  unfold PySem.W.exmOne
  rw [b, if_pos (by decide)]
  have j : ((PySem.W.clsIn K C).isSome && PySem.W.typeIn K (.ref C) == some (.type "type")) = true := by
    rw [show (PySem.W.clsIn K C).isSome = true from i, t]
    decide
  exact (if_pos j).trans s
/-! repr of data -/
section
variable {X : Cx} {K : PySem.W.Frag}
def rRepr (K : PySem.W.Frag) : List V → Hp → VK → Prop := fun xs H Q => ∃ (x : V) (d : PyData), xs = [x] ∧ (∃ a, x = .ref a) ∧ Dp K H x d ∧ d.showable = true ∧ d.hasDict = false ∧ d.depth < 60 ∧ d.shown.length ≤ sizeLine ∧ Q (.str d.shown) H
theorem reprD (h : X.K = K) (hgd : X.A.guards = some []) (hu : X.A.units + 64 < cLine) : CallR X (.builtin "repr") (rRepr K) := by
  subst h
  intro pins s σ H xs us Q I r h
  obtain ⟨x, d, rfl, ⟨a, rfl⟩, hd, hs, hnd, hdp, hsz, q⟩ := h
  cases r with
  | cons r1 r2 =>
    cases r2
    cases r1
    obtain ⟨as, rd⟩ := Dp.reads I d (.ref a) (.ref a) hd rfl
    refine repr_of_reads' rd hs (fun z => by rw [hnd] at z; cases z) hgd (by omega) (fun _ _ e => e) (fun h' u tk kp => ?_) (hsz := hsz)
    exact ⟨.str d.shown, H, I.kept (t' := tk) kp, ⟨u, rfl⟩, q⟩
end
/-! the head: the script is known to its object, all else is below -/
/-- nothing stands in H but, perhaps, the script at a -/
structure Bare1 (K : PySem.W.Frag) (a : Addr) (ob : Obj) (xs : List V) (H : Hp) : Prop where
  none : ∀ b, b ≠ a → H b = Option.none
  at_ : H a = Option.none ∨ (H a = some (.frz ob (.lst xs)) ∧ K.lookup a = Option.none)
theorem Bare1.hid {K : PySem.W.Frag} {a b : Addr} {ob o : Obj} {xs : List V} {H : Hp} {h : Heap} (B : Bare1 K a ob xs H) (e : h.get? b = some o) (n : b ≠ a ∨ H a = Option.none) : (hidT h H).get? b = some o := by
  refine hidT_get e ?_
  by_cases z : b = a
  · rcases n with n | n
    · exact absurd z n
    · rw [z]; exact n
  · exact B.none b z
section
variable {P : Program} {w : World} {K : PySem.W.Frag} {mg mb : Str → Option Value} {k : Nat} {fa a : Addr} {fd : FuncData} {x : Str} {sp : Sp} {s₁ : Shared} {vs : List Value} {ns : List Int} {H : Hp}
theorem law_runG (B : Bare1 K a { cls := .type "list", data := .seq vs.toArray } (ns.map V.int) H) (ok : HOk P w H s₁.heap) (hS : SqL K H a (ns.map V.int))
    (KX : K.In s₁.heap) (hns : s₁.heap.Ns mainGlobals mg) (hb : s₁.heap.Ns builtinsNs mb) (hbb : ∀ x : Str, x ≠ "__name__" → mb x = bootBuiltins x) (hlim : s₁.heap.NoLimit) (hg : s₁.gens = #[])
    (ha : s₁.heap.get? a = some { cls := .type "list", data := .seq vs.toArray }) (hr : Room k callerA)
    (F : ∀ base : Heap, K.In base → base.Ns mainGlobals mg → FnG P w K mg base k fa fd [x] sp) (hbind : ∀ (s : Shared) (u : Value), BindsTo s fd ⟨[u], []⟩ [(x, u)])
    (hsp : sp [.ref a] H (fun v _ => v = .bl true) fun _ _ _ => False) :
    codeAny (model P w) callerA (.call (.ref fa) ⟨[.ref a], []⟩) (fun r s' => r = .ok (.ret (.bool true)) ∧ OldK s₁.heap s'.heap ∧ s'.os = s₁.os ∧ AllBare s'.gens) s₁ := by
  have names {b : Addr} {m : Str → Option Value} (hm : s₁.heap.Ns b m) : (hidT s₁.heap H).Ns b m := by
    obtain ⟨o, es, ep, e, d, r⟩ := hm
    refine ⟨o, es, ep, B.hid e (.inl fun z => ?_), d, r⟩
    rw [z, ha] at e
    cases e
    cases d
  have KB : K.In (hidT s₁.heap H) := fun b o e => B.hid (KX b o e) (by
    by_cases z : b = a
    · rcases B.at_ with q | ⟨_, q⟩
      · exact .inr q
      · rw [z, q] at e; cases e
    · exact .inl z)
  obtain ⟨mc, l1, l2⟩ := hlim
  have E : Env0 P w K mg (hidT s₁.heap H) callerA [] s₁ H := {
    frames := rfl
    mod := ⟨KB, names hns, ⟨mb, names hb, hbb⟩, ⟨mc, names l1, l2⟩⟩
    bs := fun b o e => of_hidT e
    bsz := Nat.le_of_eq (hidT_size _ _)
    funs := trivial
    frf := fun b hb => by cases hb
    hok := ok
    bare := .of_eq hg }
  refine codeAny_mono ((F _ KB (names hns)).run callerA [] s₁ H ⟨[.ref a], []⟩ [.ref a] [.ref a] _ _ rfl hr E (hbind s₁ (.ref a)) (.cons rfl .nil) hsp) fun r s' q => ?_
  match r, q with
  | .error _, q => exact (show False from q).elim
  | .ok .next, q => exact (show False from q).elim
  | .ok .brk, q => exact (show False from q).elim
  | .ok .cont, q => exact (show False from q).elim
  | .ok (.ret u), q =>
    obtain ⟨v, H', os, bare, un, ok', rv, ev⟩ := q
    cases (show v = .bl true from ev)
    cases (show u = Value.bool true from rv)
    refine ⟨rfl, OldK.of_keep fun b o e => ?_, os, bare⟩
    have free : H b = Option.none → s'.heap.get? b = some o := fun n => un.keep b o e n (fun z => by cases z) (fun z => by cases z)
    by_cases z : b = a
    · rcases B.at_ with q | ⟨q, _⟩
      · exact free (by rw [z]; exact q)
      · have e2 := (ok' _ _ (un.frzs _ _ _ q)).1
        rw [z, ha] at e
        cases e
        rw [z]
        exact e2
    · exact free (B.none b z)
theorem law_callG (KX : K.In s₁.heap) (hns : s₁.heap.Ns mainGlobals mg) (hb : s₁.heap.Ns builtinsNs mb) (hbb : ∀ x : Str, x ≠ "__name__" → mb x = bootBuiltins x) (hlim : s₁.heap.NoLimit) (hg : s₁.gens = #[])
    (ha : s₁.heap.get? a = some { cls := .type "list", data := .seq vs.toArray }) (hi : IntsAre vs ns) (hl : ns.length ≤ sizeLine) (hr : Room k callerA)
    (F : ∀ base : Heap, K.In base → base.Ns mainGlobals mg → FnG P w K mg base k fa fd [x] sp) (hbind : ∀ (s : Shared) (u : Value), BindsTo s fd ⟨[u], []⟩ [(x, u)])
    (hsp : ∀ H : Hp, SqL K H a (ns.map V.int) → sp [.ref a] H (fun v _ => v = .bl true) fun _ _ _ => False) :
    codeAny (model P w) callerA (.call (.ref fa) ⟨[.ref a], []⟩) (fun r s' => r = .ok (.ret (.bool true)) ∧ OldK s₁.heap s'.heap ∧ s'.os = s₁.os ∧ AllBare s'.gens) s₁ := by
  have rv := vals_ints hi
  have hlv := rv.length
  rw [List.length_map] at hlv
  rcases hk : K.lookup a with _ | o
  · -- the script is tracked, frozen
    have hS : SqL K (fun b => if b = a then some (.frz { cls := .type "list", data := .seq vs.toArray } (.lst (ns.map V.int))) else Option.none) a (ns.map V.int) := .inl (.inr ⟨_, if_pos rfl⟩)
    refine law_runG ⟨fun b z => if_neg z, .inr ⟨if_pos rfl, hk⟩⟩ (fun b u e => ?_) hS KX hns hb hbb hlim hg ha hr F hbind (hsp _ hS)
    by_cases z : b = a
    · subst z
      rw [if_pos rfl] at e
      cases e
      exact ⟨ha, by rw [List.length_map]; exact hl, vs, _, rv, ha⟩
    · rw [if_neg z] at e
      cases e
  · -- it is the module's own
    have e := KX a o hk
    rw [ha] at e
    cases e
    have hS : SqL K (fun _ => Option.none) a (ns.map V.int) := .inr ⟨_, vs.toArray, _, hk, rfl, rfl, rfl, by rw [List.size_toArray, ← hlv]; exact hl, by rw [List.toList_toArray]; exact rv⟩
    exact law_runG ⟨fun _ _ => rfl, .inl rfl⟩ (fun b u e => by cases e) hS KX hns hb hbb hlim hg ha hr F hbind (hsp _ hS)
end
theorem walk_ofG {l : PySem.W.OpenLaw} {n k : Nat} {q : Program} {loose : List Str} {XP : (Str → Option Value) → Heap → Prop} {YP : World → Heap → Prop} {d : DefRec} {K : Params → PySem.W.Frag} {sp : World → Sp} {x : Str}
    (hn : l.most = some n) (hn2 : n ≤ sizeLine) (hdf : d.params.defaults = []) (hr : Room k callerA) (hY : ∀ (w : World) (h : Heap), YP w h → (K w.params).In h)
    (F : ∀ (w : World) (mg : Str → Option Value) (fa : Addr) (h : Heap), (K w.params).In h → h.Ns mainGlobals mg → mg d.name = some (.ref fa) →
      ∃ fd : FuncData, (∀ (s : Shared) (u : Value), BindsTo s fd ⟨[u], []⟩ [(x, u)]) ∧ ∀ base : Heap, (K w.params).In base → base.Ns mainGlobals mg → FnG l.prog w (K w.params) mg base k fa fd [x] (sp w))
    (hsp : ∀ (w : World) (H : Hp) (a : Addr) (ns : List Int), ns.length ≤ n → SqL (K w.params) H a (ns.map V.int) → sp w [.ref a] H (fun v _ => v = .bl true) fun _ _ _ => False) :
    PySem.W.WalkO q loose XP YP l.row.toRowW d [] (fun f vs => PySem.call f vs) :=
  Att.attach_call hn hdf fun w s₀ s₁ mg mb fa o pm cd doc a vs ns G Y ho hd hcd hmg hobj hints hlen hg =>
    match F w mg fa _ (hY w _ Y) G.T.g hmg with
    | ⟨_, hb, hF⟩ => law_callG (hY w _ Y) G.T.g G.T.b G.T.builtins G.T.nolimit hg hobj hints (Nat.le_trans hlen hn2) hr hF hb fun H hS => hsp w H a ns hlen hS
end Eh

set_option Elab.async false
set_option linter.all false
set_option maxRecDepth 100000
set_option maxHeartbeats 4000000
/-! own errors whose __init__ says super().__init__(text) and keeps a field -/
namespace Eh
open PySem PySem.Spec PyProof.Rows L2
/-- what makes an instance: the __new__ of a builtin class at or above the one below -/
def BaseN (newId : String) (bmB : List Value) : Prop := ∃ (Bn : String) (i : String) (bn : List Value), ExcBaseFacts Bn newId i bn ∧ bmB.contains (.type Bn) = true ∧ bmB.contains (.type "AttributeError") = false ∧ bmB.contains (.type "NameError") = false
/-- its __init__ -/
structure BaseI (B initId : String) : Prop where
  slot : Slot B "__init__" initId
  entry : entryFor table initId = some Builtin.«BaseException.__init__»
  kind : builtinKind initId = some .slot
  row : Manifest.signature? initId = some ⟨.positional, "*", B, .self, [⟨"args", .varPos, false⟩]⟩
  star : (B != "*") = true
/-- the builtin class below an own error, with what is known of its rules -/
structure BaseF (B newId initId : String) (bmB : List Value) : Prop where
  N : BaseN newId bmB
  I : BaseI B initId
  KX : PySem.W.KxsFacts B initId
  SF : StoreFacts B bmB "object.__setattr__" "object"
theorem base_of {B newId initId : String} {bmB : List Value} (F : ExcBaseFacts B newId initId bmB) (k : PySem.W.KxsFacts B initId) (s : StoreFacts B bmB "object.__setattr__" "object") : BaseF B newId initId bmB :=
  ⟨⟨B, initId, bmB, F, F.hasB, F.noAttr, F.noName⟩, ⟨F.init, F.initEntry, F.initKind, F.initRow, F.noStar⟩, k, s⟩
abbrev veB : List Value := [.type "ValueError", .type "Exception", .type "BaseException", .type "object"]
abbrev reB : List Value := [.type "RuntimeError", .type "Exception", .type "BaseException", .type "object"]
theorem baseVE : BaseF "ValueError" "ValueError.__new__" "ValueError.__init__" veB := base_of PySem.F.excBase_ValueError PySem.W.kxs_ValueError PySem.F.store_ValueError
theorem baseRE : BaseF "RuntimeError" "RuntimeError.__new__" "RuntimeError.__init__" reB := base_of PySem.F.excBase_RuntimeError PySem.W.kxs_RuntimeError PySem.F.store_RuntimeError
/-- what the written part says of such a class -/
structure OexB (K : PySem.W.Frag) (C : Addr) (B newId initId : String) (bmB : List Value) : Prop where
  q : PySem.W.excInitIn K C bmB newId = true
  ov : PySem.W.excOver K C bmB = true
  hd : PySem.W.hasDictIn K C = true
  sa : PySem.W.findIn K (.ref C) "__setattr__" = some (some (.builtin "object.__setattr__"))
  exC : PySem.W.subIn K (.ref C) (.type "BaseException") = some true
  bC : PySem.W.subIn K (.ref C) (.type B) = some true
  tyC : PySem.W.typeIn K (.ref C) = some (.type "type")
  kC : PySem.W.keepIn K (.ref C) = true
  tp : PySem.W.nsIn K cStatics "thirdparty.any" = some none
  sup : PySem.W.ks_superIn K C C "__init__" = some (some (.builtin initId))
  sub : PySem.W.mroIn K C (.ref C) = some true
/-! ### the first field -/
section
open PySem.W
variable {prog : Program} {w : World} {A : Around} {E : Value → Shared → Prop} {h : Heap} {g : Array GenState} {d : PySem.Drawn} {t : Nat} {os : OsState} {B i newId : String} {bmB : List Value} {K : Frag} {C : Addr}
theorem store_first {name : Str} {tk : Tok} {v : Value} {x t0 : Addr} {R : Result → Shared → Prop} (SF : StoreFacts B bmB "object.__setattr__" "object") (X : K.In h) (hx : h.get? x = some (excObj C t0 none .none)) (ov : excOver K C bmB = true) (hdi : hasDictIn K C = true) (ht : takerIn K C name = some none)
    (hq : ∀ h' tk' dx, (∀ b o, b ≠ x → h.get? b = some o → h'.get? b = some o) → h.objs.size ≤ dx → dx ≠ x → h'.get? x = some (excObj C t0 (some dx) .none) → h'.Ns1 dx (fun y => if y = name then some v else none) → R (.ok (.ret .none)) ⟨h', g, d, tk', os⟩) :
    codeAny (model prog w) A (.call (.builtin "object.__setattr__") ⟨[.ref x, .str name tk, v], []⟩) R ⟨h, g, d, t, os⟩ := by
  refine osa_openX (od := none) SF X ⟨hx, rfl, rfl, trivial⟩ ov ht fun b => ?_
  obtain ⟨cd, hc, hcd⟩ := any_some hdi
  have lt : x < h.objs.size := Heap.lt_size hx
  refine wpAny_bind (wpAny_pure (wpAny_bind (instanceDict_exc hx (looks_clsIn X hc) hcd ?_)))
  have at1 : ∀ b o, b ≠ x → h.get? b = some o → ((h.push (dictOf [] 0)).update x fun o => { o with dict := some h.objs.size }).get? b = some o := fun b o hb e => (Heap.get?_update_ne _ _ _ _ hb).trans (Heap.get?_push_of_some _ e)
  have atx : ((h.push (dictOf [] 0)).update x fun o => { o with dict := some h.objs.size }).get? x = some (excObj C t0 (some h.objs.size) .none) := Heap.get?_update_self _ (Heap.get?_push_of_some _ hx) rfl
  have atd : ((h.push (dictOf [] 0)).update x fun o => { o with dict := some h.objs.size }).get? h.objs.size = some (dictOf [] 0) := (Heap.get?_update_ne _ _ _ _ (Nat.ne_of_gt lt)).trans (Heap.get?_push_at rfl rfl)
  generalize ((h.push (dictOf [] 0)).update x fun o => { o with dict := some h.objs.size }) = h1 at at1 atx atd
  refine HandSPX.store_in_new ⟨_, #[], _, atd, rfl, fun e he => absurd he (by simp), fun _ => rfl⟩ fun h' tk' hn hs => ?_
  exact hq h' tk' h.objs.size (fun b o hb e => (hs.2 b (Nat.ne_of_lt (Heap.lt_size e))).trans (at1 b o hb e)) (Nat.le_refl _) (Nat.ne_of_gt lt) ((hs.2 x (Nat.ne_of_lt lt)).trans atx) hn
theorem bound_init {M : Model} {nm q : Str} {N e : Addr} {oe : Obj} {bs bm : List Value} {hdct : Bool} {sn : List Str} {sub : List Value} {ab : Bool} {col : Option Bool} {dd : Option Addr} {k0 k1 k2 k3 k5 : Option Value} {rest : List Value} {Q : Unit → Shared → Prop} (F : BaseI B i)
    (hC : h.get? C = some (excClassObj nm q C N bs bm hdct sn sub ab col dd k0 k1 k2 k3 k5 newId)) (he : h.get? e = some oe) (hcls : oe.cls = .ref C) (fin : Q () ⟨h, g, d, t, os⟩) : wpAny M A (checkBoundCall i ⟨.ref e :: rest, []⟩) Q E ⟨h, g, d, t, os⟩ := by
  have star := F.star
  simp only [checkBoundCall, F.kind, F.row]
  repeat (first
    | (with_reducible refine wpAny_loadPart_at he ?_; rw [hcls])
    | with_reducible refine wpAny_loadPart_at hC ?_
    | wp_step)
  have ok : ∀ (a b : String) (n : Nat), Bind.check ⟨.positional, "*", B, .self, [⟨"args", .varPos, false⟩]⟩ a b n (List.map (fun x => x.fst) ({ pos := Value.ref e :: rest } : Args).kw) = pure () := fun a b n => check_star_args _ _ _ _ _ _
  exact wpAny_onRaise (by rw [ok]; exact wpAny_pure fin)
/-- the wrapper called: the error's args are laid anew -/
theorem wrap_call {u x t0 : Addr} {rest : List Value} {Q : Value → Shared → Prop} (FB : BaseI B i) (X : K.In h) (q : excInitIn K C bmB newId = true) (hu : h.get? u = some (kxs_mw i x)) (hx : h.get? x = some (excObj C t0 none .none)) (hz : rest.length ≤ sizeLine)
    (hq : ∀ h', (∀ b o, b ≠ x → h.get? b = some o → h'.get? b = some o) → h'.get? x = some (excObj C h.objs.size none .none) → Q .none ⟨h', g, d, t, os⟩) :
    wpAny (model prog w) A (call (.ref u) rest) Q E ⟨h, g, d, t, os⟩ := by
  obtain ⟨nm, N', qn, bs, bm, hdct, sn, sub, ab, col, dd, k0, k1, k2, k3, k5, hC, hT⟩ := excInit_of X q
  refine wpAny_call (codeAny_of_tree ?_)
  show wpAny _ A.in1 (callAny (.ref u) ⟨rest, []⟩) _ _ _
  have mw : ((Value.type "method-wrapper" == Value.type "method" || Value.type "method-wrapper" == Value.type "builtin_function_or_method") || Value.type "method-wrapper" == Value.type "method-wrapper") = true := by decide
  simp only [callAny]
  refine wpAny_bind (wpAny_load hu ?_)
  simp only [kxs_mw, mw, if_true]
  refine KFB.if_so (by decide) ?_
  refine wpAny_bind (bound_init FB hC hx rfl (wpAny_bind (wpAny_pure (wpAny_pure ?_)))) <;> try skip
  all_goals first
    | exact ⟨plainId_quiet FB.slot.plain _, codeAny_builtin FB.entry (exc_init_tree (cls := .ref C) (t0 := t0) (dv := none) (c2 := .none) (c3 := .none) (b4 := .bool false) hx hz fun h' k e _ => hq h' k e)⟩
    | skip
end
/-! ### an instance made: the __new__ of a builtin class, then the own __init__ -/
section
variable {M : Model} {prog : Program} {w : World} {A : Around} {E : Value → Shared → Prop} {R : Result → Shared → Prop} {h : Heap} {g : Array GenState} {d : PySem.Drawn} {t : Nat} {os : OsState} {nm q : Str} {C N : Addr} {bs bm bmB rest : List Value} {hdct : Bool} {sn : List Str} {sub : List Value} {ab : Bool} {col : Option Bool} {dd : Option Addr} {k0 k1 k2 k3 k5 : Option Value} {newId : String}
theorem above {X : String} {b : Bool} (hT : ∀ X : String, bm.contains (.type X) = bmB.contains (.type X)) (e : bmB.contains (.type X) = b) : (Value.ref C :: bm).contains (.type X) = b := by
  rw [List.contains_cons, hT, e]
  exact Bool.false_or b
theorem eh_checkNew (F : BaseN newId bmB) (hT : ∀ X : String, bm.contains (.type X) = bmB.contains (.type X)) {Q : Unit → Shared → Prop} (hC : h.get? C = some (excClassObj nm q C N bs bm hdct sn sub ab col dd k0 k1 k2 k3 k5 newId)) (fin : Q () ⟨h, g, d, t, os⟩) :
    wpAny M A (checkBuiltinCall newId ⟨.ref C :: rest, []⟩) Q E ⟨h, g, d, t, os⟩ := by
  obtain ⟨Bn, i, bn, F, hB, -, -⟩ := F
  have has := above (C := C) hT hB
  have star := F.noStar
  simp only [checkBuiltinCall, F.newKind, F.newSplit, F.newRow]
  repeat (first
    | refine wpAny_loadPart_at hC ?_
    | (refine wpAny_isSubtype_exc hC ?_; rw [has])
    | refine wpAny_staticBase_exc hC ?_
    | refine wpAny_madeBy_exc hC ?_
    | simp only [bne_self_eq_false, Bool.false_eq_true, if_false]
    | wp_step)
  exact fin
theorem eh_new (F : BaseN newId bmB) (hT : ∀ X : String, bm.contains (.type X) = bmB.contains (.type X)) (hC : h.get? C = some (excClassObj nm q C N bs bm hdct sn sub ab col dd k0 k1 k2 k3 k5 newId)) (few : rest.length ≤ sizeLine)
    (fin : R (.ok (.ret (.ref (h.objs.size + 1)))) ⟨(h.push (PySem.W.kdv_tup rest)).push (PySem.HandSPX.excO C h.objs.size), g, d, t, os⟩) : codeAny (model prog w) A (.builtin newId ⟨.ref C :: rest, []⟩) R ⟨h, g, d, t, os⟩ := by
  obtain ⟨Bn, i, bn, F, hB, nA, nN⟩ := F
  have ends := F.ends
  have c1 := above (C := C) hT hB
  have c2 := above (C := C) hT nA
  have c3 := above (C := C) hT nN
  have hrest := few
  refine codeAny_builtinAt F.entry ?_
  unfold Builtin.«BaseException.__new__»
  refine PySem.wpAt_bind ?_
  show PySem.wpAt _ _ _ (stack >>= _) _ _ _
  refine PySem.wpAt_bind (PySem.wpAt_stack fun p below => PySem.wpAt_of_wpAny ?_)
  wp_walk
  refine PySem.wpAt_of_wpAny ?_
  rw [F.owner]
  repeat (first
    | with_reducible refine wpAny_madeHere_exc F.canon hC ?_
    | with_reducible refine wpAny_loadPart_at hC ?_
    | (with_reducible refine wpAny_isSubtype_exc hC ?_; first | rw [c1] | rw [c2] | rw [c3])
    | wp_step)
  show R _ _
  rw [Heap.size_push]
  exact fin
theorem eh_typeCall (F : BaseN newId bmB) (hT : ∀ X : String, bm.contains (.type X) = bmB.contains (.type X)) {fI : Addr} {Q : Fin → Shared → Prop} (hC : h.get? C = some (excClassObj nm q C N bs bm hdct sn sub ab col dd k0 k1 k2 k3 k5 newId))
    (hi : PySem.W.Looks (model prog w) h (typeLookup (.ref C) "__init__") (some (.ref fI))) (hb : ∀ self, PySem.W.Looks (model prog w) h (bindSpecial (.ref fI) self) (.ref fI, [self])) (few : rest.length ≤ sizeLine)
    (fin : codeAny (model prog w) A (.call (.ref fI) ⟨.ref (h.objs.size + 1) :: rest, []⟩) (fun r s' => match r with | .ok (.ret v) => v = .none ∧ Q (.done (.ret (.ref (h.objs.size + 1)))) s' | .ok _ => False | .error e => E e s') ⟨(h.push (PySem.W.kdv_tup rest)).push (PySem.HandSPX.excO C h.objs.size), g, d, t, os⟩) :
    wpAny (model prog w) A (Builtin.«type.__call__» ⟨.ref C :: rest, []⟩) Q E ⟨h, g, d, t, os⟩ := by
  have quiet : newId.startsWith "lifetime." = false := by
    obtain ⟨_, _, _, F, _⟩ := F
    exact F.quiet
  repeat (first
    | with_reducible refine wpAny_loadPart_at hC ?_
    | with_reducible refine wpAny_madeBy_exc hC ?_
    | wp_step)
  refine codeAny_call_builtin_code (Code.quiet_builtin _ quiet) (eh_checkNew F hT hC (eh_new F hT hC few ?_))
  show wpAny _ _ _ _ _ _
  have old : ∀ b o, h.get? b = some o → ((h.push (PySem.W.kdv_tup rest)).push (PySem.HandSPX.excO C h.objs.size)).get? b = some o := fun b o e => Heap.get?_push_of_some _ (Heap.get?_push_of_some _ e)
  have now : ((h.push (PySem.W.kdv_tup rest)).push (PySem.HandSPX.excO C h.objs.size)).get? (h.objs.size + 1) = some (PySem.HandSPX.excO C h.objs.size) := by heap_get
  have C1 := old _ _ hC
  have self_ : (Value.ref C :: bm).contains (.ref C) = true := by simp
  have i1 := hi.keeps old
  have b1 := (hb (.ref (h.objs.size + 1))).keeps old
  unfold isInstance
  repeat (first
    | with_reducible refine wpAny_loadPart_at now ?_
    | (with_reducible refine wpAny_isSubtype_exc C1 ?_; rw [self_])
    | wp_step)
  show wpAny _ _ (typeLookup (.ref C) _) _ _ _
  refine i1.at (wpAny_holding (wpAny_bind (b1.at (wpAny_bind (wpAny_call (codeAny_mono fin fun r s' z => ?_))))))
  rcases r with e | (v | _ | _ | _) <;> first | exact z | exact z.elim | skip
  obtain ⟨rfl, z⟩ := z
  first
    | exact wpAny_pure (wpAny_pure z)
    | (wp_walk; exact z)
theorem eh_call (F : BaseN newId bmB) (hT : ∀ X : String, bm.contains (.type X) = bmB.contains (.type X)) {fI : Addr} (hC : h.get? C = some (excClassObj nm q C N bs bm hdct sn sub ab col dd k0 k1 k2 k3 k5 newId))
    (hi : PySem.W.Looks (model prog w) h (typeLookup (.ref C) "__init__") (some (.ref fI))) (hb : ∀ self, PySem.W.Looks (model prog w) h (bindSpecial (.ref fI) self) (.ref fI, [self])) (few : rest.length ≤ sizeLine)
    (fin : codeAny (model prog w) (A.under (.builtin "type.__call__" ⟨.ref C :: rest, []⟩)) (.call (.ref fI) ⟨.ref (h.objs.size + 1) :: rest, []⟩) (PySem.W.InitBack (h.objs.size + 1) R) ⟨(h.push (PySem.W.kdv_tup rest)).push (PySem.HandSPX.excO C h.objs.size), g, d, t, os⟩) :
    codeAny (model prog w) A (.call (.ref C) ⟨rest, []⟩) R ⟨h, g, d, t, os⟩ := by
  have f1 := tc_lookup
  have f2 := tc_bind (.ref C)
  have ty : (⟨h, g, d, t, os⟩ : Shared).TypeIs (.ref C) "type" := ⟨_, hC, rfl⟩
  refine codeAny_of_tree ?_
  show wpAny _ _ (callAny (.ref C) _) _ _ _
  repeat (any_goals (first
    | assumption
    | with_reducible refine wpAny_loadPart_at hC ?_
    | wp_step))
  refine ⟨rfl, codeAny_call_builtin_at (Code.quiet_builtin _ (by decide +kernel)) entry_typeCall (wpAny_check_type_call_sub hC (eh_typeCall F hT hC hi hb few (codeAny_mono fin fun r s' z => ?_)))⟩
  rcases r with e | (v | _ | _ | _) <;> exact z
end
end Eh

set_option Elab.async false
set_option linter.all false
set_option maxRecDepth 100000
set_option maxHeartbeats 4000000
namespace Eh
open PySem PySem.Spec PyProof.Rows L2
open NdefX (NF NScope CellsAt startF envF ncx inv_startN)
/-! ### self.f = e, the first field of an error that is being made -/
section
variable {X : Cx} {pins : List (Addr × Obj)} {σ : L2.St} {H : Hp} {s : Shared} {a C : Addr} {f : Str} {y : V} {u : Value} {Q : Unit → Shared → Prop} {E : Value → Shared → Prop} {A : Around} {B newId initId : String} {bmB : List Value}
theorem keep_field (BF : BaseF B newId initId bmB) (T : OexB X.K C B newId initId bmB) (I : Inv X pins σ H s) (e : H a = some (exo a C none)) (hno : PySem.W.takerIn X.K C f = some none) (ry : RelV y u)
    (c : ∀ dx s', H dx = none → dx ≠ a → Inv X pins σ (upd (upd H dx (exd dx [(f, y)])) a (exo a C (some dx))) s' → Q () s') : wpAny (model X.prog X.w) A (setAttr (.ref a) f u) Q E s := by
  obtain ⟨t1, ho⟩ := exo_at I.hok e
  obtain ⟨hp, g, d, t, os⟩ := s
  refine PySem.W.set_plain I.kIn (ox := PySem.W.excObj C t1 none .none) (od := none) ⟨ho, rfl, rfl, trivial⟩ T.sa ?_
  refine store_first BF.SF I.kIn ho T.ov T.hd hno fun h' tk' dx k dn dne hx hn => ?_
  have hnd : H dx = none := I.hok.fresh dn
  have old : ((h'.update a fun _ => PySem.W.excObj C t1 none .none)).get? a = some (PySem.W.excObj C t1 none .none) := Heap.get?_update_self _ hx rfl
  have oth : ∀ b, b ≠ a → ((h'.update a fun _ => PySem.W.excObj C t1 none .none)).get? b = h'.get? b := fun b hb => Heap.get?_update_ne _ _ _ _ hb
  generalize (h'.update a fun _ => PySem.W.excObj C t1 none .none) = hm at old oth
  have hnm : hm.Ns1 dx (fun z => if z = f then some u else none) := hn.at fun o q => (oth dx dne).trans q
  have I1 : Inv X pins σ (upd H dx (exd dx [(f, y)])) ⟨hm, g, d, tk', os⟩ := I.laid (t' := tk') (fun b o q => by
      by_cases hb : b = a
      · subst hb
        have q2 : hp.get? b = some o := q
        rw [ho] at q2
        rw [old, ← Option.some.inj q2]
      · exact (oth b hb).trans (k b o hb q)) dn (exd_ok hnm (relO_put (fs := []) ry fun _ => True.intro))
  have e1 : (upd H dx (exd dx [(f, y)])) a = some (exo a C none) := (upd_ne (Ne.symm dne)).trans e
  have I2 := I1.write (t' := tk') (h' := h') (x := a) (e := a) (o := exo a C (some dx)) (by rw [e1]; exact True.intro) (.inl rfl) (fun b o hb q => (oth b hb).symm.trans q) ⟨_, hx⟩ (exo_ok hx)
  exact c dx _ hnd dne I2
end
section
variable {X : Cx} {o e : Expr} {es : List Expr} {to te : TE} {ta : TA} {f : Str} {p p' p1 p2 pos : Pos} {C : Addr} {B newId initId : String} {bmB : List Value}
def tKeep (C : Addr) (f : Str) (to te : TE) : TS := fun D σ H => te σ H fun y H1 => to σ H1 fun x H2 => ∃ a : Addr, x = .ref a ∧ H2 a = some (exo a C none) ∧ ∀ dx, H2 dx = none → dx ≠ a → D.nx σ (upd (upd H2 dx (exd dx [(f, y)])) a (exo a C (some dx)))
theorem ps_keep (BF : BaseF B newId initId bmB) (T : OexB X.K C B newId initId bmB) (hno : PySem.W.takerIn X.K C f = some none) (ho : PE X o to) (he : PE X e te) (hs : swapsWith e (some (.Attribute o f p')) pos.line X.env = pure false := by rfl) : PS X (.Assign [.Attribute o f p'] e pos) (tKeep C f to te) := by
  refine ⟨fun pins s σ H D I h => ?_⟩
  refine plainObj_wpAny_Assign_Attribute (thn (he.run pins s σ H _ I h) fun v s1 ⟨y, H1, I1, r1, q1⟩ => thn (ho.run pins s1 σ H1 _ I1 q1) fun u s2 ⟨x, H2, I2, r2, a, ex, ea, q⟩ => ?_) hs
  subst ex
  obtain rfl : u = Value.ref a := r2
  exact keep_field BF T I2 ea hno r1 fun dx s' n ne J => ⟨σ, _, J, q dx n ne⟩
/-- C(e, ..) of an own error: its own __init__ keeps sp -/
theorem pmk_keep {CX : CXT} {x : Str} {fI : Addr} {k : Nat} {fd : FuncData} {ps : List Str} {sp : Sp} (BF : BaseF B newId initId bmB) (T : OexB X.K C B newId initId bmB) (iC : PySem.W.findIn X.K (.ref C) "__init__" = some (some (.ref fI))) (tI : PySem.W.typeIn X.K (.ref fI) = some (.type "function"))
    (F1 : FnOk X.prog X.w X.K X.mg X.base CX k fI fd ps sp) (hr : Room (k + 1) X.A) (hb : Binds X.K fd ps []) (hx : Passes CX X (fun _ _ _ => False)) (hg : Gl X x) (hm : X.mg x = some (.ref C)) (ha : PA X (e :: es) ta)
    (hdb : (x == ("__debug__" : Str)) = false := by decide) (he : starEach (e :: es) X.env = (false, eval e X.env) :: starEach es X.env := by rfl) (hpl : (backTo pos (starEach es X.env)).any (·.1) = false := by rfl) :
    PMk X (.Call (.Name x p) (e :: es) [] pos) (tMkO C sp [] ta) := by
  intro pins s σ H Q I h
  refine wpAny_Call_Name_kw (ld_glob I hg hm ?_ hdb)
  refine PySem.W.callWith_K (h₀ := X.base) I.ok.mod.kin T.kC (thn (ha.run pos pins s σ H _ I h) fun us s1 ⟨vs, H1, I1, r1, hz, q1⟩ => ⟨I1.kIn, ?_⟩) he hpl
  show wpAny _ _ (call (.ref C) us) _ _ _
  obtain ⟨nm, N', qn, bs, bm, hdct, sn, sub, ab, col, dd, k0, k1, k2, k3, k5, hC, hT⟩ := PySem.W.excInit_of I1.kIn T.q
  obtain ⟨hp, g, dr, tk, os⟩ := s1
  have up : hp.objs.size ≤ hp.objs.size + 1 := Nat.le_succ _
  have fresh : H1 (hp.objs.size + 1) = none := I1.hok.fresh up
  have hq := q1 (hp.objs.size + 1) fresh
  have two : ∀ b o, hp.get? b = some o → ((hp.push (PySem.W.kdv_tup us)).push (PySem.HandSPX.excO C hp.objs.size)).get? b = some o := fun b o z => Heap.get?_push_of_some _ (Heap.get?_push_of_some _ z)
  have mine : ((hp.push (PySem.W.kdv_tup us)).push (PySem.HandSPX.excO C hp.objs.size)).get? (hp.objs.size + 1) = some (PySem.HandSPX.excO C hp.objs.size) := by heap_get
  have I2 : Inv X pins σ (upd H1 (hp.objs.size + 1) (exo (hp.objs.size + 1) C none)) ⟨(hp.push (PySem.W.kdv_tup us)).push (PySem.HandSPX.excO C hp.objs.size), g, dr, tk, os⟩ := I1.laid (t' := tk) (a := hp.objs.size + 1) (o := exo (hp.objs.size + 1) C none) two up (exo_ok mine)
  have r2 : Vals (V.ref (hp.objs.size + 1) :: (vs ++ [])) (Value.ref (hp.objs.size + 1) :: (us ++ [])) := .cons rfl (r1.append .nil)
  have len : (Value.ref (hp.objs.size + 1) :: us ++ []).length = ps.length := (r2.length.symm.trans (F1.len _ _ _ _ hq))
  have bt : BindsTo ⟨(hp.push (PySem.W.kdv_tup us)).push (PySem.HandSPX.excO C hp.objs.size), g, dr, tk, os⟩ fd ⟨Value.ref (hp.objs.size + 1) :: us, []⟩ (ps.zip (Value.ref (hp.objs.size + 1) :: (us ++ []))) := by
    have z := hb ⟨(hp.push (PySem.W.kdv_tup us)).push (PySem.HandSPX.excO C hp.objs.size), g, dr, tk, os⟩ (Value.ref (hp.objs.size + 1) :: us) I2.kIn len
    rw [List.cons_append] at z
    exact z
  have few : us.length ≤ sizeLine := by
    rw [← Paired.length r1, sizeLine_eq]
    omega
  refine wpAny_call (eh_call BF.N hT hC (PySem.W.looks_findIn I1.kIn iC) (fun self => PySem.W.bind_fn I1.kIn self tI) few
    (codeAny_mono (F1.run _ X.stack _ _ ⟨Value.ref (hp.objs.size + 1) :: us, []⟩ (Value.ref (hp.objs.size + 1) :: (us ++ [])) _ _ (fun _ _ _ => False) (hr.make C us []) (I2.env0.make C us []) bt r2 hq) fun r s' hq' => ?_))
  match r, hq' with
  | .error er, hq' => exact hx pins σ _ _ er s' I2 hq'
  | .ok .next, hq' => exact False.elim hq'
  | .ok .brk, hq' => exact False.elim hq'
  | .ok .cont, hq' => exact False.elim hq'
  | .ok (.ret u), hq' =>
    obtain ⟨v, H2, os2, bare2, un2, hok2, rv, ev, d, fs, ea, ed, hd1, q2⟩ := hq'
    subst ev
    obtain ⟨h2, g2, d2, t2, os'⟩ := s'
    exact ⟨rv, mk_end (raises_own T.exC T.tyC) I1 up two un2 hok2 os2 bare2 ea ed hd1 q2⟩
end
end Eh

set_option Elab.async false
set_option linter.all false
set_option maxRecDepth 100000
set_option maxHeartbeats 4000000
namespace Eh
open PySem PySem.Spec PyProof.Rows L2
open NdefX (NF NScope CellsAt startF envF ncx inv_startN nscope_by)
/-- what the written part says of an own error's __init__, a def of the class at C -/
structure InitE (P : Program) (K : PySem.W.Frag) (C f : Addr) (F : NF) (fd : FuncData) : Prop where
  ex : ∃ (cc cda : Addr) (oc kV doc pm ct ccl cl : Value) (od an cdd cld : Option Addr) (osl ccs csl : Array (Option Value)) (vs : Array Value) (file : Str) (tf : Tok) (cd : ClassData),
    F.c = cda ∧ F.cl = [(("__class__" : Str), cc)] ∧ fd = PySem.W.fnX F.name F.qual F.params F.body F.scope [(("__class__" : Str), cc)] .none kV doc pm an (.ref cda) ct ∧ K.lookup f = some ⟨oc, od, .func fd, osl⟩ ∧ PySem.W.codeIn K (.ref cda) F.qual = true ∧
    K.lookup cda = some ⟨ccl, cdd, .fields vs, ccs⟩ ∧ vs[2]? = some (.str file tf) ∧ ((P.main.file : Str) == file) = true ∧ K.lookup cc = some ⟨cl, cld, .cell (some (.ref C)), csl⟩ ∧ PySem.W.clsIn K C = some cd ∧
    (P.main.scope.names.lookup ("super" : Str)).isSome = false
/-- super().__init__(text) in such a def -/
theorem super_init {X : Cx} {pins : List (Addr × Obj)} {σ : L2.St} {H : Hp} {s : Shared} {a C f cc cda : Addr} {B newId initId : String} {bmB : List Value} {body : List Stmt} {fd : FuncData} {ar : Arg} {msg file : Str} {tf : Tok} {j : Nat} {p0 p1 p2 p3 p4 : Pos} {oc ccl cl : Value} {od cdd cld : Option Addr} {osl ccs csl : Array (Option Value)} {vs : Array Value} {cdC : ClassData} {m : Str → Option Value} {Q : Value → Shared → Prop} {pl : Env → Sem Bool}
    (BF : BaseF B newId initId bmB) (T : OexB X.K C B newId initId bmB) (hmg : X.mg "super" = none) (I : Inv X pins σ H s) (ea : H a = some (exo a C none)) (hks : X.env.kindOf "super" = some .globalImplicit) (hkc : X.env.kindOf "__class__" = some .free) (hka : X.env.kindOf ar.arg = some .local)
    (hfu : X.env.func = some f) (lk : X.K.lookup f = some ⟨oc, od, .func fd, osl⟩) (hp : (fd.params.posonlyargs ++ fd.params.args).head? = some ar) (hco : X.env.code = .ref cda) (lcda : X.K.lookup cda = some ⟨ccl, cdd, .fields vs, ccs⟩) (hvs : vs[2]? = some (.str file tf)) (hfile : ((X.prog.main.file : Str) == file) = true)
    (htop : (X.prog.main.scope.names.lookup ("super" : Str)).isSome = false) (hcell : X.env.cells.lookup ("__class__" : Str) = some cc) (lcc : X.K.lookup cc = some ⟨cl, cld, .cell (some (.ref C)), csl⟩) (hcls : PySem.W.clsIn X.K C = some cdC) (hns : s.heap.Ns X.env.locals m) (hv : m ar.arg = some (.ref a)) (hlen : msg.length ≤ 1000)
    (hc : ∀ env : Env, eval (.Call (.Attribute (.Call (.Name "super" p0) [] [] p1) "__init__" p2) [.Constant (.str msg) j p3] [] p4) env = (do
      let ov ← attributeBase (.Call (.Name "super" p0) [] [] p1) "__init__" env (eval (.Call (.Name "super" p0) [] [] p1) env)
      standAt p2.atName
      let (f, first) ← holding [ov] (getMethod ov "__init__" (pl env))
      callWith p4 f first (backTo p4 (starEach [.Constant (.str msg) j p3] env)) []))
    (q : ∀ s', Inv X pins σ H s' → Q .none s') : _root_.PySem.wpAt (model X.prog X.w) X.A (.func body X.env) (eval (.Call (.Attribute (.Call (.Name "super" p0) [] [] p1) "__init__" p2) [.Constant (.str msg) j p3] [] p4) X.env) Q X.xe s := by
  obtain ⟨oD, hD1, hD2⟩ : ∃ oD, s.heap.get? C = some oD ∧ oD.data = .cls cdC := by
    unfold PySem.W.clsIn at hcls
    split at hcls
    · rename_i ho
      cases hcls
      exact ⟨_, I.kIn _ _ ho, rfl⟩
    · cases hcls
  obtain ⟨t1, hx⟩ := exo_at I.hok ea
  obtain ⟨mb, hb1, hb2⟩ := I.mod.blt
  have nCa : a ≠ C := fun z => by
    rw [z, hD1] at hx
    have z2 := Option.some.inj hx
    rw [z2] at hD2
    cases hD2
  refine ks_wpAt_MethodCall (pl := pl X.env) ?_ (hc _)
  refine ks_wpAt_super_base hks hkc (by decide) hfu (I.kIn _ _ lk) rfl hp hco (I.kIn _ _ lcda) rfl hvs hfile htop ?_
  refine PySem.W.ks_loadName_global I.ok.kind hks (Calls.loadGlobal_builtin (by rw [I.ok.glob]; exact I.mod.glob.keeps I.bk) hmg (by rw [I.ok.blt]; exact hb1.keeps I.bk) ((hb2 "super" (by decide)).trans (by decide +kernel)) ⟨rfl, ?_⟩)
  refine wpAny_loadName_free I.ok.kind hkc hcell ⟨_, I.kIn _ _ lcc, rfl⟩ ?_
  refine wpAny_loadName_local I.ok.kind hka hns hv ?_
  obtain ⟨h0, g, d, t, os⟩ := s
  refine ks_wpAny_isType_cls hD1 hD2 ⟨rfl, ?_⟩
  refine ks_wpAny_call_super hD1 hD2 hx rfl (fun c z => by cases z) (PySem.W.looks_mroIn I.kIn T.sub) fun h1 hso k1 => ?_
  have I1 : Inv X pins σ H ⟨h1, g, d, t, os⟩ := I.kept (t' := t) k1
  obtain ⟨cd2, hc2, bm2, hm2, hal⟩ : ∃ cd, PySem.W.clsIn X.K C = some cd ∧ ∃ l, cd.mro = l ∧ PySem.W.alongIn X.K "__init__" ((l.dropWhile (· != .ref C)).drop 1) = some (some (.builtin initId)) := by
    have z := T.sup
    unfold PySem.W.ks_superIn at z
    obtain ⟨cd, e1, e2⟩ := Option.bind_eq_some_iff.mp z
    exact ⟨cd, e1, _, rfl, e2⟩
  have LI : PySem.W.Looks (model X.prog X.w) h1 (isInstance (.ref a) (.type B)) true := by
    have IA : PySem.W.InstAt h1 a (PySem.W.excObj C t1 none .none) C none := ⟨k1 _ _ hx, rfl, rfl, trivial⟩
    exact IA.type.andThen (PySem.W.looks_subIn I1.kIn T.bC)
  have LM : PySem.W.Looks (model X.prog X.w) h1 (mroOf (.ref C)) cd2.mro := (PySem.W.looks_clsIn I1.kIn hc2).andThen .now
  refine PySem.W.kxs_getMethod BF.KX hso (PySem.W.looks_opaque I1.kIn T.tp) LM rfl I1.kIn (by rw [hm2]; exact hal) LI nCa (by decide) ?_
  have ku : ∀ b o, h1.get? b = some o → (h1.push (PySem.W.kxs_mw initId a)).get? b = some o := fun b o e => Heap.get?_push_of_some _ e
  have I2 : Inv X pins σ H ⟨h1.push (PySem.W.kxs_mw initId a), g, d, t + 1, os⟩ := I1.kept (t' := t + 1) ku
  have hu : (h1.push (PySem.W.kxs_mw initId a)).get? h1.objs.size = some (PySem.W.kxs_mw initId a) := Heap.get?_push_at rfl rfl
  have fu : H h1.objs.size = none := I1.hok.fresh (Nat.le_refl _)
  have I3 : Inv X (pins ++ [(h1.objs.size, PySem.W.kxs_mw initId a)]) σ H ⟨h1.push (PySem.W.kxs_mw initId a), g, d, t + 1, os⟩ := I2.pins_of fun p hp => by
    rcases List.mem_append.mp hp with z | z
    · exact I2.pin p (List.mem_append_right _ z)
    · rw [List.mem_singleton.mp z]
      exact ⟨hu, fu, fun z => absurd I1.lt (by rw [← z]; exact Nat.lt_irrefl _), I1.nofs (Nat.le_refl _), fun v z => by cases z⟩
  have pa : PA X [.Constant (.str msg) j p3] (tCons (tC (.str msg)) tNil) := pa_cons pe_str pa_nil
  have he : starEach [.Constant (.str msg) j p3] X.env = (false, eval (.Constant (.str msg) j p3) X.env) :: starEach [] X.env := by rfl
  suffices hsp : wpAny (model X.prog X.w) X.A (spliced (backTo p4 (starEach [.Constant (.str msg) j p3] X.env))) (fun vs s₁ => PySem.W.KxsAt initId h1.objs.size a s₁.heap ∧ wpAny (model X.prog X.w) X.A (call (.ref h1.objs.size) vs) Q X.xe s₁) X.xe ⟨h1.push (PySem.W.kxs_mw initId a), g, d, t + 1, os⟩ by
    rw [he] at hsp ⊢
    exact PySem.W.kxs_callWith (i := initId) (x := a) (by rfl) (Calls.evalArgs_plain hsp)
  refine thn (pa.run p4 _ _ σ H (fun vs H1 => vs = [V.str msg] ∧ H1 = H) I3 ⟨rfl, rfl⟩) fun us s1 hh => ?_
  obtain ⟨ws, H1, I4, r1, ew, eH⟩ := hh
  rw [eH] at I4
  have pu := (I4.pin (h1.objs.size, PySem.W.kxs_mw initId a) (List.mem_append_right _ (List.mem_append_right _ (List.mem_singleton_self _)))).1
  have us1 : us.length = 1 := by rw [← Paired.length r1, ew]; rfl
  refine ⟨pu, ?_⟩
  show wpAny _ _ (call (.ref h1.objs.size) us) _ _ _
  obtain ⟨t2, hx2⟩ := exo_at I4.hok ea
  obtain ⟨h4, g4, d4, t4, os4⟩ := s1
  refine wrap_call BF.I I4.kIn T.q pu hx2 (by rw [us1, sizeLine_eq]; omega) fun h5 k5 e5 => ?_
  have J := I4.write (t' := t4) (x := a) (e := a) (o := exo a C none) (by rw [ea]; exact True.intro) (.inl rfl) k5 ⟨_, e5⟩ (exo_ok e5)
  have eu : upd H a (exo a C none) = H := by
    funext b
    by_cases hb : b = a
    · rw [hb, upd_same, ea]
    · rw [upd_ne hb]
  rw [eu] at J
  exact q _ (J.pins_of fun p hp => J.pin p (List.mem_append_right _ (List.mem_append_left _ hp)))
section
variable {CX : CXT} {P : Program} {w : World} {K : PySem.W.Frag} {mg : Str → Option Value} {base : Heap} {N ps : List Str} {F : NF} {f C : Addr} {k : Nat} {fd : FuncData} {sp : Sp} {B newId initId : String} {bmB : List Value} {self msg : Str} {ar : Arg} {j : Nat} {p0 p1 p2 p3 p4 p5 : Pos} {rest : List Stmt} {pl : Env → Sem Bool}
theorem fn_init (BF : BaseF B newId initId bmB) (T : OexB K C B newId initId bmB) (hm : mg "super" = none) (I0 : InitE P K C f F fd) (S : NScope N ps [("__class__" : Str)] F.scope)
    (hbody : F.body = .Expr (.Call (.Attribute (.Call (.Name "super" p0) [] [] p1) "__init__" p2) [.Constant (.str msg) j p3] [] p4) p5 :: rest)
    (hp : (F.params.posonlyargs ++ F.params.args).head? = some ar) (ha : ps.head? = some ar.arg) (hks : F.scope.names.lookup ("super" : Str) = some .globalImplicit) (hkc : F.scope.names.lookup ("__class__" : Str) = some .free) (hlen : msg.length ≤ 1000)
    (hc : ∀ env : Env, eval (.Call (.Attribute (.Call (.Name "super" p0) [] [] p1) "__init__" p2) [.Constant (.str msg) j p3] [] p4) env = (do
      let ov ← attributeBase (.Call (.Name "super" p0) [] [] p1) "__init__" env (eval (.Call (.Name "super" p0) [] [] p1) env)
      standAt p2.atName
      let (f, first) ← holding [ov] (getMethod ov "__init__" (pl env))
      callWith p4 f first (backTo p4 (starEach [.Constant (.str msg) j p3] env)) []))
    (len : ∀ vs H Q E, sp vs H Q E → vs.length = ps.length) (hat : ∀ vs H Q E, sp vs H Q E → ∃ a us, vs = .ref a :: us ∧ H a = some (exo a C none))
    (hrest : ∀ (A : Around) (outer : List Env) (s : Shared) (H : Hp) (vs : List V) (Q : VK) (E : XK), Room k (A.deeper (envF F f s.heap.objs.size)) → sp vs H Q E →
      ∃ t, PSs (ncx CX P w K mg base N F f A outer s H E) rest t ∧ t { nx := fun _ H' => Q .non H', rt := Q } (startF N vs [none]) H) :
    FnOk P w K mg base CX (k + 1) f fd ps sp := by
  obtain ⟨cc, cda, oc, kV, doc, pm, ct, ccl, cl, od, an, cdd, cld, osl, ccs, csl, vs0, file, tf, cdC, eFc, eFcl, rfl, lk, hcd, lcda, hvs, hfile, lcc, hcls, htop⟩ := I0.ex
  refine ⟨len, fun A outer s H args us vs Q E hr e0 hb r hsp => ?_⟩
  have hl := len _ _ _ _ hsp
  obtain ⟨a, us1, rfl, ea⟩ := hat _ _ _ _ hsp
  have KX : K.In s.heap := e0.mod.kin.keeps fun b o e => (e0.bs b o e).1
  have lim : s.heap.NoLimit := e0.mod.nolimit.keeps fun b o e => (e0.bs b o e).1
  have hloc : ∀ y ∈ ps.zip us, F.scope.names.lookup y.1 = some .local := fun ⟨n, v⟩ hy => S.par n (List.of_mem_zip hy).1
  have bcc : H cc = none := (e0.bs _ _ (e0.mod.kin _ _ lcc)).2
  have cells : CellsAt F.cl [("__class__" : Str)] [none] s.heap H := by
    rw [eFcl]
    refine ⟨rfl, fun y c e => ?_, fun x y c e1 e2 => ?_, fun i y hy => ?_⟩
    · simp only [List.lookup] at e
      split at e
      · cases e
        exact ⟨bcc, _, _, KX _ _ lcc, rfl⟩
      · cases e
    · simp only [List.lookup] at e1 e2
      split at e1
      · rename_i q1
        split at e2
        · rename_i q2
          rw [eq_of_beq q1, eq_of_beq q2]
        · cases e2
      · cases e1
    · match i, hy with
      | 0, hy =>
        cases hy
        exact ⟨cc, by simp [List.lookup], fun v e => by cases e⟩
      | i + 1, hy => cases hy
  have env_eq : callEnv (PySem.W.fnX F.name F.qual F.params F.body F.scope [(("__class__" : Str), cc)] .none kV doc pm an (.ref cda) ct) s.heap.objs.size f = envF F f s.heap.objs.size := by
    unfold envF
    rw [eFcl, eFc]
    rfl
  refine ks_codeAny_call_defAt (body := F.body) (binds := ps.zip us) hr.depth (KX _ _ lk) rfl lim (PySem.W.codeRec_of KX hcd) rfl hb S.nocell hloc (fun h₁ hns kp => ?_) S.co S.gen S.kind
  rw [env_eq]
  have I : Inv (ncx CX P w K mg base N F f A outer s H E) [] (startF N (.ref a :: us1) [none]) H { s with heap := h₁, toks := s.toks + (ps.zip us).length } := inv_startN S hr.hd e0 hl r cells hns kp
  obtain ⟨t, ht, hq⟩ := hrest A outer s H _ Q E (hr.deeper _) hsp
  have hend : ∀ (fl : Flow) (s' : Shared), SP (ncx CX P w K mg base N F f A outer s H E) [] { nx := fun _ H' => Q .non H', rt := Q } fl s' → CR CX outer P w H s Q E (.ok (.ret (match fl with | .ret v => v | _ => .none))) s' := fun fl s' hs => by
    have fin : ∀ {σ' : L2.St} {H' : Hp} {v : V} {u : Value}, Inv (ncx CX P w K mg base N F f A outer s H E) [] σ' H' s' → RelV v u → Q v H' → CE outer P w H s Q u s' :=
      fun {σ' H' v u} J rv q => ⟨v, H', J.os, J.bare, J.base, J.hok, rv, q⟩
    match fl, hs with
    | .ret u, ⟨v, σ', H', J, rv, q⟩ => exact fin J rv q
    | .next, ⟨σ', H', J, q⟩ => exact fin (v := V.non) (u := Value.none) J rfl q
    | .brk, ⟨_, _, _, q⟩ => exact False.elim q
    | .cont, ⟨_, _, _, q⟩ => exact False.elim q
  have hmem : ar.arg ∈ ps := by
    cases ps with
    | nil => cases ha
    | cons p ps => cases ha; exact List.mem_cons_self
  have h0 : ps[0]? = some ar.arg := by
    cases ps with
    | nil => cases ha
    | cons p ps => cases ha; rfl
  have ndP : ps.Nodup := by
    have z := S.nd.sublist (List.take_sublist (ps.length + 1) N)
    rw [show N.take (ps.length + 1) = ps ++ [("__class__" : Str)] from S.pre] at z
    exact (List.nodup_append.mp z).1
  obtain ⟨u0, hu0, ru0⟩ := r.get (show (V.ref a :: us1)[0]? = some (V.ref a) from rfl)
  obtain rfl : u0 = Value.ref a := ru0
  have hv : (ps.zip us).reverse.lookup ar.arg = some (Value.ref a) := NdefX.zip_look ndP h0 hu0
  have hcell : (ncx CX P w K mg base N F f A outer s H E).env.cells.lookup ("__class__" : Str) = some cc := by
    show F.cl.lookup ("__class__" : Str) = some cc
    rw [eFcl]
    simp [List.lookup]
  rw [hbody]
  refine ks_wpAt_execs_cons (ks_wpAt_Expr_any (super_init (X := ncx CX P w K mg base N F f A outer s H E) (a := a) BF T hm I ea hks hkc (S.par _ hmem) rfl lk hp (show Value.ref F.c = Value.ref cda by rw [eFc]) lcda hvs hfile htop hcell lcc hcls hns hv hlen hc fun s' J => ?_) ?_ ?_)
  · refine wpAt_of_wpAny (wpAny_mono (ht.run [] s' _ H _ J hq) (fun fl s2 hs => ?_) fun e s2 z => z)
    exact hend fl s2 hs
  · have hk : (envF F f s.heap.objs.size).scope.kind = .function := S.kind
    unfold interactive
    rw [hk]
    rfl
  · rfl
end
end Eh

set_option Elab.async false
set_option linter.all false
set_option maxRecDepth 100000
set_option maxHeartbeats 4000000
/-! a try with several except clauses, some of which name the error -/
namespace Eh
open PySem PySem.Spec PyProof.Rows L2
abbrev Cls3 := Value × Option Nat × (Addr → Value → Option Addr → TS)
/-- the ends behind a clause that names the error by slot i -/
def behind (i : Nat) (D : Ends) : Ends := { nx := fun σ H => D.nx (σ.set i none) H, rt := D.rt, bk := fun σ H => D.bk (σ.set i none) H, ct := fun σ H => D.ct (σ.set i none) H }
def wMix (K : PySem.W.Frag) (n : Nat) (Wout : WX) (D : Ends) : List Cls3 → WX
  | [] => Wout
  | (c, none, ts) :: r => fun cls d σ H => ∃ b, PySem.W.exmOne K cls c = some b ∧ (b = true → ∀ a, H a = none → ts a cls d D σ H) ∧ (b = false → wMix K n Wout D r cls d σ H)
  | (c, some i, ts) :: r => fun cls d σ H => ∃ b, PySem.W.exmOne K cls c = some b ∧ (b = true → σ.length = n → ∀ a, H a = none → ts a cls d (behind i D) (σ.set i (some (.ref a))) H) ∧ (b = false → wMix K n Wout D r cls d σ H)
/-- a suite, wherever the error stands -/
def SuiteOk (X : Cx) (suite : List Stmt) (ts : Addr → Value → Option Addr → TS) : Prop :=
  ∀ (a : Addr) (oe : Obj) (cls : Value) (d : Option Addr) (pn : List (Addr × Obj)), Zc cls d oe → (∃ vs, oe.data = .fields vs) → PSs (X.suite a ((a, oe) :: pn)) suite (ts a cls d)
inductive HdsM (X : Cx) : List ExceptHandler → List Cls3 → Prop
  | nil : HdsM X [] []
  | only {x : Str} {c : Value} {ts : Addr → Value → Option Addr → TS} {b₀ : Stmt} {suite : List Stmt} {np p : Pos} {hds : List ExceptHandler} {l : List Cls3} : Names X x c → SuiteOk X (b₀ :: suite) ts → HdsM X hds l →
      HdsM X (.ExceptHandler (some (.Name x np)) none (b₀ :: suite) p :: hds) ((c, none, ts) :: l)
  | named {x n : Str} {i : Nat} {c : Value} {ts : Addr → Value → Option Addr → TS} {b₀ : Stmt} {suite : List Stmt} {np p : Pos} {hds : List ExceptHandler} {l : List Cls3} : X.N[i]? = some n → X.env.kindOf n = some .local → Names X x c → SuiteOk X (b₀ :: suite) ts → HdsM X hds l →
      HdsM X (.ExceptHandler (some (.Name x np)) (some n) (b₀ :: suite) p :: hds) ((c, some i, ts) :: l)
section
variable {X : Cx} {body : List Stmt} {hd : ExceptHandler} {hds : List ExceptHandler} {l : List Cls3} {pos : Pos} {tb : WX → TS} {Wout : WX}
theorem ps_try_mix (hs : X.stack = X.env :: X.outer) (hf : X.env.frame = some X.env.locals) (hN : X.N.Nodup) (tk : Takes X Wout)
    (hb : ∀ (W : WX) (pn : List (Addr × Obj)) (xe : Value → Shared → Prop), Takes (X.tr pn xe) W → PassesOwn (model X.prog X.w) X.A X.env xe → PSs (X.tr pn xe) body (tb W))
    (hh : HdsM X (hd :: hds) l) : PS X (.Try body (hd :: hds) [] [] pos) (fun D σ H => tb (wMix X.K X.N.length Wout D l) D σ H) := by
  constructor
  intro pins s σ H D I h
  have ok := I.ok
  have fr : X.A.frames = some (X.env :: X.outer) := ok.frames.trans (by rw [hs])
  refine wpAny_Try_except (wpAny_mono ((hb (wMix X.K X.N.length Wout D l) (X.pn ++ pins) (fun e s₁ => wpAny (model X.prog X.w) X.A (noteFrame e X.env) (fun _ s₂ => wpAny (model X.prog X.w) X.A (setFlight e none) (fun _ s₃ =>
    wpAny (model X.prog X.w) X.A (handleBy e X.env (hd :: hds)) (SP X pins D) X.xe s₃) X.xe s₂) X.xe s₁) (fun u s' xx => ?caught) PassesOwn.looking).run [] s σ H D (I.toTry _) h) (fun f s1 hsp => ?through) (fun _ _ z => z))
  case through =>
    match f, hsp with
    | .next, ⟨σ', H', J, q⟩ => exact wpAny_execs_nil ⟨σ', H', J.ofTry ok, q⟩
    | .brk, ⟨σ', H', J, q⟩ => exact ⟨σ', H', J.ofTry ok, q⟩
    | .cont, ⟨σ', H', J, q⟩ => exact ⟨σ', H', J.ofTry ok, q⟩
    | .ret u, ⟨v, σ', H', J, r, q⟩ => exact ⟨v, σ', H', J.ofTry ok, r, q⟩
  case caught =>
    obtain ⟨a, B, sI, pins', σ', H', cls, d, rfl, J', nb, up, sky, na, os, ag, w⟩ := xx
    have J : Inv X pins σ' H' sI := J'.ofTry ok
    show wpAny (model X.prog X.w) X.A (noteFrame (.ref a) X.env) _ _ _
    refine Sky.land Zc.steady fr hf (show Sky B (X.env :: X.outer) a (Zc cls d) X.env.locals s'.heap by rw [← hs]; exact sky) fun h3 fl3 up3 => ?_
    have J3 : Inv X pins σ' H' { s' with heap := h3 } := J.landed nb fl3.1 (up.trans up3) os ag
    obtain ⟨oe3, vs3, he3, hz3, hd3⟩ := fl3.there
    have free : a ∉ frs (X.env :: X.outer) := fun hm => by
      obtain ⟨_, o', e', hnf⟩ := fl3.2.2.1.mem hm
      rw [he3] at e'
      cases e'
      exact hnf _ hd3
    have nL : a ≠ X.env.locals := fun z => free (List.mem_filterMap.mpr ⟨X.env, List.mem_cons_self, by rw [hf, z]⟩)
    have nF : a ∉ X.fs := fun hm => by
      obtain ⟨e, he, q⟩ := List.mem_filterMap.mp hm
      exact free (List.mem_filterMap.mpr ⟨e, List.mem_cons_of_mem _ he, q⟩)
    have S3 := J3.suite he3 hd3 na nL nF
    have LT : PySem.W.Looks (model X.prog X.w) h3 (typeOf (.ref a)) cls := fun A Q E s k q => wpAny_typeOf_ref (k _ _ he3) (by rw [hz3.1]; exact q)
    have name : ∀ {x : Str} {c : Value} {np : Pos} {Q : Value → Shared → Prop} {E : Value → Shared → Prop}, Names X x c → Q c { s' with heap := h3 } → wpAny (model X.prog X.w) (X.A.mark (some (.ref a))) (eval (.Name x np) X.env) Q E { s' with heap := h3 } := fun {x c np Q E} hc q => by
      obtain ⟨hg, hdb, hm | ⟨hm, hv, hnn⟩⟩ := hc
      · exact ld_glob (X := X.suite a ((a, oe3) :: (X.pn ++ pins))) S3 hg hm q hdb
      · exact ld_blt (X := X.suite a ((a, oe3) :: (X.pn ++ pins))) S3 hg hm hv q hnn hdb
    have clauses : ∀ {hds' : List ExceptHandler} {l' : List Cls3}, HdsM X hds' l' → wMix X.K X.N.length Wout D l' cls d σ' H' → wpAny (model X.prog X.w) X.A (handleBy (.ref a) X.env hds') (SP X pins D) X.xe { s' with heap := h3 } := by
      intro hds' l' hk
      induction hk with
      | nil =>
        intro w
        refine wpAny_handleBy_nil ?_
        obtain ⟨k1, k2, k3, oe, vs, T, oT, ts', he, hz, hdd, h1, hr⟩ := id fl3
        have fin : wpAny (model X.prog X.w) X.A (setFlight (.ref a) X.env.frame) (fun _ s4 => wpAny (model X.prog X.w) X.A (throw (.ref a) : Sem Flow) (SP X pins D) X.xe s4) X.xe { s' with heap := h3 } := by
          rw [hf]
          refine HandSPX.setFlight_upZ fl3 fun h4 hh4 up4 => wpAny_throw (tk _ _ ?_)
          exact ⟨a, B, sI, pins, σ', H', cls, d, rfl, J, nb, (up.trans up3).trans up4, .inr (.inr (by rw [hs]; exact hh4)), na, os, ag, w⟩
        unfold PySem.passOn
        refine wpAny_bind (wpAny_field he hdd h1 ?_)
        rw [if_neg (by simp : ¬ ((Value.ref T == Value.none) = true))]
        first
          | exact wpAny_bind (wpAny_pure (wpAny_bind fin))
          | exact wpAny_bind fin
      | only hc hsu r ih =>
        intro w
        obtain ⟨b, e1, hyes, hno⟩ := w
        have LM := PySem.W.exm_one (M := model X.prog X.w) J3.kIn LT e1
        refine wpAny_handleBy_cons (codeAny_handlers_test (name hc (LM.here ?_))) (by intro q; cases q)
        cases b with
        | false => exact ih (hno rfl)
        | true =>
          refine codeAny_handlers_suite (HandSPX.lands_againZ fl3 fun h4 fl4 up4 => ?_)
          have J4 : Inv X pins σ' H' { s' with heap := h4 } := J.landed nb fl4.1 ((up.trans up3).trans up4) os ag
          obtain ⟨oe4, vs4, he4, hz4, hd4⟩ := fl4.there
          refine wpAny_mono ((hsu a oe4 cls d (X.pn ++ pins) hz4 ⟨_, hd4⟩).run [] _ _ H' _ (J4.suite he4 hd4 na nL nF) (hyes rfl a na)) (fun f s6 hsp => ?_) (fun _ _ z => False.elim z)
          match f, hsp with
          | .next, ⟨σ6, H6, S6, q6⟩ => exact ⟨_, _, S6.unsuite ok, q6⟩
          | .brk, ⟨σ6, H6, S6, q6⟩ => exact ⟨_, _, S6.unsuite ok, q6⟩
          | .cont, ⟨σ6, H6, S6, q6⟩ => exact ⟨_, _, S6.unsuite ok, q6⟩
          | .ret u, ⟨v6, σ6, H6, S6, r6, q6⟩ => exact ⟨_, _, _, S6.unsuite ok, r6, q6⟩
      | @named x n i c ts b₀ suite np p hds2 l2 hi hln hc hsu r ih =>
        intro w
        obtain ⟨b, e1, hyes, hno⟩ := w
        have LM := PySem.W.exm_one (M := model X.prog X.w) J3.kIn LT e1
        refine wpAny_handleBy_cons (codeAny_handlers_test (name hc (LM.here ?_))) (by intro q; cases q)
        cases b with
        | false => exact ih (hno rfl)
        | true =>
          refine codeAny_handlers_suite_as (HandSPX.lands_againZ fl3 fun h4 fl4 up4 => ?_)
          have J4 : Inv X pins σ' H' { s' with heap := h4 } := J.landed nb fl4.1 ((up.trans up3).trans up4) os ag
          obtain ⟨oe4, vs4, he4, hz4, hd4⟩ := fl4.there
          refine store_ok (X := X.suite a ((a, oe4) :: (X.pn ++ pins))) (v := .ref a) (J4.suite he4 hd4 na nL nF) hN hi (.inl hln) rfl (fun s5 S5 => ?_) (.inr hln)
          refine wpAny_mono ((hsu a oe4 cls d (X.pn ++ pins) hz4 ⟨_, hd4⟩).run [] s5 _ H' _ S5 (hyes rfl J.len a na)) (fun f s6 hsp => ?_) (fun _ _ z => False.elim z)
          match f, hsp with
          | .next, ⟨σ6, H6, S6, q6⟩ => exact gone_ok (S6.unsuite ok) hN hi hln fun s7 J7 => ⟨_, _, J7, q6⟩
          | .brk, ⟨σ6, H6, S6, q6⟩ => exact gone_ok (S6.unsuite ok) hN hi hln fun s7 J7 => ⟨_, _, J7, q6⟩
          | .cont, ⟨σ6, H6, S6, q6⟩ => exact gone_ok (S6.unsuite ok) hN hi hln fun s7 J7 => ⟨_, _, J7, q6⟩
          | .ret u, ⟨v6, σ6, H6, S6, r6, q6⟩ => exact gone_ok (S6.unsuite ok) hN hi hln fun s7 J7 => ⟨_, _, _, J7, r6, q6⟩
    exact clauses hh w
end
end Eh

set_option Elab.async false
set_option linter.all false
set_option maxRecDepth 100000
set_option maxHeartbeats 2000000
/-! sets of texts: what stands at a set, set.add, sorted -/
namespace Eh
open PySem PySem.Spec PyProof.Rows L2
def txtOf (e : Int × Value) : Str := match e.2 with
  | .str x _ => x
  | _ => Str.empty
def GoodT (w : World) (e : Int × Value) : Prop := ∃ x tk, e.2 = Value.str x tk ∧ e.1 = hashStr w x
/-- the table es, t holds the texts ts -/
structure TB (w : World) (ts : List Str) (es : Array (Int × Value)) (t : SetTable) : Prop where
  good : ∀ e ∈ es.toList, GoodT w e
  perm : (es.toList.map txtOf).Perm ts
  room : es.size < scanBound
  fits : t.fits es.size = true
  ris : Ris t.place.toList
  led : w.params.followText "set-order" = true ∨ t.led = true
theorem TB.size {w : World} {ts : List Str} {es : Array (Int × Value)} {t : SetTable} (b : TB w ts es t) : es.size = ts.length := by
  rw [← b.perm.length_eq, List.length_map, Array.length_toList]
theorem TB.elems {P : Program} {w : World} {ts : List Str} {es : Array (Int × Value)} {t : SetTable} (b : TB w ts es t) : ElemsOf (strKind P w) es.toList := fun e he => by
  obtain ⟨x, tk, h1, h2⟩ := b.good e he
  refine ⟨⟨x, ?_, h2⟩, by rw [h1]; rfl⟩
  rw [h1]
  exact strKind_is P w x tk
theorem good_str {P : Program} {w : World} {e : Int × Value} (g : GoodT w e) (x : Str) : (strKind P w).is x e.2 = true ↔ txtOf e = x := by
  obtain ⟨y, tk, h1, _⟩ := g
  unfold txtOf
  rw [h1]
  constructor
  · intro h
    obtain ⟨t, ht⟩ := Value.isStrOf_shape (x := x) (v := Value.str y tk) h
    injection ht
  · intro h
    have h' : y = x := h
    rw [h']
    exact strKind_is P w x tk
theorem TB.mem {P : Program} {w : World} {ts : List Str} {es : Array (Int × Value)} {t : SetTable} (b : TB w ts es t) (x : Str) : x ∈ ts ↔ ∃ e ∈ es.toList, (strKind P w).is x e.2 = true := by
  rw [← b.perm.mem_iff, List.mem_map]
  exact ⟨fun ⟨e, he, q⟩ => ⟨e, he, (good_str (b.good e he) x).2 q⟩, fun ⟨e, he, q⟩ => ⟨e, he, (good_str (P := P) (b.good e he) x).1 q⟩⟩
theorem TB.relay {w : World} {ts : List Str} {es : Array (Int × Value)} {t : SetTable} (b : TB w ts es t) (n : Nat) : TB w ts (relayAll t es n).1 (relayAll t es n).2.1 := by
  have pm := relayAll_perm t es n
  have sz : (relayAll t es n).1.size = es.size := by rw [← Array.length_toList, pm.length_eq, Array.length_toList]
  exact ⟨fun e he => b.good e (pm.mem_iff.mp he), (pm.map txtOf).trans b.perm, by rw [sz]; exact b.room, relayAll_fits t es n, relayAll_ris t es n, b.led.imp id fun z => by rw [relayAll_led]; exact z⟩
theorem TB.lay {P : Program} {w : World} {ts : List Str} {es : Array (Int × Value)} {t : SetTable} (b : TB w ts es t) (x : Str) (tk : Tok) (hr : ts.length + 1 < scanBound) :
    TB w (x :: ts) (layNew t es ((strKind P w).hash x) (.str x tk)).1 (layNew t es ((strKind P w).hash x) (.str x tk)).2.1 := by
  have pm := layNew_perm t es ((strKind P w).hash x) (.str x tk)
  rw [Array.toList_push] at pm
  have pc := pm.trans (List.perm_append_singleton _ _)
  refine ⟨fun e he => ?_, (pc.map txtOf).trans (b.perm.cons x), ?_, layNew_fits t es _ _, layNew_ris t es _ _ b.ris, b.led.imp id fun z => by rw [layNew_led]; exact z⟩
  · rcases List.mem_cons.mp (pc.mem_iff.mp he) with z | z
    · exact ⟨x, tk, by rw [z], by rw [z]; rfl⟩
    · exact b.good e z
  · rw [← Array.length_toList, pc.length_eq, List.length_cons, Array.length_toList, b.size]
    exact hr
/-- the set of the texts ts stands at a -/
def SetT (w : World) (h : Heap) (a : Addr) (ts : List Str) : Prop := ts.Nodup ∧ ∃ o es ep t, h.get? a = some o ∧ o.ExactSet ∧ o.data = .set es ep t ∧ TB w ts es t
section
variable {P : Program} {w : World} {A : Around} {E : Value → Shared → Prop} {s : Shared} {a : Addr} {ts : List Str}
theorem setT_stored {o : Obj} {es es1 : Array (Int × Value)} {ep : Nat} {t t1 : SetTable} {R : Unit → Shared → Prop} (ho : s.heap.get? a = some o) (hx : o.ExactSet) (hd : o.data = .set es ep t) (b : TB w ts es1 t1) (nd : ts.Nodup)
    (k : ∀ h' o' ep', Heap.SameBut a s.heap h' → h'.get? a = some o' → o'.ExactSet → o'.data = .set es1 ep' t1 → R () { s with heap := h' }) : wpAny (model P w) A (storeSet a es1 t1) R E s :=
  wpAny_storeSet_of ho hd (k _ _ _ (Heap.SameBut.update s.heap a (Obj.putSet es1 t1)) (store_at (es' := es1) (t' := t1) ho hd) hx rfl) (fits_of_scanBound b.room)
end
end Eh

set_option Elab.async false
set_option linter.all false
set_option maxRecDepth 100000
set_option maxHeartbeats 2000000
namespace Eh
open PySem PySem.Spec PyProof.Rows L2
section
variable {P : Program} {w : World} {A : Around} {E : Value → Shared → Prop} {s : Shared} {a : Addr} {ts : List Str}
/-- the end of an add: the new table stored, perhaps laid again -/
theorem setT_tail {g : Bool → Sem Unit} (hg : ∀ (b : Bool) (s₁ : Shared) (Q' : Unit → Shared → Prop), Q' () s₁ → wpAny (model P w) A (g b) Q' E s₁)
    {o : Obj} {es es1 : Array (Int × Value)} {ep : Nat} {t t1 : SetTable} {R : Option Bool → Shared → Prop} {wd : Bool} (ho : s.heap.get? a = some o) (hx : o.ExactSet) (hd : o.data = .set es ep t) (b : TB w ts es1 t1) (nd : ts.Nodup)
    (k : ∀ h', Heap.SameBut a s.heap h' → SetT w h' a ts → R (some true) { s with heap := h' }) :
    wpAny (model P w) A (do
        storeSet a es1 t1
        if (!wd && t1.tooFull) = true then do
            g (relayAll t1 es1 (SetTable.grown es1.size)).2.2
            storeSet a (relayAll t1 es1 (SetTable.grown es1.size)).1 (relayAll t1 es1 (SetTable.grown es1.size)).2.1
            pure (some true)
          else pure (some true)) R E s := by
  refine wpAny_bind (setT_stored ho hx hd b nd fun h1 o1 ep1 sb1 g1 x1 d1 => ?_)
  split
  · refine wpAny_bind (hg _ _ _ ?_)
    refine wpAny_bind (setT_stored (s := { s with heap := h1 }) g1 x1 d1 (b.relay _) nd fun h2 o2 ep2 sb2 g2 x2 d2 => ?_)
    exact wpAny_pure (k h2 (sb1.trans sb2) ⟨nd, o2, _, ep2, _, g2, x2, d2, b.relay _⟩)
  · exact wpAny_pure (k h1 sb1 ⟨nd, o1, es1, ep1, t1, g1, x1, d1, b⟩)
/-- the text x put in -/
def put (x : Str) (ts : List Str) : List Str := if x ∈ ts then ts else x :: ts
theorem setT_hashed {x : Str} {tk : Tok} {Q : Bool → Shared → Prop} (R : SetT w s.heap a ts) (room : ts.length + 1 < scanBound) (k : ∀ r h', Heap.SameBut a s.heap h' → SetT w h' a (put x ts) → Q r { s with heap := h' }) :
    wpAny (model P w) A (setAddHashed a (.str x tk) ((strKind P w).hash x)) Q E s := by
  obtain ⟨nd, o, es, ep, t, ho, hx, hd, b⟩ := R
  have hkey := strKind_is P w x tk
  have hsc : (Value.str x tk).scannable = true := rfl
  unfold setAddHashed setAddHashedIn
  refine wpAny_holding (wpAny_bind (wpAny_setState_of ho hd b.fits ?_))
  dsimp only
  rw [byScan_of hsc b.room (b.elems (P := P))]
  simp only [↓reduceIte]
  unfold setAddByScan
  refine wpAny_bind (wpAny_bind (wpAny_rule (wpAny_bind (wpAny_setScan_of hkey ho hd b.fits (b.elems (P := P)) ?_))))
  cases hf : List.findIdx? (fun e => (strKind P w).is x e.2) es.toList with
  | some j =>
    dsimp only
    obtain ⟨hj, pj, _⟩ := List.findIdx?_eq_some_iff_getElem.mp hf
    have hm : x ∈ ts := (b.mem (P := P) x).2 ⟨es.toList[j], List.getElem_mem hj, pj⟩
    have e : put x ts = ts := if_pos hm
    refine wpAny_pure (wpAny_pure (k _ s.heap (Heap.SameBut.refl a s.heap) ?_))
    rw [e]
    exact ⟨nd, o, es, ep, t, ho, hx, hd, b⟩
  | none =>
    dsimp only
    have hm : x ∉ ts := fun z => by
      obtain ⟨e, he, q⟩ := (b.mem (P := P) x).1 z
      have c := List.findIdx?_eq_none_iff.mp hf e he
      rw [q] at c
      cases c
    have e : put x ts = x :: ts := if_neg hm
    have nd1 : (x :: ts).Nodup := List.nodup_cons.mpr ⟨hm, nd⟩
    have b1 := b.lay (P := P) x tk room
    have fin : ∀ r h', Heap.SameBut a s.heap h' → SetT w h' a (x :: ts) → Q r { s with heap := h' } := fun r h' sb z => k r h' sb (by rw [e]; exact z)
    have gave : ∀ (c : Bool) {s₁ : Shared} {Q' : Unit → Shared → Prop}, Q' () s₁ → wpAny (model P w) A (match c with | true => rule "set.scan.the-table-gave-way" | false => pure ()) Q' E s₁ :=
      fun c s₁ Q' q => match c with
        | true => wpAny_rule q
        | false => wpAny_pure q
    generalize layNew t es ((strKind P w).hash x) (.str x tk) = Z at b1 ⊢
    obtain ⟨es1, t1, wd, gv⟩ := Z
    dsimp only at b1 ⊢
    refine wpAny_bind (gave _ ?_)
    split
    · refine wpAny_bind ?_
      rw [hashByValue_scannable 8 hsc]
      refine wpAny_pure ?_
      refine setT_tail (fun c s₁ Q' q => by cases c <;> first | exact wpAny_pure q | exact wpAny_rule q) ho hx hd (ts := x :: ts) ?_ nd1 fun h' sb z => ?_
      · refine ⟨b1.good, b1.perm, b1.room, ?_, ?_, ?_⟩
        · have := b1.fits
          first | (split <;> first | exact this | exact SetTable.fits_plain_off this) | exact this
        · have := b1.ris
          first | (split <;> exact this) | exact this
        · have := b1.led
          first | (split <;> exact this) | exact this
      · dsimp only
        exact wpAny_pure (fin _ h' sb z)
    · refine wpAny_bind (wpAny_pure ?_)
      simp only [↓reduceIte]
      refine setT_tail (fun c s₁ Q' q => by cases c <;> first | exact wpAny_pure q | exact wpAny_rule q) ho hx hd b1 nd1 fun h' sb z => ?_
      dsimp only
      exact wpAny_pure (fin _ h' sb z)
theorem SetT.typeIs (R : SetT w s.heap a ts) : s.TypeIs (.ref a) "set" := by
  obtain ⟨_, o, es, ep, t, ho, hx, _⟩ := R
  exact ⟨o, ho, hx.1⟩
/-- found.add(x) -/
theorem setT_add {x : Str} {tk : Tok} {Q : Value → Shared → Prop} (R : SetT w s.heap a ts) (room : ts.length + 1 < scanBound)
    (k : ∀ h', Heap.SameBut a s.heap h' → SetT w h' a (put x ts) → Q .none { s with heap := h', toks := s.toks + 1 }) : wpAny (model P w) A (call (.builtin "set.add") [.ref a, .str x tk]) Q E s := by
  refine wpAny_call_entry PySem.F.slot_set_add R.typeIs PySem.F.entry_set_add ?_ (PySem.F.args_set_add_2 _ _)
  unfold Builtin.«set.add» Builtin.Frozenset.oneOther
  simp only [List.isEmpty_nil, bind_assoc]
  unfold Builtin.Frozenset.addrOf setAdd
  refine wpAny_bind (wpAny_pure ?_)
  try dsimp only
  refine wpAny_bind (wpAny_pure ?_)
  try dsimp only
  refine wpAny_bind (wpAny_holding (wpAny_bind ((strKind P w).pyHash (strKind_is P w x tk) (setT_hashed (s := { s with toks := s.toks + 1 }) R room fun r h' sb z => ?_))))
  show wpAny _ _ (ret Value.none) _ _ _
  exact wpAny_pure ⟨_, rfl, k h' sb z⟩
end
end Eh

set_option Elab.async false
set_option linter.all false
set_option maxRecDepth 100000
set_option maxHeartbeats 4000000
namespace Eh
open PySem PySem.Spec PyProof.Rows L2
/-- the set of the texts ts, at a -/
def SetX (w : World) (a : Addr) (ts : List Str) : HO := .ext fun h => SetT w h a ts
theorem SetT.at {w : World} {h h' : Heap} {a : Addr} {ts : List Str} (R : SetT w h a ts) (k : ∀ o, h.get? a = some o → h'.get? a = some o) : SetT w h' a ts := by
  obtain ⟨nd, o, es, ep, t, ho, r⟩ := R
  exact ⟨nd, o, es, ep, t, k o ho, r⟩
theorem setX_ok {w : World} {P : Program} {H : Hp} {h : Heap} {a : Addr} {ts : List Str} (R : SetT w h a ts) : ObjOk P w H h a (SetX w a ts) := by
  obtain ⟨nd, o, es, ep, t, ho, r⟩ := id R
  exact ⟨R, ⟨o, ho⟩, fun _ _ p k => p.at k⟩
section
variable {X : Cx} {pins : List (Addr × Obj)} {σ : L2.St} {H : Hp} {s : Shared} {a : Addr} {ts : List Str}
theorem setX_get (I : Inv X pins σ H s) (ha : H a = some (SetX X.w a ts)) : SetT X.w s.heap a ts := (I.hok a _ ha).1
theorem setT_empty (w : World) (h : Heap) : SetT w (h.push { cls := .type "set", dict := none, data := .set #[] 0 (.fresh 0 0 (!w.params.followText "set-order")) }) h.objs.size [] := by
  refine ⟨List.nodup_nil, _, #[], 0, _, Heap.get?_push_size _ rfl, ⟨rfl, rfl, rfl⟩, rfl, fun e he => by simp at he, List.Perm.refl _, by decide, rfl, List.Pairwise.nil, ?_⟩
  cases hq : w.params.followText "set-order" with
  | true => exact .inl rfl
  | false => exact .inr rfl
/-- set.add of a tracked set -/
theorem add_run {z : Str} {v : Value} {Q : Value → Shared → Prop} {E : Value → Shared → Prop} (I : Inv X pins σ H s) (ha : H a = some (SetX X.w a ts)) (hz : ts.length < 1000) (r : RelV (.str z) v)
    (k : ∀ s', Inv X pins σ (upd H a (SetX X.w a (put z ts))) s' → Q .none s') : wpAny (model X.prog X.w) X.A (call (.builtin "set.add") [.ref a, v]) Q E s := by
  obtain ⟨t, rfl⟩ := r
  refine setT_add (setX_get I ha) (Nat.lt_trans (by omega : ts.length + 1 < 1002) (by decide)) fun h' sb R => k _ ?_
  obtain ⟨_, o, _, _, _, ho, _⟩ := id R
  exact I.write (e := a) (t' := s.toks + 1) (by rw [ha]; trivial) (.inl rfl) (fun b u hb hu => (sb.2 b hb).trans hu) ⟨o, ho⟩ (setX_ok R)
end
/-- {e for target in iter if ..}, the elements texts: D the new set -/
def tSc (w : World) (wi : TI) (g : TG) (tt : TT) (te : TE) (vs : List Nat) : TE := fun σ H Q => wi σ H fun J H1 => ∀ D, H1 D = none → ∃ W : Nat → Nat → Hp → Prop, (∃ m, W 0 m (upd H1 D (SetX w D []))) ∧ ∀ i m H, W i m H →
  (J.stop i H ∧ Q (.ref D) H) ∨ (J.go i H ∧ ∃ Nx : Hp → Prop, (∀ H', Nx H' → ∃ m', m' < m ∧ W (i + 1) m' H') ∧ ∀ x H', J.yld i H x H' → g x (wipe σ vs) H' fun σ2 H2 => wipe σ2 vs = wipe σ vs ∧ tt σ2 H2 fun b H3 =>
    if b = true then te σ2 H3 fun y H4 => ∃ ts z, y = .str z ∧ H4 D = some (SetX w D ts) ∧ ts.length < 1000 ∧ Nx (upd H4 D (SetX w D (put z ts))) else Nx H3)
section
variable {X : Cx} {elt tg iter : Expr} {ifs : List Expr} {scope : Scope} {own : List (Str × Nat)} {pos : Pos} {wi : TI} {g : TG} {tt : TT} {te : TE}
theorem pe_sc (hc : X.calm = true) (hN : X.N.Nodup) (hi : PI X tg iter wi) (ok : BlkOk X.N X.env.scope scope own)
    (hg : ∀ (s : Shared) (H : Hp) (C : Addr) (cl : List (Str × Addr)) (fp : List Addr), PG (X.blk s H scope (compEnvC scope cl C X.env) fp) tg g)
    (ht : ∀ (s : Shared) (H : Hp) (C : Addr) (cl : List (Str × Addr)) (fp : List Addr), PTs (X.blk s H scope (compEnvC scope cl C X.env) fp) ifs tt)
    (he : ∀ (s : Shared) (H : Hp) (C : Addr) (cl : List (Str × Addr)) (fp : List Addr), PE (X.blk s H scope (compEnvC scope cl C X.env) fp) elt te)
    (hs : ∀ x, foldedSetIterable iter X.env x = pure x := by intro _; rfl) :
    PE X (.SetComp elt [⟨tg, iter, ifs, 0⟩] scope pos) (tSc X.w wi g tt te (own.map (·.2))) where
  run pins s σ H Q I h := by
    rw [arm_eval_SetComp]
    have cells : ∀ y ∈ scope.names, y.2 = .free → ∃ c, X.env.cells.lookup y.1 = some c := fun y hy e => (ok.free y hy e).elim (fun k => I.ok.has _ (.inl k)) fun k => I.ok.has _ (.inr k)
    refine wpAny_comprehension_free (use := none) rfl hs (closure_ok cells) ok.kind (fun y hy e => by rw [ok.uniq y hy, e]) (thn (hi.run pins s σ H _ I h) fun xv s1 hx => thn hx fun itv s2 h2 => ?_)
    obtain ⟨it, fp, tn, J, H2, rfl, I2, T, st2, f2, q⟩ := h2
    refine wpAny_newSet_raw fun led hled => newEnv_comp ?_
    subst hled
    obtain ⟨D, hD⟩ : ∃ D, D = s2.heap.objs.size := ⟨_, rfl⟩
    obtain ⟨W, ⟨m0, w0⟩, turn⟩ := q D (I2.hok.fresh (Nat.le_of_eq hD.symm))
    obtain ⟨h3, e3⟩ : ∃ h3, h3 = s2.heap.push { cls := .type "set", dict := none, data := .set #[] 0 (.fresh 0 0 (!X.w.params.followText "set-order")) } := ⟨_, rfl⟩
    have new : SetT X.w h3 D [] := by
      rw [e3, hD]
      exact setT_empty X.w s2.heap
    have I3 : Inv X pins σ (upd H2 D (SetX X.w D [])) { s2 with heap := h3 } := I2.laid (t' := s2.toks) (fun b o e => by rw [e3]; exact Heap.get?_push_of_some _ e) (Nat.le_of_eq hD.symm) (setX_ok new)
    have f3 : ∀ b ∈ fp, FpOk X pins (upd H2 D (SetX X.w D [])) b ∧ b < h3.objs.size := fun b hb => by
      obtain ⟨o, e, _⟩ := T.obj _ _ st2 b hb
      have lt := Heap.lt_size e
      refine ⟨⟨(upd_ne (by rw [hD]; exact Nat.ne_of_lt lt)).trans (f2 b hb).1, (f2 b hb).2⟩, ?_⟩
      rw [e3, Heap.size_push]
      exact Nat.lt_succ_of_lt lt
    have st3 : tn 0 h3 := T.keep _ _ _ st2 fun b _ o e => by rw [e3]; exact Heap.get?_push_of_some _ e
    show codeAny _ _ (.compStart _ 0 (.ref it) (.ref s2.heap.objs.size) _) (compPost _ _ _ _ _ (.ref s2.heap.objs.size) _) _
    rw [← hD, ← e3]
    show codeAny _ _ (.compStart _ 0 (.ref it) (.ref D) (compEnvC scope (cellsFrom (h3.objs.size + 1) scope.names (cloFrom X.env.cells scope.names [])) h3.objs.size X.env))
      (compPost _ _ _ _ _ (.ref D) h3.objs.size) { s2 with heap := pushCells (h3.push { cls := .type "dict", data := .dict #[] }) scope.names }
    have I4 := block_start I3 ok hN f3
    have pg := hg { s2 with heap := h3 } (upd H2 D (SetX X.w D [])) h3.objs.size (cellsFrom (h3.objs.size + 1) scope.names (cloFrom X.env.cells scope.names [])) fp
    have pt := ht { s2 with heap := h3 } (upd H2 D (SetX X.w D [])) h3.objs.size (cellsFrom (h3.objs.size + 1) scope.names (cloFrom X.env.cells scope.names [])) fp
    have pe := he { s2 with heap := h3 } (upd H2 D (SetX X.w D [])) h3.objs.size (cellsFrom (h3.objs.size + 1) scope.names (cloFrom X.env.cells scope.names [])) fp
    have nfp : ∀ b ∈ fp, (upd H2 D (SetX X.w D [])) b = none := fun b hb => (f3 b hb).1.1
    generalize hce : compEnvC scope (cellsFrom (h3.objs.size + 1) scope.names (cloFrom X.env.cells scope.names [])) h3.objs.size X.env = ce at I4 pg pt pe ⊢
    have cL : ce.locals = h3.objs.size := by rw [← hce]; rfl
    obtain ⟨H3, hH3⟩ : ∃ H3, H3 = upd H2 D (SetX X.w D []) := ⟨_, rfl⟩
    rw [← hH3] at I3 I4 pg pt pe w0 nfp f3
    obtain ⟨S3, hS3⟩ : ∃ S3 : Shared, S3 = { s2 with heap := h3 } := ⟨_, rfl⟩
    have sz3 : S3.heap = h3 := by rw [hS3]
    rw [← hS3] at I3 pg pt pe
    replace I4 : Inv (X.blk S3 H3 scope ce fp) [] (wipe σ (own.map (·.2))) H3 { s2 with heap := pushCells (h3.push { cls := .type "dict", data := .dict #[] }) scope.names } := by
      rw [hS3]
      exact I4
    -- the places of the iterator are free in the block
    have free : ∀ {τ : L2.St} {H' : Hp} {s' : Shared}, Inv (X.blk S3 H3 scope ce fp) [] τ H' s' → (∀ b ∈ fp, H' b = none) → ∀ b ∈ fp, FpOk (X.blk S3 H3 scope ce fp) [] H' b := fun I' n b hb =>
      ⟨n b hb, (I'.ok.exf b hb).1, I'.ok.exfs b hb, .inl hb, fun x c e => (I'.ok.exf b hb).2 x c e, fun p hp => by cases hp⟩
    have st4 : tn 0 (pushCells (h3.push { cls := .type "dict", data := .dict #[] }) scope.names) := T.keep _ _ _ st3 fun b _ o e => pushCells_keeps _ _ _ _ (Heap.get?_push_of_some _ e)
    have loop : codeAny (model X.prog X.w) X.A (.compLoop (.SetComp elt [⟨tg, iter, ifs, 0⟩] scope pos) 0 (.ref it) (.ref D) ce) (compPost (model X.prog X.w) X.A X.xe none (EP X pins σ Q) (.ref D) h3.objs.size)
        { s2 with heap := pushCells (h3.push { cls := .type "dict", data := .dict #[] }) scope.names } := by
      refine compLoop_set_any (fun n s' => ∃ i H', Inv (X.blk S3 H3 scope ce fp) [] (wipe σ (own.map (·.2))) H' s' ∧ tn i s'.heap ∧ (∀ b ∈ fp, H' b = none) ∧ W i n H') ?_ m0 ⟨0, H3, I4, st4, nfp, w0⟩
      rintro n s5 ⟨i, H5, I5, st5, n5, w5⟩
      rcases turn i n H5 w5 with ⟨stop, qq⟩ | ⟨go, Nx, hNx, step⟩
      · refine thnF (T.done (X.blk S3 H3 scope ce fp) rfl rfl rfl hc i [] s5 _ H5 (fun _ _ => False) I5 (free I5 n5) st5 stop) fun r s6 ⟨hr, I6⟩ => ?_
        subst hr
        have I7 : Inv X pins σ H5 s6 := I3.call' (ch := fp) I6.os I6.base I6.hok I6.bare fun b hb => ⟨(f3 b hb).1.2.2.2.1, (f3 b hb).1.2.1, (f3 b hb).1.2.2.2.2.1, (f3 b hb).1.2.2.2.2.2⟩
        have nC : H5 h3.objs.size = none := by
          rw [← cL]
          exact I6.free
        obtain ⟨m, hn, _⟩ := I6.loc
        have hn : s6.heap.Ns ce.locals m := hn
        rw [cL] at hn
        have fp7 : FpOk X pins H5 h3.objs.size := I3.fpOk (Nat.le_of_eq (by rw [sz3])) nC
        obtain ⟨a0, a1, _, a3, a4, a5⟩ := fp7
        exact ⟨m, hn, fun h'' sb => ⟨.ref D, H5, I7.turned (t' := s6.toks) (fun b o hb e => (sb.2 b hb).trans e) a0 a1 a3 a4 a5, rfl, qq⟩⟩
      · refine thnF (T.item (X.blk S3 H3 scope ce fp) rfl rfl rfl hc i [] s5 _ H5 (fun _ _ => False) I5 (free I5 n5) st5 go) fun r s6 ⟨u, hr, h6⟩ => ?_
        subst hr
        refine thnF h6 fun _ s7 ⟨x, H7, I7, r7, y7, st7, n7⟩ => ?_
        have J7 := I7.pinned (free I7 n7) (T.obj _ _ st7)
        refine thnF (pg.run _ s7 _ H7 x u _ J7 r7 (step x H7 y7)) fun _ s8 ⟨σ8, H8, I8, hw8, q8⟩ => thnF (pt.run _ s8 σ8 H8 _ I8 q8) fun b s9 ⟨H9, I9, q9⟩ => ?_
        have back : ∀ {s' : Shared} {H' : Hp}, Inv (X.blk S3 H3 scope ce fp) ([] ++ pinsAt fp s7.heap) σ8 H' s' → Nx H' → ∃ m, m < n ∧ ∃ i H', Inv (X.blk S3 H3 scope ce fp) [] (wipe σ (own.map (·.2))) H' s' ∧ tn i s'.heap ∧ (∀ b ∈ fp, H' b = none) ∧ W i m H' := fun {s' H'} I' nx => by
          obtain ⟨m', hm, w'⟩ := hNx H' nx
          have held {b : Addr} {o : Obj} (hb : b ∈ fp) (e : s7.heap.get? b = some o) : s'.heap.get? b = some o ∧ H' b = none :=
            have z := I'.pin (b, o) (List.mem_append_right _ (List.mem_append_right _ (mem_pinsAt hb e)))
            ⟨z.1, z.2.1⟩
          refine ⟨m', hm, i + 1, H', (I'.unpinned (pins := [])).weak (by rw [← hw8, wipe_length]) (fun j v e => ?_), T.keep _ _ _ st7 fun b hb o e => (held hb e).1, fun b hb => ?_, w'⟩
          · rw [← hw8] at e
            exact (wipe_some e).1
          · obtain ⟨o, e, _⟩ := T.obj _ _ st7 b hb
            exact (held hb e).2
        cases b with
        | false =>
          simp only [Bool.false_eq_true, if_false] at q9 ⊢
          exact back I9 q9
        | true =>
          simp only [if_true] at q9 ⊢
          refine thnF (pe.run _ s9 σ8 H9 _ I9 q9) fun z s10 ⟨y, H10, I10, r10, ts, x, ey, hD10, hz10, nx⟩ => ?_
          subst ey
          exact add_run (X := X.blk S3 H3 scope ce fp) I10 hD10 hz10 r10 fun s12 I12 => back I12 nx
    exact codeAny_compStart_set loop (T.self X.A 0 _ _ _ st4 loop)
end
end Eh

set_option Elab.async false
set_option linter.all false
set_option maxRecDepth 100000
set_option maxHeartbeats 2000000
namespace Eh
open PySem PySem.Spec PyProof.Rows L2
section
variable {P : Program} {w : World} {A : Around} {E : Value → Shared → Prop} {s : Shared} {a : Addr} {ts : List Str}
theorem strs_txt : ∀ (l : List Value), (∀ v ∈ l, ∃ x tk, v = Value.str x tk) → StrsAre l (l.map fun v => txtOf (0, v))
  | [], _ => .nil
  | v :: l, h => by
    obtain ⟨x, tk, rfl⟩ := h v List.mem_cons_self
    exact .cons x tk (strs_txt l fun u hu => h u (List.mem_cons_of_mem _ hu))
theorem setT_sorted {Q : Value → Shared → Prop} (R : SetT w s.heap a ts) (hh : A.handled = none) (h64 : ts.length < 64)
    (k : ∀ s' p (out : Array Value) (c : Nat) (ys : List Str), (∀ b o, s.heap.get? b = some o → s'.heap.get? b = some o) → s'.gens = s.gens → s'.os = s.os → s.heap.objs.size ≤ p →
      s'.heap.get? p = some (seqObj "list" out c) → StrsAre out.toList ys → ys.Perm ts → sortedS ys = true → Q (.ref p) s') : wpAny (model P w) A (call (.builtin "sorted") [.ref a]) Q E s := by
  obtain ⟨nd, o, es, ep, t, ho, hx, hd, b⟩ := R
  refine Calls.call_function_entry kind_sorted plain_sorted entry_sorted (args_sorted1 _) ?_
  unfold Builtin.«sorted»
  refine wpAny_bind (m := checkCount "sorted" 1 1 _) (wpAny_pure (wpAny_bind (collect_set (A := A.in1) hh ⟨o, ho, hx.1, hd⟩ b.fits b.room b.ris b.led fun s1 vs k1 hz g1 o1 pm => ?_)))
  have hvl : vs.length = ts.length := by rw [pm.length_eq, List.length_map, Array.length_toList, b.size]
  have hS := strs_txt vs fun v hv => by
    obtain ⟨e, he, q⟩ := List.mem_map.mp (pm.mem_iff.mp hv)
    obtain ⟨x, tk, h1, _⟩ := b.good e he
    exact ⟨x, tk, by rw [← q]; exact h1⟩
  have pk : (vs.map fun v => txtOf (0, v)).Perm ts := by
    have q := pm.map fun v => txtOf (0, v)
    rw [List.map_map] at q
    exact q.trans b.perm
  refine wpAny_bind (wpAny_newList ?_ (by rw [hvl, sizeLine_eq]; omega))
  have hoL : (s1.heap.push (seqObj "list" vs.toArray 0)).get? s1.heap.objs.size = some (seqObj "list" vs.toArray 0) := Heap.get?_push_size _ rfl
  refine wpAny_bind (wpAny_holding (wpAny_call_entry slot_list_sort ⟨_, hoL, rfl⟩ entry_list_sort (list_sort_treeK strKind_oneLt hoL hS.keysOf (fun v₁ v₂ rest e => keyKind_strs (by rw [← e]; exact hS)) (by rw [hvl]; exact h64) fun st' hp hs => ⟨_, rfl, ?_⟩) (args_list_sort _)))
  obtain ⟨ys, y1, y2, y3⟩ := sorted_out_str hS hp hs
  obtain ⟨c, hc⟩ := sortedHeap_at (vs := vs) (out := (arrOf st').map (·.2)) hoL
  refine wpAny_pure ⟨_, rfl, k _ s1.heap.objs.size _ c ys (fun d u e => ?_) g1 o1 hz hc y1 (y2.trans pk) y3⟩
  have q := k1 d u e
  have hlt := Heap.lt_size q
  show (sortedHeap (s1.heap.push (seqObj "list" vs.toArray 0)) s1.heap.objs.size vs _).get? d = some u
  rw [sortedHeap_old (Nat.ne_of_lt hlt) (by rw [size_push']; exact Nat.lt_succ_of_lt hlt)]
  exact Heap.get?_push_of_some _ q
end
section
variable {X : Cx}
def rSortX (w : World) : List V → Hp → VK → Prop := fun vs H Q => ∃ (a : Addr) (ts : List Str), vs = [.ref a] ∧ H a = some (SetX w a ts) ∧ ts.Nodup ∧ ts.length < 64 ∧ ∀ (ys : List Str) p, ys.Perm ts → sortedS ys = true → H p = none → Q (.ref p) (upd H p (.lst (ys.map V.str)))
theorem sortX (hc : X.calm = true) : CallR X (.builtin "sorted") (rSortX X.w) := by
  intro pins s σ H vs us Q I r h
  obtain ⟨a, ts, rfl, ha, nd, h64, q⟩ := h
  rw [Vals.ref1 r]
  refine setT_sorted (setX_get I ha) (I.ok.hd hc) h64 fun s' p out c ys k g o hp hg hs h1 h2 => ?_
  have hlen : (ys.map V.str).length ≤ sizeLine := by rw [List.length_map, h1.length_eq, sizeLine_eq]; omega
  have hn : H p = none := I.hok.fresh hp
  obtain ⟨h', g', d', t', o'⟩ := s'
  obtain rfl : o' = s.os := o
  have J : Inv X pins σ (upd H p (.lst (ys.map V.str))) { s with heap := h', gens := g', drawn := d', toks := t' } :=
    I.call (ch := []) (Un.laid k hp hn) (I.hok.laid k hp ⟨hlen, out.toList, c, vals_of_strs hs, hg⟩) (by rw [show g' = s.gens from g]; exact I.bare) (fun _ z => nomatch z)
  exact ⟨.ref p, _, J, rfl, q ys p h1 h2 hn⟩
end
/-! comprehensions over a tuple, any target -/
section
variable {te : TE} {tt : TT} {g : TG} {σ : L2.St} {H1 : Hp} {D : Addr} {Qd : Hp → Prop} {vs : List Nat} {K : PySem.W.Frag} {a : Addr} {xs : List V}
theorem lcTg (R : Nat → List V → Hp → Prop) (h0 : R 0 [] (upd H1 D (.lst []))) (hl : ∀ j acc H, R j acc H → SqT K H a xs)
    (hs : ∀ j x acc H, xs[j]? = some x → acc.length ≤ j → H D = some (.lst acc) → R j acc H →
      g x (wipe σ vs) H fun σ2 H2 => wipe σ2 vs = wipe σ vs ∧ tt σ2 H2 fun b H3 => if b = true then te σ2 H3 (LcK R D j) else LcP R D (j + 1) H3)
    (hd : ∀ acc H, acc.length ≤ xs.length → H D = some (.lst acc) → R xs.length acc H → Qd H) : LcGoal (Itt K a) g tt te vs σ H1 D Qd := by
  refine ⟨fun j m H => m = xs.length - j ∧ j ≤ xs.length ∧ LcP R D j H, ⟨xs.length, by omega, Nat.zero_le _, [], Nat.le_refl _, upd_same, h0⟩, ?_⟩
  rintro j m H ⟨rfl, hj, acc, hlen, e, r⟩
  have q := hl _ _ _ r
  by_cases hlt : j < xs.length
  · refine .inr ⟨⟨xs, xs[j], q, List.getElem?_eq_getElem hlt⟩, LcP R D (j + 1), fun H' p => ⟨xs.length - (j + 1), by omega, rfl, hlt, p⟩, fun x H' y => ?_⟩
    obtain ⟨rfl, y⟩ := y
    exact hs j x acc _ (y xs q) hlen e r
  · have ej : j = xs.length := by omega
    subst ej
    exact .inl ⟨⟨xs, q, Nat.le_refl _⟩, hd acc H hlen e r⟩
def ScP (w : World) (R : Nat → List Str → Hp → Prop) (D : Addr) (j : Nat) (H : Hp) : Prop := ∃ ts, ts.length ≤ j ∧ H D = some (SetX w D ts) ∧ R j ts H
def ScK (w : World) (R : Nat → List Str → Hp → Prop) (D : Addr) (j : Nat) : VK := fun y H4 => ∃ ts z, y = .str z ∧ H4 D = some (SetX w D ts) ∧ ts.length < 1000 ∧ ScP w R D (j + 1) (upd H4 D (SetX w D (put z ts)))
theorem put_len (z : Str) (ts : List Str) : (put z ts).length ≤ ts.length + 1 := by
  unfold put
  split
  · omega
  · simp
theorem ScK.mk {w : World} {R : Nat → List Str → Hp → Prop} {j : Nat} {ts : List Str} {z : Str} {H : Hp} (hl : ts.length ≤ j) (hj : j < 1000) (e : H D = some (SetX w D ts)) (r : R (j + 1) (put z ts) (upd H D (SetX w D (put z ts)))) : ScK w R D j (.str z) H :=
  ⟨ts, z, rfl, e, by omega, put z ts, Nat.le_trans (put_len z ts) (by omega), upd_same, r⟩
theorem scTg {w : World} (R : Nat → List Str → Hp → Prop) (h0 : R 0 [] (upd H1 D (SetX w D []))) (hl : ∀ j acc H, R j acc H → SqT K H a xs)
    (hs : ∀ j x ts H, xs[j]? = some x → ts.length ≤ j → H D = some (SetX w D ts) → R j ts H →
      g x (wipe σ vs) H fun σ2 H2 => wipe σ2 vs = wipe σ vs ∧ tt σ2 H2 fun b H3 => if b = true then te σ2 H3 (ScK w R D j) else ScP w R D (j + 1) H3)
    (hd : ∀ ts H, ts.length ≤ xs.length → H D = some (SetX w D ts) → R xs.length ts H → Qd H) :
    ∃ W : Nat → Nat → Hp → Prop, (∃ m, W 0 m (upd H1 D (SetX w D []))) ∧ ∀ i m H, W i m H →
      ((Itt K a).stop i H ∧ Qd H) ∨ ((Itt K a).go i H ∧ ∃ Nx : Hp → Prop, (∀ H', Nx H' → ∃ m', m' < m ∧ W (i + 1) m' H') ∧ ∀ x H', (Itt K a).yld i H x H' → g x (wipe σ vs) H' fun σ2 H2 => wipe σ2 vs = wipe σ vs ∧ tt σ2 H2 fun b H3 =>
        if b = true then te σ2 H3 fun y H4 => ∃ ts z, y = .str z ∧ H4 D = some (SetX w D ts) ∧ ts.length < 1000 ∧ Nx (upd H4 D (SetX w D (put z ts))) else Nx H3) := by
  refine ⟨fun j m H => m = xs.length - j ∧ j ≤ xs.length ∧ ScP w R D j H, ⟨xs.length, by omega, Nat.zero_le _, [], Nat.le_refl _, upd_same, h0⟩, ?_⟩
  rintro j m H ⟨rfl, hj, ts, hlen, e, r⟩
  have q := hl _ _ _ r
  by_cases hlt : j < xs.length
  · refine .inr ⟨⟨xs, xs[j], q, List.getElem?_eq_getElem hlt⟩, ScP w R D (j + 1), fun H' p => ⟨xs.length - (j + 1), by omega, rfl, hlt, p⟩, fun x H' y => ?_⟩
    obtain ⟨rfl, y⟩ := y
    exact hs j x ts _ (y xs q) hlen e r
  · have ej : j = xs.length := by omega
    subst ej
    exact .inl ⟨⟨xs, q, Nat.le_refl _⟩, hd ts H hlen e r⟩
end
end Eh

set_option Elab.async false
set_option linter.all false
set_option maxRecDepth 100000
namespace Eh
open PySem PySem.Spec PyProof.Rows L2
/-! ### plain promises: trees, their nodes, how they stand -/
inductive Pl
  | leaf (k : Str) (t : V)
  | node (k : Str) (ps : List Pl)
mutual
def nodesOf : Pl → List (Str × V)
  | .leaf k t => [(k, t)]
  | .node k ps => (k, .int (ps.length : Int)) :: nodesAll ps
def nodesAll : List Pl → List (Str × V)
  | [] => []
  | p :: ps => nodesOf p ++ nodesAll ps
end
def leafOk (k : Str) (t : V) : Bool := match t with
  | .str _ => k == "fact" || k == "not"
  | .int i => (k == "yes" || k == "no") && decide (i = 0)
  | _ => false
def nodeKinds : List Str := ["all", "some", "mine", "yours"]
def nodeOk (k : Str) : Bool := nodeKinds.contains k
mutual
inductive At (K : PySem.W.Frag) (H : Hp) : V → Pl → Prop
  | leaf {a : Addr} {k : Str} {t : V} : SqT K H a [.str k, t] → leafOk k t = true → At K H (.ref a) (.leaf k t)
  | node {a b : Addr} {k : Str} {vs : List V} {ps : List Pl} : SqT K H a [.str k, .ref b] → SqT K H b vs → nodeOk k = true → 2 ≤ ps.length → ps.length ≤ 4 → AtAll K H vs ps → At K H (.ref a) (.node k ps)
inductive AtAll (K : PySem.W.Frag) (H : Hp) : List V → List Pl → Prop
  | nil : AtAll K H [] []
  | cons {v : V} {vs : List V} {p : Pl} {ps : List Pl} : At K H v p → AtAll K H vs ps → AtAll K H (v :: vs) (p :: ps)
end
/-- the tuples stay -/
def Tk (H H' : Hp) : Prop := ∀ a xs, Rd H a (.tup xs) → Rd H' a (.tup xs)
theorem Tk.refl {H : Hp} : Tk H H := fun _ _ h => h
theorem Tk.trans {H H1 H2 : Hp} (a : Tk H H1) (b : Tk H1 H2) : Tk H H2 := fun p xs h => b p xs (a p xs h)
theorem Tk.seq {K : PySem.W.Frag} {H H' : Hp} {a : Addr} {xs : List V} (t : Tk H H') (h : SqT K H a xs) : SqT K H' a xs := h.imp (t a xs) id
theorem stk {H H' : Hp} (s : Same H H') : Tk H H' := fun a xs h => h.imp (s a _) fun ⟨o, e⟩ => ⟨o, s a _ e⟩
theorem Gr.tk {d : Addr} {H H' : Hp} (g : Gr d H H') (D : D3 H d) : Tk H H' := fun a xs h => by
  obtain ⟨x, b, c, e⟩ := D
  rcases h with h | ⟨o, h⟩
  · exact .inl (g.keep a _ (fun z => by rw [z, e] at h; cases h) h)
  · exact .inr ⟨o, g.keep a _ (fun z => by rw [z, e] at h; cases h) h⟩
theorem Tk.new {H : Hp} {l : Addr} {o : HO} (n : H l = none) : Tk H (upd H l o) := stk (same_new n)
theorem Tk.put {H : Hp} {l : Addr} {xs ys : List V} (e : H l = some (.lst xs)) : Tk H (upd H l (.lst ys)) := fun a zs h => by
  have n : a ≠ l := fun z => by
    rw [z] at h
    rcases h with h | ⟨o, h⟩
    · rw [e] at h; cases h
    · rw [e] at h; cases h
  rcases h with h | ⟨o, h⟩
  · exact .inl (by rw [upd_ne n]; exact h)
  · exact .inr ⟨o, by rw [upd_ne n]; exact h⟩
mutual
theorem At.tk {K : PySem.W.Frag} {H H' : Hp} (t : Tk H H') : ∀ {v : V} {p : Pl}, At K H v p → At K H' v p
  | _, _, .leaf h o => .leaf (t.seq h) o
  | _, _, .node h1 h2 o a b r => .node (t.seq h1) (t.seq h2) o a b (AtAll.tk t r)
theorem AtAll.tk {K : PySem.W.Frag} {H H' : Hp} (t : Tk H H') : ∀ {vs : List V} {ps : List Pl}, AtAll K H vs ps → AtAll K H' vs ps
  | _, _, .nil => .nil
  | _, _, .cons h r => .cons (At.tk t h) (AtAll.tk t r)
end
theorem AtAll.length {K : PySem.W.Frag} {H : Hp} : ∀ {vs : List V} {ps : List Pl}, AtAll K H vs ps → vs.length = ps.length
  | _, _, .nil => rfl
  | _, _, .cons _ r => by rw [List.length_cons, List.length_cons, r.length]
theorem AtAll.get {K : PySem.W.Frag} {H : Hp} : ∀ {vs : List V} {ps : List Pl}, AtAll K H vs ps → ∀ {i : Nat} {v : V}, vs[i]? = some v → ∃ p, ps[i]? = some p ∧ At K H v p
  | _, _, .nil, i, v, h => by simp at h
  | _, _, .cons (v := x) (p := p) hp r, 0, v, h => by
    cases (show some x = some v from h)
    exact ⟨p, rfl, hp⟩
  | _, _, .cons hp r, i + 1, v, h => r.get (i := i) h
theorem AtAll.snoc {K : PySem.W.Frag} {H : Hp} : ∀ {vs : List V} {ps : List Pl} {v : V} {p : Pl}, AtAll K H vs ps → At K H v p → AtAll K H (vs ++ [v]) (ps ++ [p])
  | _, _, _, _, .nil, h => .cons h .nil
  | _, _, _, _, .cons h r, h' => .cons h (r.snoc h')
theorem nodesAll_append : ∀ (ps qs : List Pl), nodesAll (ps ++ qs) = nodesAll ps ++ nodesAll qs
  | [], qs => by rw [List.nil_append, nodesAll, List.nil_append]
  | p :: ps, qs => by rw [List.cons_append, nodesAll, nodesAll, nodesAll_append ps qs, List.append_assoc]
theorem nodesOf_pos (p : Pl) : 0 < (nodesOf p).length := by
  cases p with
  | leaf k t => rw [nodesOf]; exact Nat.one_pos
  | node k ps => rw [nodesOf]; exact Nat.succ_pos _
theorem nodesOf_get : ∀ {ps : List Pl} {i : Nat} {p : Pl}, ps[i]? = some p → (nodesOf p).length ≤ (nodesAll ps).length
  | [], _, _, h => by simp at h
  | q :: ps, 0, p, h => by
    cases (show some q = some p from h)
    rw [nodesAll, List.length_append]
    omega
  | q :: ps, i + 1, p, h => by
    have := nodesOf_get (ps := ps) (i := i) h
    rw [nodesAll, List.length_append]
    omega
theorem nodesAll_take : ∀ {ps : List Pl} {i : Nat} {p : Pl}, ps[i]? = some p → nodesAll (ps.take (i + 1)) = nodesAll (ps.take i) ++ nodesOf p
  | [], _, _, h => by simp at h
  | q :: ps, 0, p, h => by
    cases (show some q = some p from h)
    show nodesAll [q] = nodesAll [] ++ nodesOf q
    show nodesOf q ++ nodesAll [] = [] ++ nodesOf q
    rw [show nodesAll [] = [] from by rw [nodesAll], List.append_nil, List.nil_append]
  | q :: ps, i + 1, p, h => by
    show nodesAll (q :: ps.take (i + 1)) = nodesAll (q :: ps.take i) ++ nodesOf p
    rw [nodesAll, nodesAll, nodesAll_take (ps := ps) (i := i) h, List.append_assoc]
/-- nodes as they stand: pairs -/
inductive NdsAt (K : PySem.W.Frag) (H : Hp) : List V → List (Str × V) → Prop
  | nil : NdsAt K H [] []
  | cons {a : Addr} {k : Str} {t : V} {vs : List V} {ns : List (Str × V)} : SqT K H a [.str k, t] → NdsAt K H vs ns → NdsAt K H (.ref a :: vs) ((k, t) :: ns)
theorem NdsAt.tk {K : PySem.W.Frag} {H H' : Hp} (t : Tk H H') : ∀ {vs : List V} {ns : List (Str × V)}, NdsAt K H vs ns → NdsAt K H' vs ns
  | _, _, .nil => .nil
  | _, _, .cons h r => .cons (t.seq h) (r.tk t)
theorem NdsAt.length {K : PySem.W.Frag} {H : Hp} : ∀ {vs : List V} {ns : List (Str × V)}, NdsAt K H vs ns → vs.length = ns.length
  | _, _, .nil => rfl
  | _, _, .cons _ r => by rw [List.length_cons, List.length_cons, r.length]
theorem NdsAt.app {K : PySem.W.Frag} {H : Hp} : ∀ {vs us : List V} {ns ms : List (Str × V)}, NdsAt K H vs ns → NdsAt K H us ms → NdsAt K H (vs ++ us) (ns ++ ms)
  | _, _, _, _, .nil, h => h
  | _, _, _, _, .cons h r, h' => .cons h (r.app h')
theorem NdsAt.get {K : PySem.W.Frag} {H : Hp} : ∀ {vs : List V} {ns : List (Str × V)}, NdsAt K H vs ns → ∀ {i : Nat} {v : V}, vs[i]? = some v → ∃ a k t, v = .ref a ∧ ns[i]? = some (k, t) ∧ SqT K H a [.str k, t]
  | _, _, .nil, i, v, h => by simp at h
  | _, _, .cons (a := a) (k := k) (t := t) hp r, 0, v, h => by
    cases (show some (V.ref a) = some v from h)
    exact ⟨a, k, t, rfl, rfl, hp⟩
  | _, _, .cons hp r, i + 1, v, h => r.get (i := i) h
def isLeaf : Pl → Bool
  | .leaf _ _ => true
  | .node _ _ => false
def leafKinds : List Str := ["fact", "not", "yes", "no"]
theorem leaf_kind {k : Str} {t : V} (h : leafOk k t = true) : leafKinds.contains k = true := by
  unfold leafOk at h
  cases t with
  | str z =>
    rcases (Bool.or_eq_true _ _).mp h with h | h
    · rw [eq_of_beq h]; decide +kernel
    · rw [eq_of_beq h]; decide +kernel
  | int i =>
    rcases (Bool.or_eq_true _ _).mp ((Bool.and_eq_true _ _).mp h).1 with h | h
    · rw [eq_of_beq h]; decide +kernel
    · rw [eq_of_beq h]; decide +kernel
  | _ => cases h
theorem node_cases {k : Str} (h : nodeOk k = true) : k = "all" ∨ k = "some" ∨ k = "mine" ∨ k = "yours" := by
  unfold nodeOk nodeKinds at h
  rw [List.contains_iff_mem] at h
  simpa only [List.mem_cons, List.not_mem_nil, or_false] using h
theorem node_kind {k : Str} (h : nodeOk k = true) : leafKinds.contains k = false := by
  rcases node_cases h with rfl | rfl | rfl | rfl <;> decide +kernel
theorem inV_strs (k : Str) (ws : List Str) : inV (.str k) (ws.map V.str) = ws.contains k := by
  unfold inV
  rw [List.any_map, List.contains_eq_any_beq]
  congr 1
  funext z
  show (z == k) = (k == z)
  rw [Bool.eq_iff_iff, beq_iff_eq, beq_iff_eq]
  exact eq_comm
section
variable {P : Program} {w : World} {K : PySem.W.Frag} {mg : Str → Option Value} {base : Heap}
def spIsLeaf (K : PySem.W.Frag) : Sp := fun vs H Q _ => ∃ v pl, vs = [v] ∧ At K H v pl ∧ ∀ H', Same H H' → Q (.bl (isLeaf pl)) H'
theorem ok_is_leaf {f : Addr} {fd : FuncData} (F : Fun K "_law_is_leaf" "_law_is_leaf" s__law_is_leaf f fd) (T : Txt mg) : FnOk P w K mg base CX0 1 f fd ["plain"] (spIsLeaf K) := by
  refine F.ok sc__law_is_leaf (fun vs H Q E h => ?_) (fun cdv A outer s H vs Q E hr h => ?_)
  · obtain ⟨v, pl, rfl, _⟩ := h
    rfl
  · obtain ⟨v, pl, rfl, hA, q⟩ := h
    refine ⟨_, (pss_one (ps_ret (pe_cmpR (inQ (K := K) rfl) (pe_ix (ixT (K := K) rfl) (pv 0) pe_int (fun _ _ => rfl)) (pe_lst (pa_cons pe_str (pa_cons pe_str (pa_cons pe_str (pa_cons pe_str pa_nil))))) (by rfl)))), ?_⟩
    obtain ⟨a, k, t, rfl, hk, hb⟩ : ∃ a k t, v = .ref a ∧ SqT K H a [.str k, t] ∧ leafKinds.contains k = isLeaf pl := by
      cases hA with
      | leaf h o => exact ⟨_, _, _, rfl, h, leaf_kind o⟩
      | node h1 _ o _ _ _ => exact ⟨_, _, _, rfl, h1, node_kind o⟩
    refine ⟨_, rfl, a, _, 0, .str k, rfl, rfl, hk, rfl, lenOk 4, fun p np => ?_⟩
    refine ⟨p, leafKinds.map V.str, rfl, .inl (SqL.of upd_same), rfl, flat_strs _, ?_⟩
    rw [inV_strs, hb]
    exact q _ (same_new np)
/-! nodes -/
def spNodes (K : PySem.W.Frag) (n : Nat) : Sp := fun vs H Q _ => ∃ v pl, vs = [v] ∧ At K H v pl ∧ (nodesOf pl).length ≤ n ∧ n < 1000 ∧ ∀ xs p H', Same H H' → H p = none → H' p = some (.lst xs) → NdsAt K H' xs (nodesOf pl) → Q (.ref p) H'
theorem ok_nodes {f fL : Addr} {fd fdL : FuncData} (F : Fun K "_law_nodes" "_law_nodes" s__law_nodes f fd) (T : Txt mg) (C__law_is_leaf : Cal P w K mg base 1 "_law_is_leaf" fL fdL ["plain"] (spIsLeaf K))
    (m : mg "_law_nodes" = some (.ref f)) (kp : PySem.W.keepIn K (.ref f) = true) (b : Binds K fd ["plain"] []) : ∀ n : Nat, FnOk P w K mg base CX0 (n + 1) f fd ["plain"] (spNodes K n)
  | 0 => F.ok sc__law_nodes (fun vs H Q E h => by
      obtain ⟨v, pl, rfl, _⟩ := h
      rfl) (fun cdv A outer s H vs Q E hr h => by
      obtain ⟨v, pl, rfl, _, h0, _⟩ := h
      have := nodesOf_pos pl
      omega)
  | n + 1 => by
    have G := ok_nodes F T C__law_is_leaf m kp b n
    refine F.ok sc__law_nodes (fun vs H Q E h => ?_) (fun cdv A outer s H vs Q E hr h => ?_)
    · obtain ⟨v, pl, rfl, _⟩ := h
      rfl
    · obtain ⟨v, pl, rfl, hA, hn, hn1, q⟩ := h
      have hr1 := hr.mono (j := 1) (by omega)
      refine ⟨_, (pss_cons (ps_if (pt_val (pe_call C__law_is_leaf.G hr1 (by rfl) C__law_is_leaf.m C__law_is_leaf.k C__law_is_leaf.b .nil pass0 (pa_cons (pv 0) pa_nil)))
  (pss_one (ps_ret (pe_lst (pa_cons (pv 0) pa_nil))))
  pss_nil)
  (pss_cons (ps_set (i := 1) sc__law_nodes.nd rfl (.inl rfl) (pe_lst (pa_cons (pe_tup (pa_cons (pe_ix (ixT (K := K) rfl) (pv 0) pe_int (fun _ _ => rfl)) (pa_cons (pe_callB (lenQ (K := K) rfl) (by rfl) T.len_ (by decide +kernel) (pa_cons (pe_ix (ixT (K := K) rfl) (pv 0) pe_int (fun _ _ => rfl)) pa_nil)) pa_nil))) pa_nil)))
  (pss_cons (ps_for PassesOwn.never (by rfl) (pi_tup (pe_ix (ixT (K := K) rfl) (pv 0) pe_int (fun _ _ => rfl))) (pg_name (i := 2) sc__law_nodes.nd rfl (.inl rfl))
  (pss_one (ps_set (i := 1) sc__law_nodes.nd rfl (.inl rfl) (pe_op op_cat (pv 1) (pe_call G hr (by rfl) m kp b .nil pass0 (pa_cons (pv 2) pa_nil))))))
  (pss_one (ps_ret (pv 1)))))), ?_⟩
      refine ⟨_, rfl, v, pl, rfl, hA, fun H1 s1 => ?_⟩
      refine ⟨_, rfl, ?_⟩
      cases hA with
      | leaf h o =>
        rename_i a k t
        refine iteT ?_
        refine ⟨_, rfl, lenOk 1, fun p np => ?_⟩
        have s2 := s1.trans (same_new (o := .lst [V.ref a]) np)
        refine q _ p _ s2 (s1.free np) upd_same ?_
        rw [nodesOf]
        exact .cons ((stk s2).seq h) .nil
      | node h1 h2 o a1 a2 r =>
        rename_i a c k vs ps
        refine iteF ?_
        refine ⟨_, rfl, a, _, 0, .str k, rfl, rfl, (stk s1).seq h1, rfl, _, rfl, a, _, 1, .ref c, rfl, rfl, (stk s1).seq h1, rfl, ?_⟩
        refine .inl ⟨c, vs, rfl, .inr ((stk s1).seq h2), lenOk 2, fun t nt => ⟨lenOk 1, fun l nl => ?_⟩⟩
        have s2 := s1.trans (same_new (o := .tup [.str k, .int (vs.length : Int)]) nt)
        have s3 := s2.trans (same_new (o := .lst [V.ref t]) nl)
        have nlt : l ≠ t := fun e => by rw [e, upd_same] at nl; cases nl
        have nH : H l = none := s2.free nl
        have hlen := r.length
        have hn' : (nodesAll ps).length ≤ n := by
          rw [nodesOf, List.length_cons] at hn
          omega
        refine ⟨_, rfl, a, _, 1, .ref c, rfl, rfl, (stk s3).seq h1, rfl, c, rfl, ⟨vs, (stk s3).seq h2⟩, for_tup (K := K) (a := c) (xs := vs) (fun i σ H2 => ∃ x l xs, σ = [some (.ref a), some (.ref l), x] ∧ Same H H2 ∧ H l = none ∧ H2 l = some (.lst xs) ∧ NdsAt K H2 xs ((k, .int (ps.length : Int)) :: nodesAll (ps.take i))) ?_ (fun i σ H2 _ h => ?_) ?_ ?_⟩
        · refine ⟨none, l, _, rfl, s3, nH, upd_same, ?_⟩
          rw [← hlen]
          have e : (nodesAll (ps.take 0)) = [] := by rw [List.take_zero, nodesAll]
          rw [e]
          exact .cons (SqT.of (by rw [upd_ne nlt.symm]; exact upd_same)) .nil
        · obtain ⟨_, _, _, _, s4, _⟩ := h
          exact (stk s4).seq h2
        · rintro i v2 σ H2 hi ⟨x, l2, xs, rfl, s4, n4, e4, d4⟩
          obtain ⟨p2, hp2, hA2⟩ := r.get hi
          refine ⟨_, rfl, _, rfl, v2, p2, rfl, hA2.tk (stk s4), Nat.le_trans (nodesOf_get hp2) hn', by omega, fun ys p5 H5 s5 n5 e5 d5 => ?_⟩
          have b1 := (d4.tk (stk s5)).length
          have b2 := d5.length
          have b3 := nodesOf_get hp2
          have b4 : (nodesAll (ps.take i)).length ≤ n := by
            have := congrArg List.length (nodesAll_append (ps.take i) (ps.drop i))
            rw [List.take_append_drop, List.length_append] at this
            omega
          rw [List.length_cons] at b1
          refine ⟨l2, p5, xs, ys, rfl, rfl, s5 _ _ e4, e5, Nat.le_of_lt (small (by omega)), fun p6 n6 => ?_⟩
          have s6 := s5.trans (same_new (o := .lst (xs ++ ys)) n6)
          refine ⟨_, p6, _, rfl, s4.trans s6, (s4.trans s5).free n6, upd_same, ?_⟩
          rw [nodesAll_take hp2, ← List.cons_append]
          exact (d4.tk (stk s6)).app (d5.tk (Tk.new n6))
        · rintro σ H2 ⟨x, l2, xs, rfl, s4, n4, e4, d4⟩
          refine ⟨_, rfl, q xs l2 H2 s4 n4 e4 ?_⟩
          rw [nodesOf]
          have e : ps.take vs.length = ps := by rw [hlen]; exact List.take_length
          rw [e] at d4
          exact d4
end
end Eh

set_option Elab.async false
set_option linter.all false
set_option maxRecDepth 100000
namespace Eh
open PySem PySem.Spec PyProof.Rows L2
theorem off_gr {d : Addr} {H H' : Hp} (D : D3 H' d) (k : ∀ b, b ≠ d → H' b = H b) : Gr d H H' := ⟨D, fun a o n e => by rw [k a n]; exact e⟩
theorem same_gr {d : Addr} {H H' : Hp} (D : D3 H d) (s : Same H H') : Gr d H H' := by
  obtain ⟨g, b, c, e⟩ := D
  exact ⟨⟨g, b, c, s _ _ e⟩, fun a o _ z => s a o z⟩
theorem gr_same {d : Addr} {H0 H H' : Hp} (n : H0 d = none) (s : Same H0 H) (g : Gr d H H') : Same H0 H' := fun b o e => g.keep b o (ne_of_none e n) (s b o e)
theorem lenS (n : Nat) {m : Nat} (e : m = n := by rfl) (h : n < 1000000 := by decide) : m ≤ sizeLine := by
  rw [e]
  exact Nat.le_of_lt (small h)
theorem iteT' {c : Bool} {A B : Prop} (e : c = true) (h : A) : if c = true then A else B := by
  rw [if_pos e]
  exact h
theorem iteF' {c : Bool} {A B : Prop} (e : c = false) (h : B) : if c = true then A else B := by
  rw [e]
  exact iteF h
/-- how many nodes are of some kinds -/
def countIn (ws : List Str) (ns : List (Str × V)) : Nat := (ns.filter fun n => ws.contains n.1).length
theorem countIn_app (ws : List Str) (a b : List (Str × V)) : countIn ws (a ++ b) = countIn ws a + countIn ws b := by
  unfold countIn
  rw [List.filter_append, List.length_append]
theorem countIn_le (ws : List Str) (a : List (Str × V)) : countIn ws a ≤ a.length := List.length_filter_le _ _
theorem countIn_one (ws : List Str) (k : Str) (u : V) : countIn ws [(k, u)] = if ws.contains k = true then 1 else 0 := by
  unfold countIn
  rw [List.filter_cons]
  show (if ws.contains k = true then _ else _ : List (Str × V)).length = _
  split <;> rfl
theorem take_succ' {α : Type} {l : List α} {j : Nat} {c : α} (h : l[j]? = some c) : l.take (j + 1) = l.take j ++ [c] := by
  rw [List.take_add_one, h]
  rfl
/-- its words are among some -/
def InW (ws : List Str) (ns : List (Str × V)) : Prop := ∀ k z, (k, V.str z) ∈ ns → z ∈ ws
section
variable {P : Program} {w : World} {K : PySem.W.Frag} {mg : Str → Option Value} {base : Heap}
def spCount (K : PySem.W.Frag) (n : Nat) : Sp := fun vs H Q _ => ∃ v pl a ws, vs = [v, .ref a] ∧ At K H v pl ∧ SqL K H a (ws.map V.str) ∧ (nodesOf pl).length ≤ n ∧ n < 1000 ∧ ∀ H', Same H H' → Q (.int (countIn ws (nodesOf pl))) H'
theorem ok_count {n : Nat} {f fN : Addr} {fd fdN : FuncData} (F : Fun K "_law_count" "_law_count" s__law_count f fd) (T : Txt mg) (C__law_nodes : Cal P w K mg base (n + 1) "_law_nodes" fN fdN ["plain"] (spNodes K n)) :
    FnOk P w K mg base CX0 (n + 2) f fd ["plain", "kinds"] (spCount K n) := by
  refine F.ok sc__law_count (fun vs H Q E h => ?_) (fun cdv A outer s H vs Q E hr h => ?_)
  · obtain ⟨v, pl, a, ws, rfl, _⟩ := h
    rfl
  · obtain ⟨v, pl, a, ws, rfl, hA, hS, hn, hn1, q⟩ := h
    refine ⟨_, (pss_one (ps_ret (pe_callB (lenQ (K := K) rfl) (by rfl) T.len_ (by decide +kernel) (pa_cons (pe_lc (own := [("node", 2)]) (g := gName 2) (by rfl) sc__law_count.nd (piL (K := K) rfl (pe_call C__law_nodes.G hr (by rfl) C__law_nodes.m C__law_nodes.k C__law_nodes.b .nil pass0 (pa_cons (pv 0) pa_nil))) (blkOk_by (by kernel_rfl)) (fun _ _ _ _ _ => (pg_name (i := 2) sc__law_count.nd rfl (.inl rfl))) (fun _ _ _ _ _ => (pts_one (pt_cmpR (inQ (K := K) rfl) (pe_ix (ixT (K := K) rfl) (pv 2) pe_int (fun _ _ => rfl)) (pv 1) (by rfl)))) (fun _ _ _ _ _ => (pv 2))) pa_nil)))), ?_⟩
    refine ⟨_, rfl, v, pl, rfl, hA, hn, hn1, fun xs p H1 s1 n1 e1 d1 => ?_⟩
    refine ⟨p, rfl, ⟨xs, SqL.of e1⟩, fun D nD => ?_⟩
    have s2 := s1.trans (same_new (o := .lst []) nD)
    have nDH : H D = none := s1.free nD
    have npD : p ≠ D := ne_of_none e1 nD
    have hl := d1.length
    refine lcL (fun j acc H2 => Same H H2 ∧ H2 p = some (.lst xs) ∧ NdsAt K H2 xs (nodesOf pl) ∧ acc.length = countIn ws ((nodesOf pl).take j)) ⟨s2, by rw [upd_ne npD]; exact e1, d1.tk (Tk.new nD), rfl⟩ (fun j acc H2 h => SqL.of h.2.1) ?_ ?_
    · rintro j x acc H2 hx hl2 e2 ⟨s3, e3, d3, ea⟩
      obtain ⟨t, k, u, rfl, hk, ht⟩ := d3.get hx
      have hj : j < 1000 := by
        have := (List.getElem?_eq_some_iff.mp hx).1
        omega
      refine ⟨_, rfl, t, _, 0, .str k, rfl, rfl, ht, rfl, _, rfl, a, ws.map V.str, rfl, .inl (s3.seq hS), rfl, flat_strs _, _, rfl, ?_⟩
      rw [inV_strs]
      have et : countIn ws ((nodesOf pl).take (j + 1)) = countIn ws ((nodesOf pl).take j) + countIn ws [(k, u)] := by rw [take_succ' hk, countIn_app]
      cases ek : ws.contains k with
      | true =>
        refine iteT ⟨_, rfl, ?_⟩
        refine LcK.mk hl2 (by omega) e2 ⟨fun b o eb => ?_, ?_, d3.tk (Tk.put e2), ?_⟩
        · rw [upd_ne (ne_of_none eb nDH)]
          exact s3 b o eb
        · rw [upd_ne npD]
          exact e3
        · rw [List.length_append, ea, et]
          rw [countIn_one, if_pos ek]
          rfl
      | false =>
        refine iteF ⟨acc, by omega, e2, s3, e3, d3, ?_⟩
        rw [ea, et]
        rw [countIn_one, if_neg (by rw [ek]; exact Bool.false_ne_true)]
        rfl
    · rintro acc H2 hl2 e2 ⟨s3, e3, d3, ea⟩
      refine .inl ⟨D, acc, rfl, .inl (SqL.of e2), ?_⟩
      rw [hl, List.take_length] at ea
      rw [ea]
      exact q H2 s3
/-! leaf -/
def spLeaf (K : PySem.W.Frag) : Sp := fun vs H Q _ => ∃ d a ws, vs = [.ref d, .ref a] ∧ D3 H d ∧ SqL K H a (ws.map V.str) ∧ a ≠ d ∧ 0 < ws.length ∧ ws.length < 1000000 ∧
  ∀ v k t H', Gr d H H' → At K H' v (.leaf k t) → InW ws [(k, t)] → Q v H'
theorem ok_leaf {f fR fP : Addr} {fd fdR fdP : FuncData} (F : Fun K "_law_leaf" "_law_leaf" s__law_leaf f fd) (T : Txt mg) (C__law_roll : Cal P w K mg base 1 "_law_roll" fR fdR ["dice", "many"] spRoll)
    (C__law_pick : Cal P w K mg base 2 "_law_pick" fP fdP ["dice", "items"] (spPick K)) : FnOk P w K mg base CX0 3 f fd ["dice", "words"] (spLeaf K) := by
  refine F.ok sc__law_leaf (fun vs H Q E h => ?_) (fun cdv A outer s H vs Q E hr h => ?_)
  · obtain ⟨d, a, ws, rfl, _⟩ := h
    rfl
  · obtain ⟨d, a, ws, rfl, D, hS, hn, h0, h1, q⟩ := h
    have hr1 := hr.mono (j := 1) (by omega)
    refine ⟨_, (pss_cons (ps_set (i := 2) sc__law_leaf.nd rfl (.inl rfl) (pe_call C__law_roll.G hr1 (by rfl) C__law_roll.m C__law_roll.k C__law_roll.b .nil pass0 (pa_cons (pv 0) (pa_cons pe_int pa_nil))))
  (pss_cons (ps_if (pt_cmpR op_lt (pv 2) pe_int (nomark _))
  (pss_one (ps_ret (pe_ix (ixL (K := K) rfl) (pe_lst (pa_cons (pe_tup (pa_cons pe_str (pa_cons pe_int pa_nil))) (pa_cons (pe_tup (pa_cons pe_str (pa_cons pe_int pa_nil))) pa_nil))) (pv 2) (fun _ _ => rfl))))
  pss_nil)
  (pss_one (ps_ret (pe_tup (pa_cons (pe_ix (ixL (K := K) rfl) (pe_lst (pa_cons pe_str (pa_cons pe_str pa_nil))) (pe_op op_modN (pv 2) pe_int) (fun _ _ => rfl)) (pa_cons (pe_call C__law_pick.G hr (by rfl) C__law_pick.m C__law_pick.k C__law_pick.b .nil pass0 (pa_cons (pv 0) (pa_cons (pv 1) pa_nil))) pa_nil))))))), ?_⟩
    refine ⟨_, rfl, d, 9, rfl, D, by decide, by decide, fun r H1 r0 r1 D1 k1 => ?_⟩
    have g1 := off_gr (H := H) D1 k1
    refine ⟨_, rfl, r, 2, rfl, rfl, _, rfl, ite2 (fun hlt => ?_) (fun _ => ?_)⟩
    · have hlt : r < 2 := of_decide_eq_true hlt
      refine ⟨lenOk 2, fun t1 n1 => ⟨lenOk 2, fun t2 n2 => ⟨lenOk 2, fun l n3 => ?_⟩⟩⟩
      have a1 := Gr.laid (o := .tup [.str "yes", .int 0]) g1.dice n1
      have a2 := Gr.laid (o := .tup [.str "no", .int 0]) a1.dice n2
      have a3 := Gr.laid (o := .lst [.ref t1, .ref t2]) a2.dice n3
      have n12 : t1 ≠ t2 := ne_of_none (upd_same) n2
      have n13 : t1 ≠ l := ne_of_none (H := upd (upd H1 t1 _) t2 _) (by rw [upd_ne n12]; exact upd_same) n3
      have n23 : t2 ≠ l := ne_of_none upd_same n3
      have r01 : r = 0 ∨ r = 1 := by omega
      rcases r01 with rfl | rfl
      · refine ⟨_, rfl, l, _, 0, _, rfl, rfl, SqL.of upd_same, rfl, q _ "yes" (.int 0) _ (g1.trans (a1.trans (a2.trans a3))) (.leaf (SqT.of ?_) (by decide +kernel)) (fun k z hz => ?_)⟩
        · rw [upd_ne n13, upd_ne n12]
          exact upd_same
        · rw [List.mem_singleton] at hz
          cases hz
      · refine ⟨_, rfl, l, _, 1, _, rfl, rfl, SqL.of upd_same, rfl, q _ "no" (.int 0) _ (g1.trans (a1.trans (a2.trans a3))) (.leaf (SqT.of ?_) (by decide +kernel)) (fun k z hz => ?_)⟩
        · rw [upd_ne n23]
          exact upd_same
        · rw [List.mem_singleton] at hz
          cases hz
    · refine ⟨lenOk 2, fun l n1 => ?_⟩
      have a1 := Gr.laid (o := .lst [.str "fact", .str "not"]) g1.dice n1
      refine ⟨_, rfl, _, _, rfl, rfl, (show (2 : Int) ≠ 0 by decide), ?_⟩
      have b0 := fmod_in (i := r) (m := 2) (by decide)
      obtain ⟨k, ek, hk⟩ : ∃ k, atI [V.str "fact", .str "not"] (r.fmod 2) = some (.str k) ∧ (k = "fact" ∨ k = "not") := by
        have : r.fmod 2 = 0 ∨ r.fmod 2 = 1 := by omega
        rcases this with e | e
        · exact ⟨"fact", by rw [e]; rfl, .inl rfl⟩
        · exact ⟨"not", by rw [e]; rfl, .inr rfl⟩
      have g2 := g1.trans a1
      refine ⟨l, _, _, _, rfl, rfl, SqL.of upd_same, ek, _, rfl, _, rfl, d, a, ws.map V.str, rfl, g2.dice, g2.seq hn hS, hn, by rw [List.length_map]; exact h0, by rw [List.length_map]; exact h1, fun x H3 hx D3' k3 => ?_⟩
      obtain ⟨z, hz, rfl⟩ := List.mem_map.mp hx
      have g3 := g2.trans (off_gr D3' k3)
      refine ⟨lenOk 2, fun t nt => ?_⟩
      refine q _ k (.str z) _ (g3.trans (Gr.laid D3' nt)) (.leaf (SqT.of upd_same) ?_) (fun k2 z2 h2 => ?_)
      · rcases hk with rfl | rfl <;> rfl
      · rw [List.mem_singleton] at h2
        cases h2
        exact hz
end
end Eh

set_option Elab.async false
set_option linter.all false
set_option maxRecDepth 100000
namespace Eh
open PySem PySem.Spec PyProof.Rows L2
/-- two ways that come together -/
theorem join2 {α β : Type} {C Pm : α → β → Prop} {c : Bool} {A B : Prop} (ha : c = true → (∀ x y, C x y → Pm x y) → A) (hb : c = false → (∀ x y, C x y → Pm x y) → B) (tail : ∀ x y, C x y → Pm x y) : if c = true then A else B := by
  cases c with
  | true => exact iteT (ha rfl tail)
  | false => exact iteF (hb rfl tail)
theorem atI_last {xs : List V} {v : V} : atI (xs ++ [v]) (-1) = some v := by
  have h : xs.length < (xs ++ [v]).length := by rw [List.length_append]; exact Nat.lt_succ_self _
  unfold atI ixN
  rw [if_neg (by omega), if_pos (by rw [List.length_append, List.length_singleton]; omega)]
  have e : ((-1 : Int) + ((xs ++ [v]).length : Int)).toNat = xs.length := by
    rw [List.length_append, List.length_singleton]
    omega
  show (xs ++ [v])[_]? = _
  first
    | rw [e]
    | rw [show (((xs ++ [v]).length : Int) + -1).toNat = xs.length from by rw [List.length_append, List.length_singleton]; omega]
  exact List.getElem?_concat_length
end Eh

set_option Elab.async false
set_option linter.all false
set_option maxRecDepth 100000
namespace Eh
open PySem PySem.Spec PyProof.Rows L2
def choiceKinds : List Str := ["mine", "yours"]
theorem InW.app {ws : List Str} {a b : List (Str × V)} (h : InW ws a) (k : InW ws b) : InW ws (a ++ b) := fun x z hz => (List.mem_append.mp hz).elim (h x z) (k x z)
theorem InW.nil {ws : List Str} : InW ws [] := fun _ _ h => nomatch h
theorem Gr.ne {d l : Addr} {H : Hp} {xs : List V} (D : D3 H d) (n : H l = none) : l ≠ d := D.ne n
theorem choice_node {k : Str} (h : choiceKinds.contains k = true) : nodeOk k = true := by
  unfold choiceKinds at h
  rw [List.contains_iff_mem] at h
  simp only [List.mem_cons, List.not_mem_nil, or_false] at h
  rcases h with rfl | rfl <;> decide +kernel
theorem iteC {K' : VK} {σ : L2.St} {H : Hp} {a b : V} {c : Bool} (h : ∀ v, (c = true → v = a) → (c = false → v = b) → tC v σ H K') : if c = true then tC a σ H K' else tC b σ H K' := by
  cases c with
  | true => exact iteT (h a (fun _ => rfl) (fun e => nomatch e))
  | false => exact iteF (h b (fun e => nomatch e) (fun _ => rfl))
section
variable {P : Program} {w : World} {K : PySem.W.Frag} {mg : Str → Option Value} {base : Heap}
def spDrawn (K : PySem.W.Frag) (n : Nat) : Sp := fun vs H Q _ => ∃ (d a : Addr) (ws : List Str) (most choices : Int), vs = [.ref d, .ref a, .int most, .int choices] ∧ D3 H d ∧ SqL K H a (ws.map V.str) ∧ a ≠ d ∧ 0 < ws.length ∧ ws.length < 1000000 ∧
  1 ≤ most ∧ most ≤ n ∧ n < 900 ∧ 0 ≤ choices ∧ choices < 100000 ∧
  ∀ v pl H', Gr d H H' → At K H' v pl → InW ws (nodesOf pl) → ((nodesOf pl).length : Int) ≤ most → (countIn choiceKinds (nodesOf pl) : Int) ≤ choices → Q v H'
theorem ok_drawn {N : Nat} (hNb : N < 1000) {f fR fP fL fN fC : Addr} {fd fdR fdP fdL fdN fdC : FuncData} (F : Fun K "_law_drawn" "_law_drawn" s__law_drawn f fd) (T : Txt mg) (C__law_roll : Cal P w K mg base 1 "_law_roll" fR fdR ["dice", "many"] spRoll)
    (C__law_pick : Cal P w K mg base 2 "_law_pick" fP fdP ["dice", "items"] (spPick K)) (C__law_leaf : Cal P w K mg base 3 "_law_leaf" fL fdL ["dice", "words"] (spLeaf K)) (C__law_nodes : Cal P w K mg base (N + 1) "_law_nodes" fN fdN ["plain"] (spNodes K N))
    (C__law_count : Cal P w K mg base (N + 2) "_law_count" fC fdC ["plain", "kinds"] (spCount K N)) (m : mg "_law_drawn" = some (.ref f)) (kp : PySem.W.keepIn K (.ref f) = true) (b : Binds K fd ["dice", "words", "most", "choices"] []) :
    ∀ n : Nat, n ≤ N → FnOk P w K mg base CX0 (N + 3 + n) f fd ["dice", "words", "most", "choices"] (spDrawn K n)
  | 0, _ => F.ok sc__law_drawn (fun vs H Q E h => by
      obtain ⟨d, a, ws, most, choices, rfl, _⟩ := h
      rfl) (fun cdv A outer s H vs Q E hr h => by
      obtain ⟨d, a, ws, most, choices, rfl, _, _, _, _, _, h1, h2, _⟩ := h
      omega)
  | n + 1, hN => by
    have G := ok_drawn hNb F T C__law_roll C__law_pick C__law_leaf C__law_nodes C__law_count m kp b n (by omega)
    refine F.ok sc__law_drawn (fun vs H Q E h => ?_) (fun cdv A outer s H vs Q E hr h => ?_)
    · obtain ⟨d, a, ws, most, choices, rfl, _⟩ := h
      rfl
    · obtain ⟨d, a, ws, most, choices, rfl, D, hS, hn, hw0, hw1, hm1, hm2, hn9, hc0, hc1, q⟩ := h
      have hr : Room (N + 3 + n) _ := hr
      have hr0 := hr.mono (j := 1) (by omega)
      have hr2 := hr.mono (j := 2) (by omega)
      have hr3 := hr.mono (j := 3) (by omega)
      have hrN := hr.mono (j := N + 1) (by omega)
      have hrC := hr.mono (j := N + 2) (by omega)
      have hrG := hr.mono (j := N + 3 + n) (by omega)
      refine ⟨_, (pss_cons (ps_if (PW.pt (pw_or (pt_cmpR op_lt (pv 2) pe_int (nomark _)) (pw_or1 (pt_cmpR op_eq (pe_call C__law_roll.G hr0 (by rfl) C__law_roll.m C__law_roll.k C__law_roll.b .nil pass0 (pa_cons (pv 0) (pa_cons pe_int pa_nil))) pe_int (nomark _)))))
  (pss_one (ps_ret (pe_call C__law_leaf.G hr3 (by rfl) C__law_leaf.m C__law_leaf.k C__law_leaf.b .nil pass0 (pa_cons (pv 0) (pa_cons (pv 1) pa_nil)))))
  pss_nil)
  (pss_cons (ps_set (i := 4) sc__law_drawn.nd rfl (.inl rfl) (pe_call C__law_pick.G hr2 (by rfl) C__law_pick.m C__law_pick.k C__law_pick.b .nil pass0 (pa_cons (pv 0) (pa_cons (pe_op op_cat (pe_lst (pa_cons pe_str (pa_cons pe_str pa_nil))) (pe_ifExp (pt_cmpR op_gt (pv 3) pe_int (nomark _)) (pe_op op_rep (pe_lst (pa_cons pe_str (pa_cons pe_str pa_nil))) pe_int) (pe_lst pa_nil))) pa_nil))))
  (pss_cons (ps_set (i := 5) sc__law_drawn.nd rfl (.inl rfl) (pe_ifExp (pt_cmpR op_lt (pv 2) pe_int (nomark _)) pe_int (pe_call C__law_pick.G hr2 (by rfl) C__law_pick.m C__law_pick.k C__law_pick.b .nil pass0 (pa_cons (pv 0) (pa_cons (pe_lst (pa_cons pe_int (pa_cons pe_int (pa_cons pe_int (pa_cons pe_int pa_nil))))) pa_nil)))))
  (pss_cons (ps_par (i := 6) (j := 7) (by rfl) sc__law_drawn.nd rfl rfl (by decide) (by rfl) (by rfl) (pa_cons (pe_op op_sub (pv 3) (pe_ifExp (pt_cmpR (inQ (K := K) rfl) (pv 4) (pe_lst (pa_cons pe_str (pa_cons pe_str pa_nil))) (by rfl)) pe_int pe_int)) (pa_cons (pe_lst pa_nil) pa_nil)) (by rfl))
  (pss_cons (ps_set (i := 8) sc__law_drawn.nd rfl (.inl rfl) (pe_op op_sub (pe_op op_sub (pv 2) pe_int) (pv 5)))
  (pss_cons (ps_for PassesOwn.never (by rfl) (pi_range1 (by rfl) T.range_ (pa_cons (pv 5) pa_nil)) (pg_name (i := 9) sc__law_drawn.nd rfl (.inl rfl))
  (pss_cons (ps_set (i := 10) sc__law_drawn.nd rfl (.inl rfl) (pe_ifExp (pt_cmpR op_lt (pv 9) (pe_op op_sub (pv 5) pe_int) (nomark _)) (pe_call C__law_pick.G hr2 (by rfl) C__law_pick.m C__law_pick.k C__law_pick.b .nil pass0 (pa_cons (pv 0) (pa_cons (pe_lst (pa_cons pe_int (pa_cons (pe_op op_fdivN (pv 8) pe_int) (pa_cons (pv 8) pa_nil)))) pa_nil))) (pv 8)))
  (pss_cons (ps_set (i := 11) sc__law_drawn.nd rfl (.inl rfl) (pe_ifExp (pt_cmpR op_lt (pv 9) (pe_op op_sub (pv 5) pe_int) (nomark _)) (pe_call C__law_roll.G hr0 (by rfl) C__law_roll.m C__law_roll.k C__law_roll.b .nil pass0 (pa_cons (pv 0) (pa_cons (pe_op op_add (pv 6) pe_int) pa_nil))) (pv 6)))
  (pss_cons (ps_expr (bmK (K := K) rfl (pe_bm PySem.F.plainAttrs_list PySem.F.slot_list_append PySem.F.type_list_append mt_append (pv 7) (pa_cons (pe_call G hrG (by rfl) m kp b .nil pass0 (pa_cons (pv 0) (pa_cons (pv 1) (pa_cons (pe_op op_add pe_int (pv 10)) (pa_cons (pv 11) pa_nil))))) pa_nil))))
  (pss_cons (ps_set (i := 8) sc__law_drawn.nd rfl (.inl rfl) (pe_op op_add (pe_op op_sub (pv 8) (pe_callB (lenQ (K := K) rfl) (by rfl) T.len_ (by decide +kernel) (pa_cons (pe_call C__law_nodes.G hrN (by rfl) C__law_nodes.m C__law_nodes.k C__law_nodes.b .nil pass0 (pa_cons (pe_ix (ixL (K := K) rfl) (pv 7) (pe_un un_neg pe_int) (fun _ _ => rfl)) pa_nil)) pa_nil))) pe_int))
  (pss_one (ps_set (i := 6) sc__law_drawn.nd rfl (.inl rfl) (pe_op op_sub (pv 6) (pe_call C__law_count.G hrC (by rfl) C__law_count.m C__law_count.k C__law_count.b .nil pass0 (pa_cons (pe_ix (ixL (K := K) rfl) (pv 7) (pe_un un_neg pe_int) (fun _ _ => rfl)) (pa_cons (pe_lst (pa_cons pe_str (pa_cons pe_str pa_nil))) pa_nil)))))))))))
  (pss_one (ps_ret (pe_tup (pa_cons (pv 4) (pa_cons (pe_callTy call_tuple_of (by rfl) T.tuple_ (by decide +kernel) (pa_cons (pv 7) pa_nil)) pa_nil))))))))))), ?_⟩
      have leafK : ∀ H1, Gr d H H1 → ∃ d' a' ws', [V.ref d, V.ref a] = [.ref d', .ref a'] ∧ D3 H1 d' ∧ SqL K H1 a' (ws'.map V.str) ∧ a' ≠ d' ∧ 0 < ws'.length ∧ ws'.length < 1000000 ∧ ∀ v k t H', Gr d' H1 H' → At K H' v (.leaf k t) → InW ws' [(k, t)] → Q v H' := fun H1 g1 =>
        ⟨d, a, ws, rfl, g1.dice, g1.seq hn hS, hn, hw0, hw1, fun v k t H' g2 hA hw => q v _ H' (g1.trans g2) hA (by rw [nodesOf]; exact hw) (by rw [nodesOf]; exact hm1) (by
          rw [nodesOf, countIn_one, if_neg]
          · exact hc0
          · intro hk
            have := choice_node hk
            cases hA with
            | leaf _ o =>
              have h1 := leaf_kind o
              rw [node_kind this] at h1
              cases h1)⟩
      refine ⟨_, rfl, most, 3, rfl, rfl, _, rfl, ite2 (fun _ => ?_) (fun hm3 => ?_)⟩
      · exact ⟨_, rfl, _, rfl, leafK H (.refl D)⟩
      have hm3 : 3 ≤ most := by
        have := mt decide_eq_true hm3
        omega
      refine ⟨_, rfl, d, 6, rfl, D, by decide, by decide, fun r H1 r0 r1 D1 k1 => ?_⟩
      have g1 := off_gr (H := H) D1 k1
      refine ⟨rfl, _, rfl, ite2 (fun _ => ?_) (fun _ => ?_)⟩
      · exact ⟨_, rfl, _, rfl, leafK H1 g1⟩
      clear leafK
      -- kind
      refine ⟨_, rfl, lenOk 2, fun l1 n1 => ?_⟩
      have a1 := Gr.laid (o := .lst [.str "all", .str "some"]) g1.dice n1
      refine ⟨_, rfl, choices, 0, rfl, rfl, _, rfl, ?_⟩
      refine' join2 (C := fun (k : Str) H' => Gr d H H' ∧ nodeOk k = true ∧ (choiceKinds.contains k = true → 0 < choices)) (ha := ?ha1) (hb := ?hb1) (tail := ?tl1)
      case ha1 =>
        intro hch tail
        have hch : 0 < choices := of_decide_eq_true hch
        refine ⟨lenOk 2, fun l2 n2 => ?_⟩
        have a2 := Gr.laid (o := .lst [.str "mine", .str "yours"]) a1.dice n2
        refine ⟨l2, 2, _, rfl, rfl, upd_same, by decide, by decide, by rw [sizeLine_eq]; show 2 * 2 ≤ _; omega, fun l3 n3 => ?_⟩
        have a3 := Gr.laid (o := .lst (List.replicate (2 : Int).toNat [V.str "mine", .str "yours"]).flatten) a2.dice n3
        have e1 : l1 ≠ d := g1.dice.ne n1
        refine ⟨l1, l3, _, _, rfl, rfl, a3.keep _ _ e1 (a2.keep _ _ e1 upd_same), upd_same, lenS 6, fun l4 n4 => ?_⟩
        have a4 := Gr.laid (o := .lst ([V.str "all", .str "some"] ++ (List.replicate (2 : Int).toNat [V.str "mine", .str "yours"]).flatten)) a3.dice n4
        refine ⟨d, l4, _, rfl, a4.dice, SqL.of upd_same, a3.dice.ne n4, by decide, by decide, fun x H2 hx D2 k2 => ?_⟩
        have hx : x ∈ [V.str "all", .str "some", .str "mine", .str "yours", .str "mine", .str "yours"] := hx
        obtain ⟨k, rfl, hk⟩ : ∃ k, x = .str k ∧ nodeOk k = true := by
          simp only [List.mem_cons, List.not_mem_nil, or_false] at hx
          rcases hx with rfl | rfl | rfl | rfl | rfl | rfl <;> exact ⟨_, rfl, by decide +kernel⟩
        exact tail k H2 ⟨g1.trans (a1.trans (a2.trans (a3.trans (a4.trans (off_gr D2 k2))))), hk, fun _ => hch⟩
      case hb1 =>
        intro hch tail
        refine ⟨Nat.zero_le _, fun l2 n2 => ?_⟩
        have a2 := Gr.laid (o := .lst []) a1.dice n2
        have e1 : l1 ≠ d := g1.dice.ne n1
        refine ⟨l1, l2, _, _, rfl, rfl, a2.keep _ _ e1 upd_same, upd_same, lenS 2, fun l4 n4 => ?_⟩
        have a4 := Gr.laid (o := .lst ([V.str "all", .str "some"] ++ [])) a2.dice n4
        refine ⟨d, l4, _, rfl, a4.dice, SqL.of upd_same, a2.dice.ne n4, by decide, by decide, fun x H2 hx D2 k2 => ?_⟩
        have hx : x ∈ [V.str "all", .str "some"] := hx
        obtain ⟨k, rfl, hk, hk2⟩ : ∃ k, x = .str k ∧ nodeOk k = true ∧ choiceKinds.contains k = false := by
          simp only [List.mem_cons, List.not_mem_nil, or_false] at hx
          rcases hx with rfl | rfl <;> exact ⟨_, rfl, by decide +kernel, by decide +kernel⟩
        exact tail k H2 ⟨g1.trans (a1.trans (a2.trans (a4.trans (off_gr D2 k2)))), hk, fun h => absurd h (by rw [hk2]; exact Bool.false_ne_true)⟩
      clear a1 n1 g1
      intro k H3 ⟨g3, hk, hkc⟩
      -- many
      refine ⟨_, rfl, most, 4, rfl, rfl, _, rfl, ?_⟩
      refine' join2 (C := fun (mm : Int) H' => Gr d H H' ∧ (mm = 2 ∨ (mm = 3 ∧ 4 ≤ most))) (ha := ?ha2) (hb := ?hb2) (tail := ?tl2)
      case hb2 =>
        intro h4 tail
        have h4 : 4 ≤ most := by
          have := of_decide_eq_false h4
          omega
        refine ⟨_, rfl, lenOk 4, fun l1 n1 => ?_⟩
        have a1 := Gr.laid (o := .lst [.int 2, .int 2, .int 2, .int 3]) g3.dice n1
        refine ⟨d, l1, _, rfl, a1.dice, SqL.of upd_same, g3.dice.ne n1, by decide, by decide, fun x H2 hx D2 k2 => ?_⟩
        obtain ⟨mm, rfl, hm⟩ : ∃ mm : Int, x = .int mm ∧ (mm = 2 ∨ mm = 3) := by
          simp only [List.mem_cons, List.not_mem_nil, or_false] at hx
          rcases hx with rfl | rfl | rfl | rfl
          · exact ⟨_, rfl, .inl rfl⟩
          · exact ⟨_, rfl, .inl rfl⟩
          · exact ⟨_, rfl, .inl rfl⟩
          · exact ⟨_, rfl, .inr rfl⟩
        exact tail mm H2 ⟨g3.trans (a1.trans (off_gr D2 k2)), hm.imp id fun e => ⟨e, h4⟩⟩
      case ha2 =>
        intro _ tail
        exact tail 2 H3 ⟨g3, .inl rfl⟩
      clear g3
      intro mm H4 ⟨g4, hmm⟩
      -- left
      refine ⟨_, rfl, _, rfl, lenOk 2, fun l1 n1 => ?_⟩
      have a1 := Gr.laid (o := .lst [.str "mine", .str "yours"]) g4.dice n1
      refine ⟨l1, choiceKinds.map V.str, rfl, .inl (SqL.of upd_same), rfl, flat_strs _, _, rfl, ?_⟩
      refine iteC (fun v e1 e2 => ?_)
      obtain ⟨j, rfl, hj0, hj1, hjc⟩ : ∃ j : Int, v = .int j ∧ 0 ≤ j ∧ j ≤ choices ∧ (choiceKinds.contains k = true → j = 1) := by
        cases hb : choiceKinds.contains k with
        | true => 
          have := hkc hb
          exact ⟨1, e1 ((inV_strs k choiceKinds).trans hb), by omega, by omega, fun _ => rfl⟩
        | false => exact ⟨0, e2 ((inV_strs k choiceKinds).trans hb), by omega, by omega, fun h => nomatch h⟩
      have g5 := g4.trans a1
      show tC (V.int j) _ ?h5 _
      generalize ?h5 = H5 at g5 ⊢
      clear e1 e2 a1 n1 g4
      refine ⟨_, _, rfl, rfl, Nat.zero_le _, fun l n1 => ?_⟩
      have a1 := Gr.laid (o := .lst []) g5.dice n1
      have nl : l ≠ d := g5.dice.ne n1
      have nlH : H l = none := g5.free D n1
      refine ⟨_, _, rfl, ?_⟩
      refine ⟨_, rfl, _, _, rfl, rfl, _, rfl, _, _, rfl, rfl, ?_⟩
      refine ⟨_, rfl, mm, rfl, by omega, by omega, ?_⟩
      have i1 : 2 ≤ mm := by omega
      have i2 : mm ≤ 3 := by omega
      have i3 : 0 ≤ most - 1 - mm := by omega
      refine for_range (lo := 0) (n := mm.toNat) (fun i σ H2 => ∃ (room left : Int) (vs : List V) (ps : List Pl) (x9 x10 x11 : Option V), σ = [some (.ref d), some (.ref a), some (.int most), some (.int choices), some (.str k), some (.int mm), some (.int left), some (.ref l), some (.int room), x9, x10, x11] ∧
        Gr d H H2 ∧ H2 l = some (.lst vs) ∧ AtAll K H2 vs ps ∧ ps.length = i ∧ InW ws (nodesAll ps) ∧ 0 ≤ room ∧ room + (nodesAll ps).length = most - 1 - mm + i ∧ i ≤ (nodesAll ps).length ∧ 0 ≤ left ∧ left + countIn choiceKinds (nodesAll ps) = choices - j) ?_ ?_ ?_
      · exact ⟨_, _, [], [], _, _, _, rfl, g5.trans a1, upd_same, .nil, rfl, (by rw [nodesAll]; exact InW.nil), i3, (by rw [nodesAll]; rfl), Nat.zero_le _, by omega, by rw [nodesAll]; show _ + ((0 : Nat) : Int) = _; omega⟩
      · rintro i σ H6 hi ⟨room, left, vs, ps, x9, x10, x11, rfl, g6, e6, A6, hps, w6, r0, r6, hi6, l0, l6⟩
        have him : (i : Int) < mm := by omega
        have hroom : room ≤ most - 1 - mm := by omega
        have nl0 : l ≠ d := fun e => by
          obtain ⟨u1, u2, u3, e3⟩ := D
          rw [e, e3] at nlH
          cases nlH
        refine ⟨_, rfl, _, rfl, _, _, rfl, rfl, _, _, rfl, rfl, _, rfl, ?_⟩
        refine' join2 (C := fun (more : Int) H' => Gr d H6 H' ∧ 0 ≤ more ∧ more ≤ room) (ha := ?ha4) (hb := ?hb4) (tail := ?tl4)
        case ha4 =>
          intro _ tail
          refine ⟨_, rfl, _, rfl, _, _, rfl, rfl, (show (2 : Int) ≠ 0 ∧ (2 : Int).natAbs < 1073741824 by decide), _, rfl, lenOk 3, fun l1 n1 => ?_⟩
          have a1 := Gr.laid (o := .lst [.int 0, .int (room.fdiv 2), .int room]) g6.dice n1
          refine ⟨d, l1, _, rfl, a1.dice, SqL.of upd_same, g6.dice.ne n1, (show 0 < 3 by decide), (show 3 < 1000000 by decide), fun x H2 hx D2 k2 => ?_⟩
          have hf : room.fdiv 2 = room / 2 := Int.fdiv_eq_ediv_of_nonneg room (by decide)
          obtain ⟨more, rfl, h1, h2⟩ : ∃ more : Int, x = .int more ∧ 0 ≤ more ∧ more ≤ room := by
            simp only [List.mem_cons, List.not_mem_nil, or_false] at hx
            rcases hx with rfl | rfl | rfl
            · exact ⟨0, rfl, by omega, by omega⟩
            · exact ⟨_, rfl, by omega, by omega⟩
            · exact ⟨_, rfl, by omega, by omega⟩
          exact tail more H2 ⟨a1.trans (off_gr D2 k2), h1, h2⟩
        case hb4 =>
          intro _ tail
          exact ⟨_, rfl, tail room H6 ⟨.refl g6.dice, r0, by omega⟩⟩
        intro more H7 ⟨g7, hm0, hm1'⟩
        refine ⟨_, rfl, _, rfl, _, _, rfl, rfl, _, _, rfl, rfl, _, rfl, ?_⟩
        refine' join2 (C := fun (share : Int) H' => Gr d H6 H' ∧ 0 ≤ share ∧ share ≤ left) (ha := ?ha5) (hb := ?hb5) (tail := ?tl5)
        case ha5 =>
          intro _ tail
          refine ⟨_, rfl, _, rfl, _, _, rfl, rfl, d, _, rfl, g7.dice, by omega, by omega, fun r H8 q0 q1 D8 k8 => ?_⟩
          exact tail r H8 ⟨g7.trans (off_gr D8 k8), q0, by omega⟩
        case hb5 =>
          intro _ tail
          exact ⟨_, rfl, tail left H7 ⟨g7, l0, by omega⟩⟩
        intro share H8 ⟨g8, hs0, hs1⟩
        clear g7
        have g68 := g6.trans g8
        refine ⟨_, rfl, .inl ⟨rfl, _, SqL.of (g8.keep _ _ nl0 e6)⟩, _, rfl, _, rfl, _, rfl, _, _, rfl, rfl, _, rfl, ?_⟩
        refine ⟨d, a, ws, _, _, rfl, g68.dice, g68.seq hn hS, hn, hw0, hw1, by omega, by omega, by omega, hs0, by omega, fun v pl H9 g9 A9 w9 s9 c9 => ?_⟩
        have g69 := g8.trans g9
        have e9 := g69.keep _ _ nl0 e6
        have hvs := A6.length
        have tk9 : Tk H6 H9 := g69.tk g6.dice
        refine ⟨l, vs, v, rfl, rfl, e9, small (by omega), ?_⟩
        have tkp : Tk H9 (upd H9 l (.lst (vs ++ [v]))) := Tk.put e9
        have g610 : Gr d H (upd H9 l (.lst (vs ++ [v]))) := (g6.trans g69).put nlH nl0
        have A10 := A9.tk tkp
        have AA := ((A6.tk tk9).tk tkp).snoc A10
        have p1 := nodesOf_pos pl
        refine ⟨_, rfl, _, rfl, _, rfl, l, _, (-1), v, rfl, rfl, SqL.of upd_same, atI_last, v, pl, rfl, A10, by omega, by omega, fun xs p H11 s11 n11 e11 d11 => ?_⟩
        have el : H11 l = some (.lst (vs ++ [v])) := s11 _ _ upd_same
        refine .inl ⟨p, xs, rfl, .inl (SqL.of e11), _, _, rfl, rfl, _, _, rfl, rfl, ?_⟩
        refine ⟨_, rfl, _, rfl, _, rfl, l, _, (-1), v, rfl, rfl, SqL.of el, atI_last, lenOk 2, fun l3 n3 => ?_⟩
        have s12 := s11.trans (same_new (o := .lst [.str "mine", .str "yours"]) n3)
        refine ⟨v, pl, l3, choiceKinds, rfl, A10.tk (stk s12), SqL.of upd_same, by omega, by omega, fun H13 s13 => ?_⟩
        have s14 := s12.trans s13
        have s15 := same_gr g610.dice s14
        have hl := d11.length
        refine ⟨_, _, rfl, rfl, ?_⟩
        have ea : nodesAll (ps ++ [pl]) = nodesAll ps ++ nodesOf pl := by
          rw [nodesAll_append, nodesAll, nodesAll, List.append_nil]
        refine ⟨_, _, vs ++ [v], ps ++ [pl], _, _, _, rfl, g610.trans s15, s14 _ _ upd_same, AA.tk (stk s14), by rw [List.length_append, hps]; rfl, by rw [ea]; exact w6.app w9, ?_, ?_, ?_, ?_, ?_⟩
        · omega
        · rw [ea, List.length_append]
          omega
        · rw [ea, List.length_append]
          omega
        · omega
        · rw [ea, countIn_app]
          omega
      · rintro σ H6 ⟨room, left, vs, ps, x9, x10, x11, rfl, g6, e6, A6, hps, w6, r0, r6, hi6, l0, l6⟩
        refine ⟨_, rfl, _, rfl, l, vs, rfl, .inl ⟨SqL.of e6, fun t nt => ⟨lenOk 2, fun t2 nt2 => ?_⟩⟩⟩
        have a1 := Gr.laid (o := .tup vs) g6.dice nt
        have a2 := Gr.laid (o := .tup [.str k, .ref t]) a1.dice nt2
        have ne : t ≠ t2 := ne_of_none upd_same nt2
        have tk2 : Tk H6 _ := (a1.trans a2).tk g6.dice
        refine q _ (.node k ps) _ (g6.trans (a1.trans a2)) (.node (SqT.of upd_same) (SqT.of (by rw [upd_ne ne]; exact upd_same)) hk (by omega) (by omega) (A6.tk tk2)) ?_ ?_ ?_
        · rw [nodesOf]
          intro x z hz
          rcases List.mem_cons.mp hz with e | e
          · cases e
          · exact w6 x z e
        · rw [nodesOf, List.length_cons]
          omega
        · rw [nodesOf, show (k, V.int (ps.length : Int)) :: nodesAll ps = [(k, V.int (ps.length : Int))] ++ nodesAll ps from rfl, countIn_app, countIn_one]
          split
          · rename_i hc
            have := hjc hc
            omega
          · omega
end
end Eh

set_option Elab.async false
set_option linter.all false
set_option maxRecDepth 100000
namespace Eh
open PySem PySem.Spec PyProof.Rows L2
def inWB (ws : List Str) (ns : List (Str × V)) : Bool := ns.all fun n => match n.2 with
  | .str z => ws.contains z
  | _ => true
theorem inW_of {ws : List Str} {ns : List (Str × V)} (h : inWB ws ns = true) : InW ws ns := fun k z hz => List.contains_iff_mem.mp (List.all_eq_true.mp h _ hz)
def abc : List Str := ["a", "b", "c"]
/-- a known one -/
def Kn (K : PySem.W.Frag) (H : Hp) (x : V) : Prop := ∃ pl, At K H x pl ∧ inWB abc (nodesOf pl) = true ∧ (nodesOf pl).length ≤ 11 ∧ countIn choiceKinds (nodesOf pl) ≤ 4
def KnAll (K : PySem.W.Frag) (H : Hp) (xs : List V) : Prop := ∀ x ∈ xs, Kn K H x
theorem KnAll.tk {K : PySem.W.Frag} {H H' : Hp} {xs : List V} (h : KnAll K H xs) (t : Tk H H') : KnAll K H' xs := fun x hx => by
  obtain ⟨pl, A, r⟩ := h x hx
  exact ⟨pl, A.tk t, r⟩
theorem KnAll.add {K : PySem.W.Frag} {H : Hp} {xs : List V} {x : V} (h : KnAll K H xs) (k : Kn K H x) : KnAll K H (xs ++ [x]) := fun y hy => (List.mem_append.mp hy).elim (h y) fun z => by
  rw [List.mem_singleton.mp z]
  exact k
structure Six (K : PySem.W.Frag) (H : Hp) (va vb vc wa wb wc : V) : Prop where
  a : At K H va (.leaf "fact" (.str "a"))
  b : At K H vb (.leaf "fact" (.str "b"))
  c : At K H vc (.leaf "fact" (.str "c"))
  na : At K H wa (.leaf "not" (.str "a"))
  nb : At K H wb (.leaf "not" (.str "b"))
  nc : At K H wc (.leaf "not" (.str "c"))
theorem Six.tk {K : PySem.W.Frag} {H H' : Hp} {va vb vc wa wb wc : V} (h : Six K H va vb vc wa wb wc) (t : Tk H H') : Six K H' va vb vc wa wb wc := ⟨h.a.tk t, h.b.tk t, h.c.tk t, h.na.tk t, h.nb.tk t, h.nc.tk t⟩
theorem node_new {K : PySem.W.Frag} {d t u : Addr} {H : Hp} {vs : List V} {ps : List Pl} {k : Str} (D : D3 H d) (A : AtAll K H vs ps) (hk : nodeOk k = true) (h2 : 2 ≤ ps.length) (h4 : ps.length ≤ 4) (n : H t = none) (m : (upd H t (.tup vs)) u = none) :
    Gr d H (upd (upd H t (.tup vs)) u (.tup [.str k, .ref t])) ∧ At K (upd (upd H t (.tup vs)) u (.tup [.str k, .ref t])) (.ref u) (.node k ps) := by
  have a1 := Gr.laid (o := .tup vs) D n
  have a2 := Gr.laid (o := .tup [.str k, .ref t]) a1.dice m
  exact ⟨a1.trans a2, .node (SqT.of upd_same) (SqT.of (by rw [upd_ne (ne_of_none upd_same m)]; exact upd_same)) hk h2 h4 (A.tk ((a1.trans a2).tk D))⟩
theorem leaf_new {K : PySem.W.Frag} {d t : Addr} {H : Hp} {k : Str} {v : V} (D : D3 H d) (hk : leafOk k v = true) (n : H t = none) : Gr d H (upd H t (.tup [.str k, v])) ∧ At K (upd H t (.tup [.str k, v])) (.ref t) (.leaf k v) :=
  ⟨.laid D n, .leaf (SqT.of upd_same) hk⟩
section
variable {P : Program} {w : World} {K : PySem.W.Frag} {mg : Str → Option Value} {base : Heap}
def spKnown (K : PySem.W.Frag) : Sp := fun vs H Q _ => ∃ d, vs = [.ref d] ∧ D3 H d ∧ ∀ v pl H', Gr d H H' → At K H' v pl → InW abc (nodesOf pl) → (nodesOf pl).length ≤ 11 → countIn choiceKinds (nodesOf pl) ≤ 4 → Q v H'
theorem ok_known {f fP : Addr} {fd fdP : FuncData} (F : Fun K "_law_known" "_law_known" s__law_known f fd) (T : Txt mg) (C__law_pick : Cal P w K mg base 2 "_law_pick" fP fdP ["dice", "items"] (spPick K)) : FnOk P w K mg base CX0 3 f fd ["dice"] (spKnown K) := by
  refine F.ok sc__law_known (fun vs H Q E h => ?_) (fun cdv A outer s H vs Q E hr h => ?_)
  · obtain ⟨d, rfl, _⟩ := h
    rfl
  · obtain ⟨d, rfl, D, q⟩ := h
    refine ⟨_, (pss_cons (ps_asg (pe_tup (pa_cons (pe_tup (pa_cons pe_str (pa_cons pe_str pa_nil))) (pa_cons (pe_tup (pa_cons pe_str (pa_cons pe_str pa_nil))) (pa_cons (pe_tup (pa_cons pe_str (pa_cons pe_str pa_nil))) pa_nil)))) (pg_tup (by rfl) (pgs_cons (pg_name (i := 1) sc__law_known.nd rfl (.inl rfl)) (pgs_cons (pg_name (i := 2) sc__law_known.nd rfl (.inl rfl)) (pgs_cons (pg_name (i := 3) sc__law_known.nd rfl (.inl rfl)) pgs_nil)))))
  (pss_cons (ps_asg (pe_tup (pa_cons (pe_tup (pa_cons pe_str (pa_cons pe_str pa_nil))) (pa_cons (pe_tup (pa_cons pe_str (pa_cons pe_str pa_nil))) (pa_cons (pe_tup (pa_cons pe_str (pa_cons pe_str pa_nil))) pa_nil)))) (pg_tup (by rfl) (pgs_cons (pg_name (i := 4) sc__law_known.nd rfl (.inl rfl)) (pgs_cons (pg_name (i := 5) sc__law_known.nd rfl (.inl rfl)) (pgs_cons (pg_name (i := 6) sc__law_known.nd rfl (.inl rfl)) pgs_nil)))))
  (pss_cons (ps_set (i := 7) sc__law_known.nd rfl (.inl rfl) (pe_lst (pa_cons (pe_tup (pa_cons pe_str (pa_cons (pe_tup (pa_cons (pv 1) (pa_cons (pv 4) pa_nil))) pa_nil))) (pa_cons (pe_tup (pa_cons pe_str (pa_cons (pe_tup (pa_cons (pv 1) (pa_cons (pv 4) pa_nil))) pa_nil))) (pa_cons (pe_tup (pa_cons pe_str (pa_cons (pe_tup (pa_cons (pv 1) (pa_cons (pv 4) pa_nil))) pa_nil))) (pa_cons (pe_tup (pa_cons pe_str (pa_cons (pe_tup (pa_cons (pv 4) (pa_cons (pe_tup (pa_cons pe_str (pa_cons (pe_tup (pa_cons (pv 1) (pa_cons (pv 1) pa_nil))) pa_nil))) pa_nil))) pa_nil))) pa_nil))))))
  (pss_cons (ps_expr (bmK (K := K) rfl (pe_bm PySem.F.plainAttrs_list PySem.F.slot_list_append PySem.F.type_list_append mt_append (pv 7) (pa_cons (pe_tup (pa_cons pe_str (pa_cons (pe_tup (pa_cons (pe_tup (pa_cons pe_str (pa_cons (pe_tup (pa_cons (pv 1) (pa_cons (pv 2) pa_nil))) pa_nil))) (pa_cons (pe_tup (pa_cons pe_str (pa_cons (pe_tup (pa_cons (pv 4) (pa_cons (pv 5) pa_nil))) pa_nil))) pa_nil))) pa_nil))) pa_nil))))
  (pss_cons (ps_expr (bmK (K := K) rfl (pe_bm PySem.F.plainAttrs_list PySem.F.slot_list_append PySem.F.type_list_append mt_append (pv 7) (pa_cons (pe_tup (pa_cons pe_str (pa_cons (pe_tup (pa_cons (pe_tup (pa_cons pe_str (pa_cons (pe_tup (pa_cons (pv 5) (pa_cons (pv 6) pa_nil))) pa_nil))) (pa_cons (pe_tup (pa_cons pe_str (pa_cons (pe_tup (pa_cons (pe_tup (pa_cons pe_str (pa_cons (pe_tup (pa_cons (pv 2) (pa_cons (pv 3) pa_nil))) pa_nil))) (pa_cons (pe_tup (pa_cons pe_str (pa_cons (pe_tup (pa_cons (pv 2) (pa_cons (pv 3) pa_nil))) pa_nil))) pa_nil))) pa_nil))) pa_nil))) pa_nil))) pa_nil))))
  (pss_cons (ps_expr (bmK (K := K) rfl (pe_bm PySem.F.plainAttrs_list PySem.F.slot_list_append PySem.F.type_list_append mt_append (pv 7) (pa_cons (pe_tup (pa_cons pe_str (pa_cons (pe_tup (pa_cons (pe_tup (pa_cons pe_str (pa_cons (pe_tup (pa_cons (pv 1) (pa_cons (pv 2) pa_nil))) pa_nil))) (pa_cons (pe_tup (pa_cons pe_str (pa_cons (pe_tup (pa_cons (pv 4) (pa_cons (pv 1) pa_nil))) pa_nil))) pa_nil))) pa_nil))) pa_nil))))
  (pss_cons (ps_expr (bmK (K := K) rfl (pe_bm PySem.F.plainAttrs_list PySem.F.slot_list_append PySem.F.type_list_append mt_append (pv 7) (pa_cons (pe_tup (pa_cons pe_str (pa_cons (pe_tup (pa_cons (pe_tup (pa_cons pe_str (pa_cons (pe_tup (pa_cons (pv 1) (pa_cons (pv 2) pa_nil))) pa_nil))) (pa_cons (pe_tup (pa_cons pe_str (pa_cons (pe_tup (pa_cons (pv 4) (pa_cons (pv 5) pa_nil))) pa_nil))) pa_nil))) pa_nil))) pa_nil))))
  (pss_one (ps_ret (pe_call C__law_pick.G hr (by rfl) C__law_pick.m C__law_pick.k C__law_pick.b .nil pass0 (pa_cons (pv 0) (pa_cons (pv 7) pa_nil)))))))))))), ?_⟩
    refine ⟨lenOk 2, fun t1 n1 => ⟨lenOk 2, fun t2 n2 => ⟨lenOk 2, fun t3 n3 => ⟨lenOk 3, fun s1 o1 => ?_⟩⟩⟩⟩
    refine ⟨s1, _, rfl, SqT.of upd_same, rfl, _, _, rfl, _, _, rfl, _, _, rfl, rfl, ?_⟩
    obtain ⟨g1, l1⟩ := leaf_new (K := K) (k := "fact") (v := .str "a") D rfl n1
    obtain ⟨g2, l2⟩ := leaf_new (K := K) (k := "fact") (v := .str "b") g1.dice rfl n2
    obtain ⟨g3, l3⟩ := leaf_new (K := K) (k := "fact") (v := .str "c") g2.dice rfl n3
    have j1 := Gr.laid (o := .tup [.ref t1, .ref t2, .ref t3]) g3.dice o1
    refine ⟨lenOk 2, fun t4 n4 => ⟨lenOk 2, fun t5 n5 => ⟨lenOk 2, fun t6 n6 => ⟨lenOk 3, fun s2 o2 => ?_⟩⟩⟩⟩
    refine ⟨s2, _, rfl, SqT.of upd_same, rfl, _, _, rfl, _, _, rfl, _, _, rfl, rfl, ?_⟩
    obtain ⟨g4, l4⟩ := leaf_new (K := K) (k := "not") (v := .str "a") j1.dice rfl n4
    obtain ⟨g5, l5⟩ := leaf_new (K := K) (k := "not") (v := .str "b") g4.dice rfl n5
    obtain ⟨g6, l6⟩ := leaf_new (K := K) (k := "not") (v := .str "c") g5.dice rfl n6
    have j2 := Gr.laid (o := .tup [.ref t4, .ref t5, .ref t6]) g6.dice o2
    have L : Six K _ _ _ _ _ _ _ := ⟨l1.tk ((g2.trans (g3.trans (j1.trans (g4.trans (g5.trans (g6.trans j2)))))).tk g1.dice), l2.tk ((g3.trans (j1.trans (g4.trans (g5.trans (g6.trans j2))))).tk g2.dice), l3.tk ((j1.trans (g4.trans (g5.trans (g6.trans j2)))).tk g3.dice), l4.tk ((g5.trans (g6.trans j2)).tk g4.dice), l5.tk ((g6.trans j2).tk g5.dice), l6.tk (j2.tk g6.dice)⟩
    have g := g1.trans (g2.trans (g3.trans (j1.trans (g4.trans (g5.trans (g6.trans j2))))))
    clear l1 l2 l3 l4 l5 l6 g1 g2 g3 g4 g5 g6 j1 j2
    generalize upd _ s2 _ = H0 at g L ⊢
    clear n1 n2 n3 n4 n5 n6 o1 o2
    have dn : KnAll K H0 [] := fun _ h => nomatch h
    refine ⟨_, rfl, ?_⟩
    refine ⟨_, rfl, ?_⟩
    refine ⟨lenOk 2, fun t1 n1 => ⟨lenOk 2, fun u1 m1 => ?_⟩⟩
    obtain ⟨h1, A1⟩ := node_new (k := "mine") g.dice (.cons L.a (.cons L.na .nil)) (by decide +kernel) (by decide) (by decide) n1 m1
    replace L := L.tk (h1.tk g.dice)
    replace dn := dn.tk (h1.tk g.dice)
    skip
    replace g := g.trans h1
    generalize upd (upd _ t1 _) u1 _ = H1 at g A1 L dn ⊢
    clear n1 m1 h1
    replace dn := dn.add ⟨_, A1, by decide +kernel, by decide +kernel, by decide +kernel⟩
    refine ⟨_, rfl, ?_⟩
    refine ⟨_, rfl, ?_⟩
    refine ⟨lenOk 2, fun t2 n2 => ⟨lenOk 2, fun u2 m2 => ?_⟩⟩
    obtain ⟨h2, A2⟩ := node_new (k := "yours") g.dice (.cons L.a (.cons L.na .nil)) (by decide +kernel) (by decide) (by decide) n2 m2
    replace L := L.tk (h2.tk g.dice)
    replace dn := dn.tk (h2.tk g.dice)
    skip
    replace g := g.trans h2
    generalize upd (upd _ t2 _) u2 _ = H2 at g A2 L dn ⊢
    clear n2 m2 h2
    replace dn := dn.add ⟨_, A2, by decide +kernel, by decide +kernel, by decide +kernel⟩
    refine ⟨_, rfl, ?_⟩
    refine ⟨_, rfl, ?_⟩
    refine ⟨lenOk 2, fun t3 n3 => ⟨lenOk 2, fun u3 m3 => ?_⟩⟩
    obtain ⟨h3, A3⟩ := node_new (k := "some") g.dice (.cons L.a (.cons L.na .nil)) (by decide +kernel) (by decide) (by decide) n3 m3
    replace L := L.tk (h3.tk g.dice)
    replace dn := dn.tk (h3.tk g.dice)
    skip
    replace g := g.trans h3
    generalize upd (upd _ t3 _) u3 _ = H3 at g A3 L dn ⊢
    clear n3 m3 h3
    replace dn := dn.add ⟨_, A3, by decide +kernel, by decide +kernel, by decide +kernel⟩
    refine ⟨_, rfl, ?_⟩
    refine ⟨_, rfl, ?_⟩
    refine ⟨_, rfl, ?_⟩
    refine ⟨lenOk 2, fun t4 n4 => ⟨lenOk 2, fun u4 m4 => ?_⟩⟩
    obtain ⟨h4, A4⟩ := node_new (k := "all") g.dice (.cons L.a (.cons L.a .nil)) (by decide +kernel) (by decide) (by decide) n4 m4
    replace L := L.tk (h4.tk g.dice)
    replace dn := dn.tk (h4.tk g.dice)
    skip
    replace g := g.trans h4
    generalize upd (upd _ t4 _) u4 _ = H4 at g A4 L dn ⊢
    clear n4 m4 h4
    refine ⟨lenOk 2, fun t5 n5 => ⟨lenOk 2, fun u5 m5 => ?_⟩⟩
    obtain ⟨h5, A5⟩ := node_new (k := "some") g.dice (.cons L.na (.cons A4 .nil)) (by decide +kernel) (by decide) (by decide) n5 m5
    replace L := L.tk (h5.tk g.dice)
    replace dn := dn.tk (h5.tk g.dice)
    skip
    replace g := g.trans h5
    generalize upd (upd _ t5 _) u5 _ = H5 at g A5 L dn ⊢
    clear n5 m5 h5
    replace dn := dn.add ⟨_, A5, by decide +kernel, by decide +kernel, by decide +kernel⟩
    refine ⟨lenOk 4, fun l nL => ?_⟩
    have nl : l ≠ d := g.dice.ne nL
    have nlH : H l = none := g.free D nL
    obtain ⟨xs, hxs, ex⟩ : ∃ xs : List V, xs.length = 4 ∧ xs = [.ref u1, .ref u2, .ref u3, .ref u5] := ⟨_, rfl, rfl⟩
    replace dn : KnAll K H5 xs := by rw [ex]; exact dn
    have eL : upd H5 l (.lst xs) l = some (.lst xs) := upd_same
    have hh := Gr.laid (o := .lst xs) g.dice nL
    replace L := L.tk (hh.tk g.dice)
    replace dn := dn.tk (hh.tk g.dice)
    replace g := g.trans hh
    rw [← ex]
    clear ex hh nL
    generalize upd H5 l _ = H6x at g eL L dn ⊢
    refine ⟨_, rfl, .inl ⟨rfl, _, SqL.of eL⟩, ?_⟩
    refine ⟨_, rfl, ?_⟩
    refine ⟨_, rfl, ?_⟩
    refine ⟨lenOk 2, fun t6 n6 => ⟨lenOk 2, fun u6 m6 => ?_⟩⟩
    obtain ⟨h6, A6⟩ := node_new (k := "mine") g.dice (.cons L.a (.cons L.b .nil)) (by decide +kernel) (by decide) (by decide) n6 m6
    replace L := L.tk (h6.tk g.dice)
    replace dn := dn.tk (h6.tk g.dice)
    replace eL := h6.keep _ _ nl eL
    replace g := g.trans h6
    generalize upd (upd _ t6 _) u6 _ = H6 at g A6 eL L dn ⊢
    clear n6 m6 h6
    refine ⟨_, rfl, ?_⟩
    refine ⟨_, rfl, ?_⟩
    refine ⟨lenOk 2, fun t7 n7 => ⟨lenOk 2, fun u7 m7 => ?_⟩⟩
    obtain ⟨h7, A7⟩ := node_new (k := "yours") g.dice (.cons L.na (.cons L.nb .nil)) (by decide +kernel) (by decide) (by decide) n7 m7
    replace L := L.tk (h7.tk g.dice)
    replace A6 := A6.tk (h7.tk g.dice)
    replace dn := dn.tk (h7.tk g.dice)
    replace eL := h7.keep _ _ nl eL
    replace g := g.trans h7
    generalize upd (upd _ t7 _) u7 _ = H7 at g A7 eL L A6 dn ⊢
    clear n7 m7 h7
    refine ⟨lenOk 2, fun t8 n8 => ⟨lenOk 2, fun u8 m8 => ?_⟩⟩
    obtain ⟨h8, A8⟩ := node_new (k := "some") g.dice (.cons A6 (.cons A7 .nil)) (by decide +kernel) (by decide) (by decide) n8 m8
    replace L := L.tk (h8.tk g.dice)
    replace dn := dn.tk (h8.tk g.dice)
    replace eL := h8.keep _ _ nl eL
    replace g := g.trans h8
    generalize upd (upd _ t8 _) u8 _ = H8 at g A8 eL L dn ⊢
    clear n8 m8 h8
    refine ⟨l, xs, .ref u8, rfl, rfl, eL, small (by omega), ?_⟩
    have tp : Tk H8 (upd H8 l (.lst (xs ++ [.ref u8]))) := Tk.put eL
    replace L := L.tk tp
    replace dn := (dn.tk tp).add ⟨_, A8.tk tp, by decide +kernel, by decide +kernel, by decide +kernel⟩
    replace g := g.put (o := .lst (xs ++ [.ref u8])) nlH nl
    replace eL : upd H8 l (.lst (xs ++ [.ref u8])) l = some (.lst (xs ++ [.ref u8])) := upd_same
    replace hxs : (xs ++ [V.ref u8]).length = 5 := by rw [List.length_append, hxs]; rfl
    clear tp A8
    generalize xs ++ [V.ref u8] = xs1 at g eL hxs dn L ⊢
    generalize upd H8 l _ = Hy0 at g eL L dn ⊢
    refine ⟨_, rfl, .inl ⟨rfl, _, SqL.of eL⟩, ?_⟩
    refine ⟨_, rfl, ?_⟩
    refine ⟨_, rfl, ?_⟩
    refine ⟨lenOk 2, fun t9 n9 => ⟨lenOk 2, fun u9 m9 => ?_⟩⟩
    obtain ⟨h9, A9⟩ := node_new (k := "mine") g.dice (.cons L.nb (.cons L.nc .nil)) (by decide +kernel) (by decide) (by decide) n9 m9
    replace L := L.tk (h9.tk g.dice)
    replace dn := dn.tk (h9.tk g.dice)
    replace eL := h9.keep _ _ nl eL
    replace g := g.trans h9
    generalize upd (upd _ t9 _) u9 _ = H9 at g A9 eL L dn ⊢
    clear n9 m9 h9
    refine ⟨_, rfl, ?_⟩
    refine ⟨_, rfl, ?_⟩
    refine ⟨lenOk 2, fun t10 n10 => ⟨lenOk 2, fun u10 m10 => ?_⟩⟩
    obtain ⟨h10, A10⟩ := node_new (k := "yours") g.dice (.cons L.b (.cons L.c .nil)) (by decide +kernel) (by decide) (by decide) n10 m10
    replace L := L.tk (h10.tk g.dice)
    replace A9 := A9.tk (h10.tk g.dice)
    replace dn := dn.tk (h10.tk g.dice)
    replace eL := h10.keep _ _ nl eL
    replace g := g.trans h10
    generalize upd (upd _ t10 _) u10 _ = H10 at g A10 eL L A9 dn ⊢
    clear n10 m10 h10
    refine ⟨_, rfl, ?_⟩
    refine ⟨_, rfl, ?_⟩
    refine ⟨lenOk 2, fun t11 n11 => ⟨lenOk 2, fun u11 m11 => ?_⟩⟩
    obtain ⟨h11, A11⟩ := node_new (k := "yours") g.dice (.cons L.b (.cons L.c .nil)) (by decide +kernel) (by decide) (by decide) n11 m11
    replace L := L.tk (h11.tk g.dice)
    replace A9 := A9.tk (h11.tk g.dice)
    replace A10 := A10.tk (h11.tk g.dice)
    replace dn := dn.tk (h11.tk g.dice)
    replace eL := h11.keep _ _ nl eL
    replace g := g.trans h11
    generalize upd (upd _ t11 _) u11 _ = H11 at g A11 eL L A9 A10 dn ⊢
    clear n11 m11 h11
    refine ⟨lenOk 2, fun t12 n12 => ⟨lenOk 2, fun u12 m12 => ?_⟩⟩
    obtain ⟨h12, A12⟩ := node_new (k := "all") g.dice (.cons A10 (.cons A11 .nil)) (by decide +kernel) (by decide) (by decide) n12 m12
    replace L := L.tk (h12.tk g.dice)
    replace A9 := A9.tk (h12.tk g.dice)
    replace dn := dn.tk (h12.tk g.dice)
    replace eL := h12.keep _ _ nl eL
    replace g := g.trans h12
    generalize upd (upd _ t12 _) u12 _ = H12 at g A12 eL L A9 dn ⊢
    clear n12 m12 h12
    refine ⟨lenOk 2, fun t13 n13 => ⟨lenOk 2, fun u13 m13 => ?_⟩⟩
    obtain ⟨h13, A13⟩ := node_new (k := "some") g.dice (.cons A9 (.cons A12 .nil)) (by decide +kernel) (by decide) (by decide) n13 m13
    replace L := L.tk (h13.tk g.dice)
    replace dn := dn.tk (h13.tk g.dice)
    replace eL := h13.keep _ _ nl eL
    replace g := g.trans h13
    generalize upd (upd _ t13 _) u13 _ = H13 at g A13 eL L dn ⊢
    clear n13 m13 h13
    refine ⟨l, xs1, .ref u13, rfl, rfl, eL, small (by omega), ?_⟩
    have tp : Tk H13 (upd H13 l (.lst (xs1 ++ [.ref u13]))) := Tk.put eL
    replace L := L.tk tp
    replace dn := (dn.tk tp).add ⟨_, A13.tk tp, by decide +kernel, by decide +kernel, by decide +kernel⟩
    replace g := g.put (o := .lst (xs1 ++ [.ref u13])) nlH nl
    replace eL : upd H13 l (.lst (xs1 ++ [.ref u13])) l = some (.lst (xs1 ++ [.ref u13])) := upd_same
    replace hxs : (xs1 ++ [V.ref u13]).length = 6 := by rw [List.length_append, hxs]; rfl
    clear tp A13
    generalize xs1 ++ [V.ref u13] = xs2 at g eL hxs dn L ⊢
    generalize upd H13 l _ = Hy1 at g eL L dn ⊢
    refine ⟨_, rfl, .inl ⟨rfl, _, SqL.of eL⟩, ?_⟩
    refine ⟨_, rfl, ?_⟩
    refine ⟨_, rfl, ?_⟩
    refine ⟨lenOk 2, fun t14 n14 => ⟨lenOk 2, fun u14 m14 => ?_⟩⟩
    obtain ⟨h14, A14⟩ := node_new (k := "mine") g.dice (.cons L.a (.cons L.b .nil)) (by decide +kernel) (by decide) (by decide) n14 m14
    replace L := L.tk (h14.tk g.dice)
    replace dn := dn.tk (h14.tk g.dice)
    replace eL := h14.keep _ _ nl eL
    replace g := g.trans h14
    generalize upd (upd _ t14 _) u14 _ = H14 at g A14 eL L dn ⊢
    clear n14 m14 h14
    refine ⟨_, rfl, ?_⟩
    refine ⟨_, rfl, ?_⟩
    refine ⟨lenOk 2, fun t15 n15 => ⟨lenOk 2, fun u15 m15 => ?_⟩⟩
    obtain ⟨h15, A15⟩ := node_new (k := "some") g.dice (.cons L.na (.cons L.a .nil)) (by decide +kernel) (by decide) (by decide) n15 m15
    replace L := L.tk (h15.tk g.dice)
    replace A14 := A14.tk (h15.tk g.dice)
    replace dn := dn.tk (h15.tk g.dice)
    replace eL := h15.keep _ _ nl eL
    replace g := g.trans h15
    generalize upd (upd _ t15 _) u15 _ = H15 at g A15 eL L A14 dn ⊢
    clear n15 m15 h15
    refine ⟨lenOk 2, fun t16 n16 => ⟨lenOk 2, fun u16 m16 => ?_⟩⟩
    obtain ⟨h16, A16⟩ := node_new (k := "yours") g.dice (.cons A14 (.cons A15 .nil)) (by decide +kernel) (by decide) (by decide) n16 m16
    replace L := L.tk (h16.tk g.dice)
    replace dn := dn.tk (h16.tk g.dice)
    replace eL := h16.keep _ _ nl eL
    replace g := g.trans h16
    generalize upd (upd _ t16 _) u16 _ = H16 at g A16 eL L dn ⊢
    clear n16 m16 h16
    refine ⟨l, xs2, .ref u16, rfl, rfl, eL, small (by omega), ?_⟩
    have tp : Tk H16 (upd H16 l (.lst (xs2 ++ [.ref u16]))) := Tk.put eL
    replace L := L.tk tp
    replace dn := (dn.tk tp).add ⟨_, A16.tk tp, by decide +kernel, by decide +kernel, by decide +kernel⟩
    replace g := g.put (o := .lst (xs2 ++ [.ref u16])) nlH nl
    replace eL : upd H16 l (.lst (xs2 ++ [.ref u16])) l = some (.lst (xs2 ++ [.ref u16])) := upd_same
    replace hxs : (xs2 ++ [V.ref u16]).length = 7 := by rw [List.length_append, hxs]; rfl
    clear tp A16
    generalize xs2 ++ [V.ref u16] = xs3 at g eL hxs dn L ⊢
    generalize upd H16 l _ = Hy2 at g eL L dn ⊢
    refine ⟨_, rfl, .inl ⟨rfl, _, SqL.of eL⟩, ?_⟩
    refine ⟨_, rfl, ?_⟩
    refine ⟨_, rfl, ?_⟩
    refine ⟨lenOk 2, fun t17 n17 => ⟨lenOk 2, fun u17 m17 => ?_⟩⟩
    obtain ⟨h17, A17⟩ := node_new (k := "mine") g.dice (.cons L.a (.cons L.b .nil)) (by decide +kernel) (by decide) (by decide) n17 m17
    replace L := L.tk (h17.tk g.dice)
    replace dn := dn.tk (h17.tk g.dice)
    replace eL := h17.keep _ _ nl eL
    replace g := g.trans h17
    generalize upd (upd _ t17 _) u17 _ = H17 at g A17 eL L dn ⊢
    clear n17 m17 h17
    refine ⟨_, rfl, ?_⟩
    refine ⟨_, rfl, ?_⟩
    refine ⟨lenOk 2, fun t18 n18 => ⟨lenOk 2, fun u18 m18 => ?_⟩⟩
    obtain ⟨h18, A18⟩ := node_new (k := "yours") g.dice (.cons L.na (.cons L.nb .nil)) (by decide +kernel) (by decide) (by decide) n18 m18
    replace L := L.tk (h18.tk g.dice)
    replace A17 := A17.tk (h18.tk g.dice)
    replace dn := dn.tk (h18.tk g.dice)
    replace eL := h18.keep _ _ nl eL
    replace g := g.trans h18
    generalize upd (upd _ t18 _) u18 _ = H18 at g A18 eL L A17 dn ⊢
    clear n18 m18 h18
    refine ⟨lenOk 2, fun t19 n19 => ⟨lenOk 2, fun u19 m19 => ?_⟩⟩
    obtain ⟨h19, A19⟩ := node_new (k := "all") g.dice (.cons A17 (.cons A18 .nil)) (by decide +kernel) (by decide) (by decide) n19 m19
    replace L := L.tk (h19.tk g.dice)
    replace dn := dn.tk (h19.tk g.dice)
    replace eL := h19.keep _ _ nl eL
    replace g := g.trans h19
    generalize upd (upd _ t19 _) u19 _ = H19 at g A19 eL L dn ⊢
    clear n19 m19 h19
    refine ⟨l, xs3, .ref u19, rfl, rfl, eL, small (by omega), ?_⟩
    have tp : Tk H19 (upd H19 l (.lst (xs3 ++ [.ref u19]))) := Tk.put eL
    replace L := L.tk tp
    replace dn := (dn.tk tp).add ⟨_, A19.tk tp, by decide +kernel, by decide +kernel, by decide +kernel⟩
    replace g := g.put (o := .lst (xs3 ++ [.ref u19])) nlH nl
    replace eL : upd H19 l (.lst (xs3 ++ [.ref u19])) l = some (.lst (xs3 ++ [.ref u19])) := upd_same
    replace hxs : (xs3 ++ [V.ref u19]).length = 8 := by rw [List.length_append, hxs]; rfl
    clear tp A19
    generalize xs3 ++ [V.ref u19] = xs4 at g eL hxs dn L ⊢
    generalize upd H19 l _ = Hy3 at g eL L dn ⊢

    refine ⟨_, rfl, _, rfl, d, l, xs4, rfl, g.dice, SqL.of eL, nl, by omega, by omega, fun x H' hx D' k' => ?_⟩
    obtain ⟨pl, A, w1, w2, w3⟩ := dn x hx
    have h' := off_gr D' k'
    exact q x pl H' (g.trans h') (A.tk (h'.tk g.dice)) (inW_of w1) w2 w3
end
end Eh

set_option Elab.async false
set_option linter.all false
set_option maxRecDepth 100000
namespace Eh
open PySem PySem.Spec PyProof.Rows L2
section
variable {P : Program} {w : World} {K : PySem.W.Frag} {mg : Str → Option Value} {base : Heap}
/-! some -/
/-- ys are some of xs -/
def SomeOf (ys xs : List V) : Prop := ∃ rest, (ys ++ rest).Perm xs
def spSome (K : PySem.W.Frag) : Sp := fun vs H Q _ => ∃ (d a : Addr) (xs : List V) (n : Nat), vs = [.ref d, .ref a, .int n] ∧ D3 H d ∧ SqL K H a xs ∧ a ≠ d ∧ xs.length < 1000000 ∧ n < 1000000 ∧
  ∀ ys p H', SomeOf ys xs → ys.length = min n xs.length → Gr d H H' → H p = none → H' p = some (.lst ys) → Q (.ref p) H'
theorem perm_erase {α : Type} : ∀ {xs : List α} {i : Nat} {x : α}, xs[i]? = some x → (x :: xs.eraseIdx i).Perm xs
  | [], _, _, h => by simp at h
  | y :: r, 0, x, h => by
    cases (show some y = some x from h)
    exact List.Perm.refl _
  | y :: r, i + 1, x, h => by
    have ih := perm_erase (xs := r) (i := i) (x := x) h
    exact (List.Perm.swap y x _).trans (ih.cons y)
theorem seqIndex_nat {n j : Nat} (h : j < n) : seqIndex? (j : Int) n = some j := (ixN_seq (n := n) (i := (j : Int)) (j := j) (by
  unfold ixN
  rw [if_pos (by omega), if_pos (by omega)]
  rfl)).1
theorem ok_some {f fR : Addr} {fd fdR : FuncData} (F : Fun K "_law_some" "_law_some" s__law_some f fd) (T : Txt mg) (C__law_roll : Cal P w K mg base 1 "_law_roll" fR fdR ["dice", "many"] spRoll) :
    FnOk P w K mg base CX0 2 f fd ["dice", "items", "size"] (spSome K) := by
  refine F.ok sc__law_some (fun vs H Q E h => ?_) (fun cdv A outer s H vs Q E hr h => ?_)
  · obtain ⟨d, a, xs, n, rfl, _⟩ := h
    rfl
  · obtain ⟨d, a, xs, n, rfl, D, hS, hn, h1, h2, q⟩ := h
    refine ⟨_, (pss_cons (ps_set (i := 3) sc__law_some.nd rfl (.inr rfl) (pe_callTy (lstOf (K := K) rfl) (by rfl) T.list_ (by decide +kernel) (pa_cons (pv 1) pa_nil)))
  (pss_one (ps_ret (pe_lc (own := [("turn", 4)]) (g := gName 4) (by rfl) sc__law_some.nd (pi_range1 (by rfl) T.range_ (pa_cons (pe_callB (call_min2 (by rfl)) (by rfl) T.min_ (by decide +kernel) (pa_cons (pv 2) (pa_cons (pe_callB (lenQ (K := K) rfl) (by rfl) T.len_ (by decide +kernel) (pa_cons (pv 3) pa_nil)) pa_nil))) pa_nil)) (blkOk_by (by kernel_rfl)) (fun _ _ _ _ _ => (pg_name (i := 4) sc__law_some.nd rfl (.inl rfl))) (fun _ _ _ _ _ => pts_nil) (fun _ _ _ _ _ => (bmK (K := K) rfl (pe_bm PySem.F.plainAttrs_list PySem.F.slot_list_pop PySem.F.type_list_pop mt_popAt (pv 3) (pa_cons (pe_call C__law_roll.G hr (by rfl) C__law_roll.m C__law_roll.k C__law_roll.b .nil pass0 (pa_cons (pv 0) (pa_cons (pe_callB (lenQ (K := K) rfl) (by rfl) T.len_ (by decide +kernel) (pa_cons (pv 3) pa_nil)) pa_nil))) pa_nil)))))))), ?_⟩
    -- left = list(items)
    refine ⟨_, rfl, a, xs, rfl, .inl hS, fun l nl => ?_⟩
    have nld : l ≠ d := D.ne nl
    have g0 : Gr d H (upd H l (.lst xs)) := .laid D nl
    -- min(size, len(left))
    refine ⟨_, rfl, _, rfl, .inl ⟨l, xs, rfl, .inl (SqL.of upd_same), n, xs.length, rfl, ?_⟩⟩
    obtain ⟨m, em, hm⟩ : ∃ m : Nat, (if (xs.length : Int) < (n : Int) then (xs.length : Int) else (n : Int)) = (m : Int) ∧ m = min n xs.length := by
      refine ⟨min n xs.length, ?_, rfl⟩
      split <;> omega
    rw [em]
    refine ⟨m, rfl, by omega, by omega, fun p np => ?_⟩
    have npl : p ≠ l := fun e => by rw [e, upd_same] at np; cases np
    have npH : H p = none := by rw [upd_ne npl] at np; exact np
    have npd : p ≠ d := D.ne npH
    refine lcR (fun i ys H2 => ∃ zs, (ys ++ zs).Perm xs ∧ ys.length = i ∧ Gr d H H2 ∧ H2 l = some (.lst zs)) ⟨xs, List.Perm.refl _, rfl, g0.put npH npd, by rw [upd_ne npl.symm, upd_same]⟩ ?_ ?_
    · rintro i ys H2 hi hly e1 ⟨zs, hp, hl, g2, e2⟩
      have hlen : ys.length + zs.length = xs.length := by rw [← hp.length_eq, List.length_append]
      refine ⟨_, rfl, .inl ⟨rfl, _, SqL.of e2⟩, _, rfl, _, rfl, .inl ⟨l, zs, rfl, .inl (SqL.of e2), d, _, rfl, g2.dice, by omega, by omega, fun r H3 r0 r1 D3' k => ?_⟩⟩
      have hr' : r.toNat < zs.length := by omega
      have e2' : H3 l = some (.lst zs) := by rw [k l nld]; exact e2
      have e1' : H3 p = some (.lst ys) := by rw [k p npd]; exact e1
      have er := seqIndex_nat hr'
      rw [Int.toNat_of_nonneg r0] at er
      refine ⟨l, zs, r, r.toNat, zs[r.toNat], rfl, rfl, e2', by omega, by omega, er, List.getElem?_eq_getElem hr', ?_⟩
      refine LcK.mk hly (by omega) (by rw [upd_ne npl]; exact e1') ⟨zs.eraseIdx r.toNat, ?_, ?_, ?_, ?_⟩
      · rw [List.append_assoc]
        exact (List.Perm.append_left ys (perm_erase (List.getElem?_eq_getElem hr'))).trans hp
      · rw [List.length_append]
        show ys.length + 1 = i + 1
        omega
      · have g3 : Gr d H H3 := ⟨D3', fun b o nb e => by rw [k b nb]; exact g2.keep b o nb e⟩
        exact (g3.put nl nld).put npH npd
      · rw [upd_ne npl.symm, upd_same]
    · rintro ys H2 _ e1 ⟨zs, hp, hl, g2, e2⟩
      exact q ys p H2 ⟨zs, hp⟩ (by omega) g2 npH e1
end
end Eh

set_option Elab.async false
set_option linter.all false
set_option maxRecDepth 100000
namespace Eh
open PySem PySem.Spec PyProof.Rows L2
def uni6 : List Str := ["a", "b", "c", "fact", "zz", "d"]
def six6 : List Str := ["a", "b", "c", "fact", "no", "zz"]
theorem six_uni {z : Str} (h : z ∈ six6) (n : z ≠ "no") : z ∈ uni6 := by
  unfold six6 at h
  simp only [List.mem_cons, List.not_mem_nil, or_false] at h
  rcases h with rfl | rfl | rfl | rfl | rfl | rfl
  · decide +kernel
  · decide +kernel
  · decide +kernel
  · decide +kernel
  · exact absurd rfl n
  · decide +kernel
theorem abc_uni {z : Str} (h : z ∈ abc) : z ∈ uni6 := by
  unfold abc at h
  simp only [List.mem_cons, List.not_mem_nil, or_false] at h
  rcases h with rfl | rfl | rfl <;> decide +kernel
theorem cut3 (xs : List V) : cutV xs none (some 3) = xs.take 3 := by
  unfold cutV HT.sIx
  simp
section
variable {P : Program} {w : World} {K : PySem.W.Frag} {mg : Str → Option Value} {base : Heap}
def spPromise (K : PySem.W.Frag) : Sp := fun vs H Q _ => ∃ d, vs = [.ref d] ∧ D3 H d ∧ ∀ v pl ws H', Gr d H H' → At K H' v pl → ws.length ≤ 3 → (∀ z ∈ ws, z ∈ uni6) → InW ws (nodesOf pl) → (nodesOf pl).length ≤ 11 → countIn choiceKinds (nodesOf pl) ≤ 4 → Q v H'
theorem ok_promise {k : Nat} (hk : 3 ≤ k) {f fR fP fS fK fD : Addr} {fd fdR fdP fdS fdK fdD : FuncData} (F : Fun K "_law_promise" "_law_promise" s__law_promise f fd) (T : Txt mg) (C__law_roll : Cal P w K mg base 1 "_law_roll" fR fdR ["dice", "many"] spRoll)
    (C__law_pick : Cal P w K mg base 2 "_law_pick" fP fdP ["dice", "items"] (spPick K)) (C__law_some : Cal P w K mg base 2 "_law_some" fS fdS ["dice", "items", "size"] (spSome K))
    (C__law_known : Cal P w K mg base 3 "_law_known" fK fdK ["dice"] (spKnown K)) (C__law_drawn : Cal P w K mg base k "_law_drawn" fD fdD ["dice", "words", "most", "choices"] (spDrawn K 11)) : FnOk P w K mg base CX0 (k + 1) f fd ["dice"] (spPromise K) := by
  refine F.ok sc__law_promise (fun vs H Q E h => ?_) (fun cdv A outer s H vs Q E hr h => ?_)
  · obtain ⟨d, rfl, _⟩ := h
    rfl
  · obtain ⟨d, rfl, D, q⟩ := h
    have hr1 := hr.mono (j := 1) (by omega)
    have hr2 := hr.mono (j := 2) (by omega)
    have hr3 := hr.mono (j := 3) (by omega)
    refine ⟨_, (pss_cons (ps_if (pt_cmpR op_eq (pe_call C__law_roll.G hr1 (by rfl) C__law_roll.m C__law_roll.k C__law_roll.b .nil pass0 (pa_cons (pv 0) (pa_cons pe_int pa_nil))) pe_int (nomark _))
  (pss_one (ps_ret (pe_call C__law_known.G hr3 (by rfl) C__law_known.m C__law_known.k C__law_known.b .nil pass0 (pa_cons (pv 0) pa_nil))))
  pss_nil)
  (pss_cons (ps_set (i := 1) sc__law_promise.nd rfl (.inl rfl) (pe_call C__law_some.G hr2 (by rfl) C__law_some.m C__law_some.k C__law_some.b .nil pass0 (pa_cons (pv 0) (pa_cons (pe_lst (pa_cons pe_str (pa_cons pe_str (pa_cons pe_str (pa_cons pe_str (pa_cons pe_str (pa_cons pe_str pa_nil))))))) (pa_cons (pe_op op_add pe_int (pe_call C__law_roll.G hr1 (by rfl) C__law_roll.m C__law_roll.k C__law_roll.b .nil pass0 (pa_cons (pv 0) (pa_cons pe_int pa_nil)))) pa_nil)))))
  (pss_cons (ps_set (i := 1) sc__law_promise.nd rfl (.inl rfl) (pe_op op_cat (pe_lc (own := [("word", 2)]) (g := gName 2) (by rfl) sc__law_promise.nd (piL (K := K) rfl (pv 1)) (blkOk_by (by kernel_rfl)) (fun _ _ _ _ _ => (pg_name (i := 2) sc__law_promise.nd rfl (.inl rfl))) (fun _ _ _ _ _ => (pts_one (pt_cmpR op_ne (pv 2) pe_str (nomark _)))) (fun _ _ _ _ _ => (pv 2))) (pe_lst (pa_cons pe_str pa_nil))))
  (pss_one (ps_ret (pe_call C__law_drawn.G hr (by rfl) C__law_drawn.m C__law_drawn.k C__law_drawn.b .nil pass0 (pa_cons (pv 0) (pa_cons (pe_slice (slL (K := K) rfl) (pv 1) po_none (po_some pe_int)) (pa_cons (pe_call C__law_pick.G hr2 (by rfl) C__law_pick.m C__law_pick.k C__law_pick.b .nil pass0 (pa_cons (pv 0) (pa_cons (pe_lst (pa_cons pe_int (pa_cons pe_int (pa_cons pe_int (pa_cons pe_int (pa_cons pe_int pa_nil)))))) pa_nil))) (pa_cons (pe_call C__law_pick.G hr2 (by rfl) C__law_pick.m C__law_pick.k C__law_pick.b .nil pass0 (pa_cons (pv 0) (pa_cons (pe_lst (pa_cons pe_int (pa_cons pe_int (pa_cons pe_int (pa_cons pe_int (pa_cons pe_int pa_nil)))))) pa_nil))) pa_nil)))))))))), ?_⟩
    refine ⟨_, rfl, d, 6, rfl, D, by decide, by decide, fun r H1 r0 r1 D1 k1 => ?_⟩
    have g1 := off_gr (H := H) D1 k1
    refine ⟨rfl, _, rfl, ite2 (fun _ => ?_) (fun _ => ?_)⟩
    · exact ⟨_, rfl, d, rfl, D1, fun v pl H2 g2 A hw hl hc => q v pl abc H2 (g1.trans g2) A (by decide) (fun z hz => abc_uni hz) hw hl hc⟩
    refine ⟨_, rfl, lenOk 6, fun l1 n1 => ?_⟩
    have a1 := Gr.laid (o := .lst (six6.map V.str)) g1.dice n1
    refine ⟨_, rfl, d, 3, rfl, a1.dice, by decide, by decide, fun r2 H2 r20 r21 D2 k2 => ?_⟩
    have g2 := g1.trans (a1.trans (off_gr D2 k2))
    refine ⟨_, _, rfl, rfl, ?_⟩
    obtain ⟨n, en, hn⟩ : ∃ n : Nat, (1 : Int) + r2 = (n : Int) ∧ 1 ≤ n ∧ n ≤ 3 := ⟨(1 + r2).toNat, by omega, by omega, by omega⟩
    have nl1 : l1 ≠ d := g1.dice.ne n1
    refine ⟨d, l1, six6.map V.str, n, (by show [V.ref d, V.ref l1, V.int (1 + r2)] = _; rw [en]), D2, SqL.of (by rw [k2 l1 nl1]; exact upd_same), nl1, by decide, by omega, fun ys p H3 hys hyl g3 n3 e3 => ?_⟩
    have g4 := g2.trans g3
    have npd : p ≠ d := g2.dice.ne n3
    refine ⟨_, rfl, p, rfl, ⟨ys, SqL.of e3⟩, fun D0 nD => ?_⟩
    have a2 := Gr.laid (o := .lst []) g4.dice nD
    have nDd : D0 ≠ d := g4.dice.ne nD
    have nDH : H D0 = none := g4.free D nD
    have npD : p ≠ D0 := ne_of_none e3 nD
    have mem : ∀ y ∈ ys, ∃ z, y = V.str z ∧ z ∈ six6 := fun y hy => by
      obtain ⟨rest, hp⟩ := hys
      have := hp.mem_iff.mp (List.mem_append_left rest hy)
      obtain ⟨z, hz, rfl⟩ := List.mem_map.mp this
      exact ⟨z, rfl, hz⟩
    have hlen : ys.length ≤ 3 := by omega
    refine lcL (fun j acc H5 => Gr d H H5 ∧ H5 p = some (.lst ys) ∧ ∃ zs : List Str, acc = zs.map V.str ∧ ∀ z ∈ zs, z ∈ uni6) ⟨g4.trans a2, by rw [upd_ne npD]; exact e3, [], rfl, fun _ h => nomatch h⟩ (fun j acc H5 h => SqL.of h.2.1) ?_ ?_
    · rintro j x acc H5 hx hl2 e2 ⟨g5, e5, zs, rfl, hzs⟩
      obtain ⟨z, rfl, hz⟩ := mem x (List.mem_of_getElem? hx)
      have hj : j < 3 := by
        have := (List.getElem?_eq_some_iff.mp hx).1
        omega
      refine ⟨_, rfl, rfl, _, rfl, ?_⟩
      by_cases ez : V.str z = V.str "no"
      · rw [decide_eq_true ez]
        exact iteF ⟨_, by omega, e2, g5, e5, zs, rfl, hzs⟩
      · rw [decide_eq_false ez]
        refine iteT ⟨_, rfl, LcK.mk hl2 (by omega) e2 ⟨g5.put nDH nDd, by rw [upd_ne npD]; exact e5, zs ++ [z], by rw [List.map_append]; rfl, fun u hu => ?_⟩⟩
        rcases List.mem_append.mp hu with h | h
        · exact hzs u h
        · rw [List.mem_singleton.mp h]
          exact six_uni hz fun e => ez (by rw [e])
    · rintro acc H5 hl2 e2 ⟨g5, e5, zs, rfl, hzs⟩
      refine ⟨lenOk 1, fun l3 n5 => ?_⟩
      have a3 := Gr.laid (o := .lst [.str "d"]) g5.dice n5
      refine ⟨D0, l3, _, _, rfl, rfl, a3.keep _ _ nDd e2, upd_same, Nat.le_of_lt (small (by show _ + 1 < _; omega)), fun l4 n6 => ?_⟩
      rw [show zs.map V.str ++ [V.str "d"] = (zs ++ [("d" : Str)]).map V.str from by rw [List.map_append]; rfl]
      have a4 := Gr.laid (o := .lst ((zs ++ [("d" : Str)]).map V.str)) a3.dice n6
      have g6 := g5.trans (a3.trans a4)
      refine ⟨_, rfl, _, rfl, _, rfl, l4, _, rfl, SqL.of upd_same, fun l5 n7 => ?_⟩
      rw [cut3, ← List.map_take]
      obtain ⟨ws, ews⟩ : ∃ ws, ws = (zs ++ [("d" : Str)]).take 3 := ⟨_, rfl⟩
      rw [← ews]
      have hws : ∀ z ∈ ws, z ∈ uni6 := fun z hz => by
        rw [ews] at hz
        rcases List.mem_append.mp (List.mem_of_mem_take hz) with h | h
        · exact hzs z h
        · rw [List.mem_singleton.mp h]
          decide +kernel
      have hw3 : ws.length ≤ 3 := by rw [ews, List.length_take]; omega
      have hw0 : 0 < ws.length := by rw [ews, List.length_take, List.length_append]; show 0 < min 3 (_ + 1); omega
      have a5 := Gr.laid (o := .lst (ws.map V.str)) g6.dice n7
      have g7 := g6.trans a5
      have n5d : l5 ≠ d := g6.dice.ne n7
      refine ⟨_, rfl, lenOk 5, fun l6 n8 => ?_⟩
      have a6 := Gr.laid (o := .lst [.int 3, .int 5, .int 7, .int 9, .int 11]) g7.dice n8
      refine ⟨d, l6, _, rfl, a6.dice, SqL.of upd_same, g7.dice.ne n8, by decide, by decide, fun x H8 hx D8 k8 => ?_⟩
      have g8 := a6.trans (off_gr D8 k8)
      obtain ⟨most, rfl, m1, m2⟩ : ∃ most : Int, x = .int most ∧ 1 ≤ most ∧ most ≤ 11 := by
        simp only [List.mem_cons, List.not_mem_nil, or_false] at hx
        rcases hx with rfl | rfl | rfl | rfl | rfl <;> exact ⟨_, rfl, by decide, by decide⟩
      refine ⟨_, rfl, lenOk 5, fun l7 n9 => ?_⟩
      have a7 := Gr.laid (o := .lst [.int 1, .int 2, .int 2, .int 3, .int 4]) g8.dice n9
      refine ⟨d, l7, _, rfl, a7.dice, SqL.of upd_same, g8.dice.ne n9, by decide, by decide, fun x H9 hx D9 k9 => ?_⟩
      have g9 := g8.trans (a7.trans (off_gr D9 k9))
      obtain ⟨ch, rfl, c1, c2⟩ : ∃ ch : Int, x = .int ch ∧ 0 ≤ ch ∧ ch ≤ 4 := by
        simp only [List.mem_cons, List.not_mem_nil, or_false] at hx
        rcases hx with rfl | rfl | rfl | rfl | rfl <;> exact ⟨_, rfl, by decide, by decide⟩
      refine ⟨d, l5, ws, most, ch, rfl, D9, SqL.of (g9.keep _ _ n5d upd_same), n5d, hw0, by omega, m1, by omega, by decide, c1, by omega, fun v pl H10 g10 A hw hl hc => ?_⟩
      exact q v pl ws H10 (g7.trans (g9.trans g10)) A hw3 hws hw (by omega) (by omega)
end
end Eh

set_option Elab.async false
set_option linter.all false
set_option maxRecDepth 100000
namespace Eh
open PySem PySem.Spec PyProof.Rows L2
/-! facts -/
def low (c : Nat) : Bool := decide (97 ≤ c ∧ c ≤ 122)
def factS (z : Str) : Bool := decide (1 ≤ z.length ∧ z.length ≤ 8) && !(decide (z = "yes")) && !(decide (z = "no")) && z.cps.toList.all low
def factV : V → Bool
  | .str z => factS z
  | _ => false
/-- a value whose type is known and is not str, or a text -/
def Asc (z : Str) : Prop := z.length < 1000000 ∧ ∀ c ∈ z.cps.toList, c < 128
def Kind (K : PySem.W.Frag) (H : Hp) (v : V) : Prop := (∃ z : Str, v = .str z ∧ Asc z) ∨ ((∀ z, v ≠ .str z) ∧ ∃ t, TyX K H v t ∧ PySem.W.kitOne K t (.type "str") = some false)
section
variable {P : Program} {w : World} {K : PySem.W.Frag} {mg : Str → Option Value} {base : Heap}
def spFact (K : PySem.W.Frag) : Sp := fun vs H Q _ => ∃ v, vs = [v] ∧ Kind K H v ∧ ∀ H', Same H H' → Q (.bl (factV v)) H'
theorem kitStr {K : PySem.W.Frag} : PySem.W.kitOne K (.type "str") (.type "str") = some true := kit_ty (by decide +kernel)
theorem le_sign (c : Nat) : (!decide ((⟨#[c]⟩ : Str).cps.toList < ("a" : Str).cps.toList)) = decide (97 ≤ c) := by
  show (!decide ([c] < [97])) = decide (97 ≤ c)
  have e : ([c] < [97]) ↔ c < 97 := by
    constructor
    · intro h
      cases h with
      | rel h => exact h
      | cons h => cases h
    · intro h
      exact List.Lex.rel h
  rw [decide_eq_decide.mpr e]
  by_cases h : c < 97
  · rw [decide_eq_true h, decide_eq_false (by omega)]
    rfl
  · rw [decide_eq_false h, decide_eq_true (by omega)]
    rfl
theorem ge_sign (c : Nat) : (!decide (("z" : Str).cps.toList < (⟨#[c]⟩ : Str).cps.toList)) = decide (c ≤ 122) := by
  show (!decide ([122] < [c])) = decide (c ≤ 122)
  have e : ([122] < [c]) ↔ 122 < c := by
    constructor
    · intro h
      cases h with
      | rel h => exact h
      | cons h => cases h
    · intro h
      exact List.Lex.rel h
  rw [decide_eq_decide.mpr e]
  by_cases h : 122 < c
  · rw [decide_eq_true h, decide_eq_false (by omega)]
    rfl
  · rw [decide_eq_false h, decide_eq_true (by omega)]
    rfl
theorem sbeq (a b : Str) : (a == b) = decide (a = b) := by rw [Bool.eq_iff_iff, beq_iff_eq, decide_eq_true_iff]
theorem yesno (z : Str) : inV (.str z) [.str "yes", .str "no"] = (decide (("yes" : Str) = z) || decide (("no" : Str) = z)) := by
  show (("yes" : Str) == z || (("no" : Str) == z || false)) = _
  rw [Bool.or_false, sbeq, sbeq]
def rNi (K : PySem.W.Frag) : R2 := fun x y H Q => ∃ p xs, y = .ref p ∧ (SqL K H p xs ∨ SqT K H p xs) ∧ flatV x = true ∧ xs.all flatV = true ∧ ∀ b, inV x xs = b → Q (.bl (!b)) H
theorem niB {X : Cx} (h : X.K = K) : OpR X (compareOp .NotIn) (rNi K) := by
  subst h
  intro pins s σ H x y v u Q I rx ry h
  obtain ⟨p, xs, e1, e2, e3, e4, q⟩ := h
  exact op_notIn_seq pins s σ H x y v u Q I rx ry ⟨p, xs, e1, e2, e3, e4, q _ rfl⟩
theorem all_take {α : Type} {f : α → Bool} {l : List α} {j : Nat} {c : α} (h : l[j]? = some c) : (l.take (j + 1)).map f = (l.take j).map f ++ [f c] := by
  rw [List.take_add_one, h, List.map_append]
  rfl
theorem ok_is_fact {f : Addr} {fd : FuncData} (F : Fun K "is_fact" "is_fact" s_is_fact f fd) (T : Txt mg) (c8 : ∃ t, mg "MAX_LETTERS" = some (.int 8 t)) : FnOk P w K mg base CX0 1 f fd ["value"] (spFact K) := by
  obtain ⟨t8, e8⟩ := c8
  refine F.ok sc_is_fact (fun vs H Q E h => ?_) (fun cdv A outer s H vs Q E hr h => ?_)
  · obtain ⟨v, rfl, _⟩ := h
    rfl
  · obtain ⟨v, rfl, hk, q⟩ := h
    refine ⟨_, (pss_cons (ps_if (PW.pt (pw_or (pt_not (pt_val (pe_callB (isiQ (K := K) rfl) (by rfl) T.isinstance_ (by decide +kernel) (pa_cons (pv 0) (pa_cons (pe_bltn (v := .ty "str") (by rfl) T.str_ (by decide +kernel) rfl) pa_nil))))) (pw_or1 (pt_not (pt_chain op_le op_le pe_int (pe_callB (lenQ (K := K) rfl) (by rfl) T.len_ (by decide +kernel) (pa_cons (pv 0) pa_nil)) (pe_glob (v := .int 8) rfl e8 ⟨_, rfl⟩))))))
  (pss_one (ps_ret pe_bl))
  pss_nil)
  (pss_one (ps_ret (pe_and (pe_cmpR (niB (K := K) rfl) (pv 0) (pe_tup (pa_cons pe_str (pa_cons pe_str pa_nil))) (by rfl)) (pe_one (pe_callB (allQ (K := K) rfl (by rfl)) (by rfl) T.all_ (by decide +kernel) (pa_cons (pe_lc (own := [("letter", 1)]) (g := gName 1) (by rfl) sc_is_fact.nd (pi_str (pv 0)) (blkOk_by (by kernel_rfl)) (fun _ _ _ _ _ => (pg_name (i := 1) sc_is_fact.nd rfl (.inl rfl))) (fun _ _ _ _ _ => pts_nil) (fun _ _ _ _ _ => (pe_chain op_le_str op_le_str pe_str (pv 1) pe_str))) pa_nil))))))), ?_⟩
    rcases hk with ⟨z, rfl, hz, _⟩ | ⟨hn, t, ty, ek⟩
    · refine ⟨_, rfl, .str z, .ty "str", .type "str", .type "str", true, rfl, .ty _, .base (.str z), kitStr, _, rfl, iteF ?_⟩
      refine ⟨_, rfl, .inr ⟨z, rfl, Nat.le_of_lt (small hz), 1, _, rfl, rfl, _, rfl, ite2 (fun h1 => ?_) (fun h1 => ?_)⟩⟩
      · refine ⟨_, 8, rfl, rfl, _, rfl, ?_⟩
        have h1' : (1 : Int) ≤ z.length := of_decide_eq_true h1
        by_cases h8 : (z.length : Int) ≤ 8
        · rw [decide_eq_true h8]
          refine iteF ?_
          refine ⟨_, rfl, lenOk 2, fun t nt => ⟨t, _, rfl, .inr (SqT.of upd_same), rfl, rfl, fun b hb => ⟨_, rfl, ?_⟩⟩⟩
          have s1 : Same H (upd H t (.tup [.str "yes", .str "no"])) := same_new nt
          rw [yesno] at hb
          cases b with
          | true =>
            refine iteF ?_
            have e : factV (.str z) = false := by
              show factS z = false
              unfold factS
              rcases (Bool.or_eq_true _ _).mp hb with h | h
              · rw [← of_decide_eq_true h]; rfl
              · rw [← of_decide_eq_true h]; rfl
            have q' := q _ s1
            rw [e] at q'
            exact q'
          | false =>
            refine iteT ?_
            obtain ⟨hb1, hb2⟩ := (Bool.or_eq_false_iff).mp hb
            refine ⟨_, rfl, z, rfl, fun D nD => ?_⟩
            have s2 := s1.trans (same_new (o := .lst []) nD)
            have nD1 : H D = none := s1.free nD
            refine lcS (fun j acc H2 => Same H H2 ∧ acc = ((z.cps.toList.take j).map low).map V.bl) ⟨s2, rfl⟩ ?_ ?_
            · rintro j c acc H2 hc hl e ⟨s3, ea⟩
              refine yesT ?_
              refine ⟨_, rfl, "a", _, rfl, rfl, _, rfl, ?_⟩
              rw [le_sign]
              have hj : j < 1000000 := by
                have := (Array.getElem?_eq_some_iff.mp hc).1
                have e2 : z.cps.size = z.length := rfl
                omega
              have fin : ∀ H4 b, H4 = H2 → b = low c → LcK (fun j acc H2 => Same H H2 ∧ acc = ((z.cps.toList.take j).map low).map V.bl) D j (.bl b) H4 := by
                rintro _ _ rfl rfl
                refine LcK.mk hl hj e ⟨fun b o eb => ?_, ?_⟩
                · rw [upd_ne (ne_of_none eb nD1)]
                  exact s3 b o eb
                · rw [ea, all_take (by rw [Array.getElem?_toList]; exact hc), List.map_append]
                  rfl
              refine ite2 (fun h1 => ?_) (fun h1 => ?_)
              · refine ⟨_, "z", rfl, rfl, ?_⟩
                rw [ge_sign]
                refine fin _ _ rfl ?_
                have h1' := of_decide_eq_true h1
                unfold low
                exact decide_eq_decide.mpr ⟨fun h => ⟨h1', h⟩, fun h => h.2⟩
              · refine fin _ _ rfl ?_
                have h1' : ¬ (97 ≤ c) := fun h => h1 (decide_eq_true h)
                unfold low
                exact (decide_eq_false (fun h => h1' h.1)).symm
            · rintro acc H2 hl e ⟨s3, ea⟩
              refine ⟨D, _, rfl, SqL.of (e.trans (by rw [ea])), ?_⟩
              have e2 : factV (.str z) = ((z.cps.toList.take z.cps.size).map low).all id := by
                show factS z = _
                unfold factS
                rw [decide_eq_true (show 1 ≤ z.length ∧ z.length ≤ 8 from ⟨by omega, by omega⟩), decide_eq_false (fun h => of_decide_eq_false hb1 h.symm), decide_eq_false (fun h => of_decide_eq_false hb2 h.symm)]
                rw [List.take_of_length_le (by rw [Array.length_toList]; exact Nat.le_refl _), List.all_map]
                rfl
              have q' := q _ s3
              rw [e2] at q'
              exact q'
        · rw [decide_eq_false h8]
          refine iteT ?_
          have e : factV (.str z) = false := by
            show factS z = false
            unfold factS
            rw [decide_eq_false (fun h => h8 (by omega))]
            rfl
          have q' := q _ (Same.refl H)
          rw [e] at q'
          exact q'
      · refine ⟨_, rfl, iteT ?_⟩
        have e : factV (.str z) = false := by
          show factS z = false
          unfold factS
          rw [decide_eq_false (fun h => h1 (decide_eq_true (by omega)))]
          rfl
        have q' := q _ (Same.refl H)
        rw [e] at q'
        exact q'
    · refine ⟨_, rfl, v, .ty "str", t, .type "str", false, rfl, .ty _, ty, ek, _, rfl, iteT ?_⟩
      have e : factV v = false := by
        cases v with
        | str z => exact absurd rfl (hn z)
        | _ => rfl
      have q' := q _ (Same.refl H)
      rw [e] at q'
      exact q'
end
/-! integers -/
def intV : V → Bool
  | .int i => decide ((if i < 0 then -i else i) < 10 ^ (60 : Int).toNat)
  | _ => false
def KindI (K : PySem.W.Frag) (H : Hp) (v : V) : Prop := (∃ i, v = .int i) ∨ (∃ b, v = .bl b) ∨ ((∀ i, v ≠ .int i) ∧ ∃ t, TyX K H v t ∧ PySem.W.kitOne K t (.type "int") = some false)
section
variable {P : Program} {w : World} {K : PySem.W.Frag} {mg : Str → Option Value} {base : Heap}
def spInteger (K : PySem.W.Frag) : Sp := fun vs H Q _ => ∃ v, vs = [v] ∧ KindI K H v ∧ Q (.bl (intV v)) H
theorem kitII {K : PySem.W.Frag} : PySem.W.kitOne K (.type "int") (.type "int") = some true := kit_ty (by decide +kernel)
theorem kitIB {K : PySem.W.Frag} : PySem.W.kitOne K (.type "int") (.type "bool") = some false := kit_ty (by decide +kernel)
theorem kitBI {K : PySem.W.Frag} : PySem.W.kitOne K (.type "bool") (.type "int") = some true := kit_ty (by decide +kernel)
theorem kitBB {K : PySem.W.Frag} : PySem.W.kitOne K (.type "bool") (.type "bool") = some true := kit_ty (by decide +kernel)
theorem ok_is_integer {f : Addr} {fd : FuncData} (F : Fun K "is_integer" "is_integer" s_is_integer f fd) (T : Txt mg) : FnOk P w K mg base CX0 1 f fd ["value"] (spInteger K) := by
  refine F.ok sc_is_integer (fun vs H Q E h => ?_) (fun cdv A outer s H vs Q E hr h => ?_)
  · obtain ⟨v, rfl, _⟩ := h
    rfl
  · obtain ⟨v, rfl, hk, q⟩ := h
    refine ⟨_, (pss_cons (ps_if (PW.pt (pw_or (pt_not (pt_val (pe_callB (isiQ (K := K) rfl) (by rfl) T.isinstance_ (by decide +kernel) (pa_cons (pv 0) (pa_cons (pe_bltn (v := .ty "int") (by rfl) T.int_ (by decide +kernel) rfl) pa_nil))))) (pw_or1 (pt_val (pe_callB (isiQ (K := K) rfl) (by rfl) T.isinstance_ (by decide +kernel) (pa_cons (pv 0) (pa_cons (pe_bltn (v := .ty "bool") (by rfl) T.bool_ (by decide +kernel) rfl) pa_nil)))))))
  (pss_one (ps_ret pe_bl))
  pss_nil)
  (pss_one (ps_ret (pe_cmpR op_lt (pe_callB call_abs (by rfl) T.abs_ (by decide +kernel) (pa_cons (pv 0) pa_nil)) (pe_op op_pow pe_int pe_int) (nomark _))))), ?_⟩
    rcases hk with ⟨i, rfl⟩ | ⟨b, rfl⟩ | ⟨hn, t, ty, ek⟩
    · refine ⟨_, rfl, .int i, .ty "int", .type "int", .type "int", true, rfl, .ty _, .base (.int i), kitII, _, rfl, iteF ?_⟩
      refine ⟨_, rfl, .int i, .ty "bool", .type "int", .type "bool", false, rfl, .ty _, .base (.int i), kitIB, _, rfl, iteF ?_⟩
      exact ⟨_, rfl, i, rfl, _, _, rfl, rfl, p60, _, _, rfl, rfl, q⟩
    · refine ⟨_, rfl, .bl b, .ty "int", .type "bool", .type "int", true, rfl, .ty _, .base (.bl b), kitBI, _, rfl, iteF ?_⟩
      exact ⟨_, rfl, .bl b, .ty "bool", .type "bool", .type "bool", true, rfl, .ty _, .base (.bl b), kitBB, _, rfl, iteT q⟩
    · refine ⟨_, rfl, v, .ty "int", t, .type "int", false, rfl, .ty _, ty, ek, _, rfl, iteT ?_⟩
      have e : intV v = false := by
        cases v with
        | int i => exact absurd rfl (hn i)
        | _ => rfl
      rw [e] at q
      exact q
end
end Eh

set_option Elab.async false
set_option linter.all false
set_option maxRecDepth 100000
namespace Eh
open PySem PySem.Spec PyProof.Rows L2
/-! ### a value that may be a node -/
def Elt (K : PySem.W.Frag) (H : Hp) (v : V) : Prop := (∃ z, v = .str z ∧ Asc z) ∨ (∃ i, v = .int i) ∨ (∃ b, v = .bl b) ∨ v = .non ∨ ∃ a xs, v = .ref a ∧ SqT K H a xs
theorem ty_tup {K : PySem.W.Frag} {H : Hp} {a : Addr} {xs : List V} (h : SqT K H a xs) : TyX K H (.ref a) (.type "tuple") := by
  rcases h with (h | ⟨o, h⟩) | ⟨o, its, n, h, c, _⟩
  · exact .base (.tup h)
  · exact .fTuple h
  · exact .kTuple h c
theorem Elt.tk {K : PySem.W.Frag} {H H' : Hp} {v : V} (h : Elt K H v) (t : Tk H H') : Elt K H' v := by
  rcases h with h | h | h | h | ⟨a, xs, e, h⟩
  · exact .inl h
  · exact .inr (.inl h)
  · exact .inr (.inr (.inl h))
  · exact .inr (.inr (.inr (.inl h)))
  · exact .inr (.inr (.inr (.inr ⟨a, xs, e, t.seq h⟩)))
theorem Elt.kind {K : PySem.W.Frag} {H : Hp} {v : V} (h : Elt K H v) : Kind K H v := by
  rcases h with h | ⟨i, rfl⟩ | ⟨b, rfl⟩ | rfl | ⟨a, xs, rfl, h⟩
  · exact .inl h
  · exact .inr ⟨fun z e => (nomatch e), _, .base (.int i), kit_ty (by decide +kernel)⟩
  · exact .inr ⟨fun z e => (nomatch e), _, .base (.bl b), kit_ty (by decide +kernel)⟩
  · exact .inr ⟨fun z e => (nomatch e), _, .base .non, kit_ty (by decide +kernel)⟩
  · exact .inr ⟨fun z e => (nomatch e), _, ty_tup h, kit_ty (by decide +kernel)⟩
theorem Elt.kindI {K : PySem.W.Frag} {H : Hp} {v : V} (h : Elt K H v) : KindI K H v := by
  rcases h with ⟨z, rfl, _⟩ | ⟨i, rfl⟩ | ⟨b, rfl⟩ | rfl | ⟨a, xs, rfl, h⟩
  · exact .inr (.inr ⟨fun i e => (nomatch e), _, .base (.str z), kit_ty (by decide +kernel)⟩)
  · exact .inl ⟨i, rfl⟩
  · exact .inr (.inl ⟨b, rfl⟩)
  · exact .inr (.inr ⟨fun i e => (nomatch e), _, .base .non, kit_ty (by decide +kernel)⟩)
  · exact .inr (.inr ⟨fun i e => (nomatch e), _, ty_tup h, kit_ty (by decide +kernel)⟩)
def factKinds : List Str := ["fact", "not"]
def sureKinds : List Str := ["yes", "no"]
def zeroV : V → Bool
  | .int i => decide (i = 0)
  | _ => false
def fewV : V → Bool
  | .int i => decide (2 ≤ i) && decide (i ≤ 4)
  | _ => false
/-- whether a text and a value are a node -/
def nodeAB (k : Str) (b : V) : Bool :=
  if factKinds.contains k then factV b
  else if sureKinds.contains k then zeroV b
  else nodeKinds.contains k && fewV b
def pairNd (a b : V) : Option (Str × V) := match a with
  | .str k => if nodeAB k b = true then some (k, b) else none
  | _ => none
/-- the tuples stay, lists stay lists, dicts stay -/
structure Ku (H H' : Hp) : Prop where
  tk : Tk H H'
  ls : ∀ a xs, H a = some (.lst xs) → ∃ ys, H' a = some (.lst ys)
  dk : ∀ a kvs, H a = some (.dK kvs) → H' a = some (.dK kvs)
theorem ku_same {H H' : Hp} (s : Same H H') : Ku H H' := ⟨stk s, fun a xs e => ⟨xs, s _ _ e⟩, fun a kvs e => s _ _ e⟩
theorem Ku.trans {H H1 H2 : Hp} (a : Ku H H1) (b : Ku H1 H2) : Ku H H2 := ⟨a.tk.trans b.tk, fun p xs e => (a.ls p xs e).elim fun ys e => b.ls p ys e, fun p kvs e => b.dk _ _ (a.dk _ _ e)⟩
theorem Gr.ku {d : Addr} {H H' : Hp} (g : Gr d H H') (D : D3 H d) : Ku H H' := by
  refine ⟨g.tk D, fun a xs e => ?_, fun a kvs e => ?_⟩
  · by_cases z : a = d
    · obtain ⟨x, b, c, e'⟩ := g.dice
      exact ⟨_, by rw [z]; exact e'⟩
    · exact ⟨xs, g.keep a _ z e⟩
  · obtain ⟨x, b, c, e'⟩ := D
    exact g.keep a _ (fun z => by rw [z, e'] at e; cases e) e
theorem Ku.put {H : Hp} {l : Addr} {xs ys : List V} (e : H l = some (.lst xs)) : Ku H (upd H l (.lst ys)) := by
  refine ⟨Tk.put e, fun a zs h => ?_, fun a kvs h => ?_⟩
  · by_cases z : a = l
    · exact ⟨ys, by rw [z]; exact upd_same⟩
    · exact ⟨zs, by rw [upd_ne z]; exact h⟩
  · rw [upd_ne (fun z => by rw [z, e] at h; cases h)]
    exact h
/-- a value that is no tuple -/
def NoT (H : Hp) (v : V) : Prop := (∃ z, v = .str z) ∨ (∃ i, v = .int i) ∨ (∃ b, v = .bl b) ∨ v = .non ∨ (∃ a xs, v = .ref a ∧ H a = some (.lst xs)) ∨ ∃ a kvs, v = .ref a ∧ H a = some (.dK kvs)
theorem NoT.ku {H H' : Hp} {v : V} (h : NoT H v) (k : Ku H H') : NoT H' v := by
  rcases h with h | h | h | h | ⟨a, xs, e, h⟩ | ⟨a, kvs, e, h⟩
  · exact .inl h
  · exact .inr (.inl h)
  · exact .inr (.inr (.inl h))
  · exact .inr (.inr (.inr (.inl h)))
  · obtain ⟨ys, h⟩ := k.ls _ _ h
    exact .inr (.inr (.inr (.inr (.inl ⟨a, ys, e, h⟩))))
  · exact .inr (.inr (.inr (.inr (.inr ⟨a, kvs, e, k.dk _ _ h⟩))))
theorem NoT.ty {K : PySem.W.Frag} {H : Hp} {v : V} (h : NoT H v) : ∃ u, TyX K H v u ∧ PySem.W.kitOne K u (.type "tuple") = some false := by
  rcases h with ⟨z, rfl⟩ | ⟨i, rfl⟩ | ⟨b, rfl⟩ | rfl | ⟨a, xs, rfl, h⟩ | ⟨a, kvs, rfl, h⟩
  · exact ⟨_, .base (.str z), kit_ty (by decide +kernel)⟩
  · exact ⟨_, .base (.int i), kit_ty (by decide +kernel)⟩
  · exact ⟨_, .base (.bl b), kit_ty (by decide +kernel)⟩
  · exact ⟨_, .base .non, kit_ty (by decide +kernel)⟩
  · exact ⟨_, .base (.lst h), kit_ty (by decide +kernel)⟩
  · exact ⟨_, .base (.dK h), kit_ty (by decide +kernel)⟩
inductive NdV (K : PySem.W.Frag) (H : Hp) : V → Option (Str × V) → Prop
  | other {v : V} : NoT H v → NdV K H v none
  | tup {p : Addr} {xs : List V} : SqT K H p xs → xs.length ≠ 2 → xs.length < 1000000 → NdV K H (.ref p) none
  | pair {p : Addr} {a b : V} : SqT K H p [a, b] → Elt K H a → Elt K H b → NdV K H (.ref p) (pairNd a b)
theorem NdV.ku {K : PySem.W.Frag} {H H' : Hp} {v : V} {n : Option (Str × V)} (h : NdV K H v n) (k : Ku H H') : NdV K H' v n := by
  cases h with
  | other t => exact .other (t.ku k)
  | tup h n l => exact .tup (k.tk.seq h) n l
  | pair h a b => exact .pair (k.tk.seq h) (a.tk k.tk) (b.tk k.tk)
structure SignsAt (K : PySem.W.Frag) (w : World) (mg : Str → Option Value) (p : Addr) : Prop where
  g : mg "SIGNS" = some (.ref p)
  d : ∃ es n, KDict K w p es n ∧ ∀ z, ∃ r, PySem.W.nsIn K p z = some r ∧ r.isSome = nodeKinds.contains z
theorem signs_mk {K : PySem.W.Frag} {w : World} {mg : Str → Option Value} {p : Addr} {n : Nat} {h1 h2 h3 h4 : Int} {t1 t2 t3 t4 : Tok} {v1 v2 v3 v4 : Value} (g : mg "SIGNS" = some (.ref p))
    (l : K.lookup p = some ⟨.type "dict", none, .dict #[⟨h1, .str "all" t1, v1⟩, ⟨h2, .str "mine" t2, v2⟩, ⟨h3, .str "some" t3, v3⟩, ⟨h4, .str "yours" t4, v4⟩] n, #[]⟩)
    (hh : PySem.W.KeysLit w.params [⟨h1, .str "all" t1, v1⟩, ⟨h2, .str "mine" t2, v2⟩, ⟨h3, .str "some" t3, v3⟩, ⟨h4, .str "yours" t4, v4⟩]) (low : (p == sysModules) = false) : SignsAt K w mg p := by
  refine ⟨g, _, n, ⟨l, hh, low⟩, fun z => ?_⟩
  have c : nodeKinds.contains z = (("all" : Str) == z || (("some" : Str) == z || (("mine" : Str) == z || (("yours" : Str) == z || false)))) := (inV_strs z nodeKinds).symm
  rw [c]
  unfold PySem.W.nsIn
  rw [l]
  show ∃ r, (match List.find? (fun x => x.key.isStr z) [(⟨h1, .str "all" t1, v1⟩ : DictEntry), ⟨h2, .str "mine" t2, v2⟩, ⟨h3, .str "some" t3, v3⟩, ⟨h4, .str "yours" t4, v4⟩] with
          | some e => some (some e.val)
          | none => if (List.any [(⟨h1, .str "all" t1, v1⟩ : DictEntry), ⟨h2, .str "mine" t2, v2⟩, ⟨h3, .str "some" t3, v3⟩, ⟨h4, .str "yours" t4, v4⟩] fun x => x.refKey) = true then none else some none) = some r ∧ _
  have i (x : Str) (t : Tok) : (Value.str x t).isStr z = (x == z) := rfl
  cases e1 : (("all" : Str) == z) with
  | true => exact ⟨some v1, by simp only [List.find?_cons, i, e1], rfl⟩
  | false =>
    cases e2 : (("mine" : Str) == z) with
    | true => exact ⟨some v2, by simp only [List.find?_cons, i, e1, e2], by simp⟩
    | false =>
      cases e3 : (("some" : Str) == z) with
      | true => exact ⟨some v3, by simp only [List.find?_cons, i, e1, e2, e3], by simp⟩
      | false =>
        cases e4 : (("yours" : Str) == z) with
        | true => exact ⟨some v4, by simp only [List.find?_cons, i, e1, e2, e3, e4], by simp⟩
        | false => exact ⟨none, by simp only [List.find?_cons, i, e1, e2, e3, e4, List.find?_nil]; rfl, by simp⟩
section
variable {P : Program} {w : World} {K : PySem.W.Frag} {mg : Str → Option Value} {base : Heap}
def rInKd (p : Addr) : R2 := fun x y H Q => ∃ z : Str, x = .str z ∧ y = .ref p ∧ Q (.bl (nodeKinds.contains z)) H
theorem inKd {X : Cx} {p : Addr} (S : SignsAt K w mg p) (h : X.K = K) (hw : X.w = w) : OpR X (compareOp .In) (rInKd p) := by
  subst h hw
  obtain ⟨es, n, D, hz⟩ := S.d
  intro pins s σ H x y v u Q I rx ry ⟨z, e1, e2, q⟩
  obtain ⟨r, hr, hs⟩ := hz z
  exact op_in_kd D pins s σ H x y v u Q I rx ry ⟨z, r, e1, e2, hr, by rw [hs]; exact q⟩
def spIsNode (K : PySem.W.Frag) : Sp := fun vs H Q _ => ∃ v nd, vs = [v] ∧ NdV K H v nd ∧ ∀ H', Same H H' → Q (.bl nd.isSome) H'
theorem neSelf {A B : Prop} {v : V} (h : B) : if (!decide (v = v)) = true then A else B := by
  rw [decide_eq_true rfl]
  exact iteF h
theorem kitTT {K : PySem.W.Frag} : PySem.W.kitOne K (.type "tuple") (.type "tuple") = some true := kit_ty (by decide +kernel)
theorem intZ {i : Int} (h : i = 0) : intV (.int i) = true := by
  subst h
  decide +kernel
theorem intS {i : Int} (h : 2 ≤ i ∧ i ≤ 4) : intV (.int i) = true := by
  show decide _ = true
  rw [decide_eq_true_iff, show (10 : Int) ^ (60 : Int).toNat = 10 ^ 60 from rfl]
  split <;> omega
theorem elt_str {K : PySem.W.Frag} {H : Hp} {v : V} (h : Elt K H v) : (∃ z, v = .str z) ∨ ((∀ z, v ≠ .str z) ∧ ∃ t, TyX K H v t ∧ PySem.W.kitOne K t (.type "str") = some false) :=
  h.kind.imp (fun ⟨z, e, _⟩ => ⟨z, e⟩) id
theorem ok_is_node {fF fI p f : Addr} {fdF fdI fd : FuncData} (F : Fun K "is_node" "is_node" s_is_node f fd) (T : Txt mg) (S : SignsAt K w mg p) (c2 : ∃ t, mg "LEAST_PARTS" = some (.int 2 t)) (c4 : ∃ t, mg "MOST_PARTS" = some (.int 4 t))
    (C_is_fact : Cal P w K mg base 1 "is_fact" fF fdF ["value"] (spFact K)) (C_is_integer : Cal P w K mg base 1 "is_integer" fI fdI ["value"] (spInteger K)) : FnOk P w K mg base CX0 2 f fd ["value"] (spIsNode K) := by
  obtain ⟨t2, e2⟩ := c2
  obtain ⟨t4, e4⟩ := c4
  refine F.ok sc_is_node (fun vs H Q E h => ?_) (fun cdv A outer s H vs Q E hr h => ?_)
  · obtain ⟨v, nd, rfl, _⟩ := h
    rfl
  · obtain ⟨v, nd, rfl, hv, q⟩ := h
    refine ⟨_, (pss_cons (ps_if (PW.pt (pw_or (pt_not (pt_val (pe_callB (isiQ (K := K) rfl) (by rfl) T.isinstance_ (by decide +kernel) (pa_cons (pv 0) (pa_cons (pe_bltn (v := .ty "tuple") (by rfl) T.tuple_ (by decide +kernel) rfl) pa_nil))))) (pw_or1 (pt_cmpR op_ne (pe_callB (lenQ (K := K) rfl) (by rfl) T.len_ (by decide +kernel) (pa_cons (pv 0) pa_nil)) pe_int (nomark _)))))
  (pss_one (ps_ret pe_bl))
  pss_nil)
  (pss_cons (ps_asg (pv 0) (pg_tup (by rfl) (pgs_cons (pg_name (i := 1) sc_is_node.nd rfl (.inl rfl)) (pgs_cons (pg_name (i := 2) sc_is_node.nd rfl (.inl rfl)) pgs_nil))))
  (pss_cons (ps_if (pt_not (pt_val (pe_callB (isiQ (K := K) rfl) (by rfl) T.isinstance_ (by decide +kernel) (pa_cons (pv 1) (pa_cons (pe_bltn (v := .ty "str") (by rfl) T.str_ (by decide +kernel) rfl) pa_nil)))))
  (pss_one (ps_ret pe_bl))
  pss_nil)
  (pss_cons (ps_if (pt_cmpR (inQ (K := K) rfl) (pv 1) (pe_tup (pa_cons pe_str (pa_cons pe_str pa_nil))) (by rfl))
  (pss_one (ps_ret (pe_call C_is_fact.G hr (by rfl) C_is_fact.m C_is_fact.k C_is_fact.b .nil pass0 (pa_cons (pv 2) pa_nil))))
  pss_nil)
  (pss_cons (ps_if (pt_cmpR (inQ (K := K) rfl) (pv 1) (pe_tup (pa_cons pe_str (pa_cons pe_str pa_nil))) (by rfl))
  (pss_one (ps_ret (pe_and (pe_call C_is_integer.G hr (by rfl) C_is_integer.m C_is_integer.k C_is_integer.b .nil pass0 (pa_cons (pv 2) pa_nil)) (pe_one (pe_cmpR op_eq (pv 2) pe_int (nomark _))))))
  pss_nil)
  (pss_one (ps_ret (pe_and (pe_cmpR (inKd S rfl rfl) (pv 1) (pe_glob (v := .ref p) rfl S.g rfl) (by rfl)) (pe_and (pe_call C_is_integer.G hr (by rfl) C_is_integer.m C_is_integer.k C_is_integer.b .nil pass0 (pa_cons (pv 2) pa_nil)) (pe_one (pe_chain op_le op_le (pe_glob (v := .int 2) rfl e2 ⟨_, rfl⟩) (pv 2) (pe_glob (v := .int 4) rfl e4 ⟨_, rfl⟩)))))))))))), ?_⟩
    cases hv with
    | other hno =>
      obtain ⟨u, ty, hk⟩ := hno.ty (K := K)
      exact ⟨_, rfl, v, .ty "tuple", _, .type "tuple", false, rfl, .ty _, ty, hk, _, rfl, iteT (q _ (Same.refl H))⟩
    | tup hs hn hl =>
      rename_i p0 xs
      refine ⟨_, rfl, .ref p0, .ty "tuple", _, .type "tuple", true, rfl, .ty _, ty_tup hs, kitTT, _, rfl, iteF ⟨_, rfl, .inl ⟨p0, xs, rfl, .inr hs, ?_⟩⟩⟩
      refine ⟨rfl, _, rfl, ?_⟩
      rw [decide_eq_false (fun e => hn (by injection e with e; omega))]
      exact iteT (q _ (Same.refl H))
    | pair hs ha hb =>
      rename_i p0 a b
      refine ⟨_, rfl, .ref p0, .ty "tuple", _, .type "tuple", true, rfl, .ty _, ty_tup hs, kitTT, _, rfl, iteF ⟨_, rfl, .inl ⟨p0, _, rfl, .inr hs, ?_⟩⟩⟩
      refine ⟨rfl, _, rfl, neSelf ?_⟩
      refine ⟨_, rfl, p0, _, rfl, hs, rfl, _, _, rfl, _, _, rfl, rfl, ?_⟩
      rcases elt_str ha with ⟨k, rfl⟩ | ⟨hn, t, ty, ek⟩
      · refine ⟨_, rfl, .str k, .ty "str", .type "str", .type "str", true, rfl, .ty _, .base (.str k), kitStr, _, rfl, iteF ?_⟩
        refine ⟨_, rfl, lenOk 2, fun t1 n1 => ⟨t1, factKinds.map V.str, rfl, .inr (SqT.of upd_same), rfl, flat_strs _, _, rfl, ?_⟩⟩
        have s1 : Same H (upd H t1 (.tup (factKinds.map V.str))) := same_new n1
        have q : ∀ H', Same H H' → Q (.bl (nodeAB k b)) H' := fun H' s => by
          have e : (pairNd (.str k) b).isSome = nodeAB k b := by
            show (if nodeAB k b = true then some (k, b) else none).isSome = nodeAB k b
            cases nodeAB k b <;> rfl
          rw [← e]
          exact q H' s
        refine ite2 (fun h1 => ?_) (fun h1 => ?_)
        · have h1 : factKinds.contains k = true := (inV_strs k factKinds).symm.trans h1
          refine ⟨_, rfl, b, rfl, (hb.tk (stk s1)).kind, fun H' s2 => ?_⟩
          have q' := q H' (s1.trans s2)
          unfold nodeAB at q'
          rw [if_pos h1] at q'
          exact q'
        have h1 : ¬ factKinds.contains k = true := fun z => h1 ((inV_strs k factKinds).trans z)
        refine ⟨_, rfl, lenOk 2, fun t3 n3 => ⟨t3, sureKinds.map V.str, rfl, .inr (SqT.of upd_same), rfl, flat_strs _, _, rfl, ?_⟩⟩
        have s3 : Same H _ := s1.trans (same_new (o := .tup (sureKinds.map V.str)) n3)
        refine ite2 (fun h2 => ?_) (fun h2 => ?_)
        · have h2 : sureKinds.contains k = true := (inV_strs k sureKinds).symm.trans h2
          have q' := q _ s3
          unfold nodeAB at q'
          rw [if_neg h1, if_pos h2] at q'
          refine ⟨_, rfl, b, rfl, (hb.tk (stk s3)).kindI, _, rfl, ?_⟩
          cases ei : intV b with
          | false =>
            refine iteF ?_
            have e : zeroV b = false := by
              cases b with
              | int i => exact decide_eq_false fun z => by rw [intZ z] at ei; cases ei
              | _ => rfl
            rw [e] at q'
            exact q'
          | true =>
            refine iteT ?_
            cases b with
            | int i =>
              refine ⟨_, rfl, rfl, ?_⟩
              have e : decide ((V.int i) = V.int 0) = decide (i = 0) := decide_eq_decide.mpr ⟨fun z => by injection z, fun z => by rw [z]⟩
              rw [e]
              exact q'
            | _ => cases ei
        have h2 : ¬ sureKinds.contains k = true := fun z => h2 ((inV_strs k sureKinds).trans z)
        have q' := q _ s3
        unfold nodeAB at q'
        rw [if_neg h1, if_neg h2] at q'
        refine ⟨_, rfl, k, rfl, rfl, _, rfl, ?_⟩
        cases ek : nodeKinds.contains k with
        | false =>
          rw [ek] at q'
          exact iteF q'
        | true =>
          rw [ek, Bool.true_and] at q'
          refine iteT ?_
          refine ⟨_, rfl, b, rfl, (hb.tk (stk s3)).kindI, _, rfl, ?_⟩
          cases ei : intV b with
          | false =>
            refine iteF ?_
            have e : fewV b = false := by
              cases b with
              | int i =>
                show (decide (2 ≤ i) && decide (i ≤ 4)) = false
                rw [Bool.and_eq_false_iff]
                by_cases h : 2 ≤ i
                · by_cases h' : i ≤ 4
                  · rw [intS ⟨h, h'⟩] at ei
                    cases ei
                  · exact .inr (decide_eq_false h')
                · exact .inl (decide_eq_false h)
              | _ => rfl
            rw [e] at q'
            exact q'
          | true =>
            refine iteT ?_
            cases b with
            | int i =>
              have q' : Q (.bl (decide (2 ≤ i) && decide (i ≤ 4))) _ := q'
              refine ⟨_, rfl, 2, i, rfl, rfl, _, rfl, ?_⟩
              cases e2 : decide ((2 : Int) ≤ i) with
              | true =>
                refine iteT ⟨i, 4, rfl, rfl, ?_⟩
                rw [e2, Bool.true_and] at q'
                exact q'
              | false =>
                rw [e2] at q'
                exact iteF q'
            | _ => cases ei
      · refine ⟨_, rfl, a, .ty "str", t, .type "str", false, rfl, .ty _, ty, ek, _, rfl, iteT ?_⟩
        have e : pairNd a b = none := by
          unfold pairNd
          split
          · exact absurd rfl (hn _)
          · rfl
        have q' := q _ (Same.refl H)
        rw [e] at q'
        exact q'
end
end Eh

set_option Elab.async false
set_option linter.all false
set_option maxRecDepth 100000
namespace Eh
open PySem PySem.Spec PyProof.Rows L2
def intOf : V → Int
  | .int i => i
  | _ => 0
/-- how many parts a node has -/
def partsN (n : Str × V) : Nat := if nodeKinds.contains n.1 = true then (intOf n.2).toNat else 0
/-- whether nodes are those of so many promises -/
def dueGo : Nat → List (Str × V) → Bool
  | l, [] => decide (l = 0)
  | 0, _ :: _ => false
  | l + 1, n :: ns => dueGo (l + partsN n) ns
def GoodN (ns : List (Str × V)) : Prop := ∀ n ∈ ns, nodeAB n.1 n.2 = true
theorem node_not_fact {k : Str} (h : nodeKinds.contains k = true) : factKinds.contains k = false ∧ sureKinds.contains k = false := by
  rcases node_cases h with rfl | rfl | rfl | rfl <;> exact ⟨by decide +kernel, by decide +kernel⟩
theorem good_int {k : Str} {t : V} (h : nodeAB k t = true) (hk : nodeKinds.contains k = true) : ∃ i : Int, t = .int i ∧ 2 ≤ i ∧ i ≤ 4 := by
  unfold nodeAB at h
  rw [(node_not_fact hk).1, (node_not_fact hk).2, hk] at h
  have h : fewV t = true := by simpa using h
  cases t with
  | int i =>
    have h : (decide (2 ≤ i) && decide (i ≤ 4)) = true := h
    rw [Bool.and_eq_true] at h
    exact ⟨i, rfl, of_decide_eq_true h.1, of_decide_eq_true h.2⟩
  | _ => cases h
theorem sum_set {pre : List Int} {x : Int} : (pre ++ [x]).sum = pre.sum + x := by
  rw [List.sum_append]
  simp
theorem ixN_last (n : Nat) : ixN (n + 1) (-1) = some n := by
  unfold ixN
  rw [if_neg (by omega), if_pos (by omega)]
  congr 1
  omega
theorem drop_at {α : Type} {l : List α} {i : Nat} {x : α} (h : l[i]? = some x) : l.drop i = x :: l.drop (i + 1) := by
  obtain ⟨hl, e⟩ := List.getElem?_eq_some_iff.mp h
  rw [List.drop_eq_getElem_cons hl, e]
/-- a stack of counts -/
def Stk (st : List Int) : Prop := ∀ x ∈ st, 0 ≤ x
theorem Stk.sum {st : List Int} (h : Stk st) : 0 ≤ st.sum := by
  induction st with
  | nil => exact Int.le_refl 0
  | cons a r ih =>
    rw [List.sum_cons]
    have := h a List.mem_cons_self
    have := ih fun x hx => h x (List.mem_cons_of_mem _ hx)
    omega
theorem map_last (pre : List Int) (x : Int) : (pre ++ [x]).map V.int = pre.map V.int ++ [V.int x] := by
  rw [List.map_append]
  rfl
theorem set_last (pre : List Int) (x y : Int) : (pre.map V.int ++ [V.int x]).set pre.length (V.int y) = (pre ++ [y]).map V.int := by
  rw [map_last, List.set_append_right _ _ (by rw [List.length_map]; exact Nat.le_refl _), List.length_map, Nat.sub_self]
  rfl
theorem due_step {s : Int} {n : Str × V} {ns : List (Str × V)} (h : 1 ≤ s) : dueGo s.toNat (n :: ns) = dueGo (s - 1 + partsN n).toNat ns := by
  have e : s.toNat = (s - 1).toNat + 1 := by omega
  rw [e, dueGo]
  congr 1
  omega
theorem last_or {st : List Int} : st = [] ∨ ∃ pre x, st = pre ++ [x] := by
  rcases List.eq_nil_or_concat st with h | ⟨pre, x, h⟩
  · exact .inl h
  · exact .inr ⟨pre, x, by rw [h, List.concat_eq_append]⟩
section
variable {P : Program} {w : World} {K : PySem.W.Frag} {mg : Str → Option Value} {base : Heap}
def spDepth (K : PySem.W.Frag) : Sp := fun vs H Q _ => ∃ p xs ns, vs = [.ref p] ∧ SqT K H p xs ∧ NdsAt K H xs ns ∧ GoodN ns ∧ xs.length < 1000 ∧
  ∀ (dd : Int) H', Same H H' → (1 ≤ dd ↔ dueGo 1 ns = true) → dd ≤ 1 + countIn nodeKinds ns → Q (.int dd) H'
theorem ok_depth_of {p0 f : Addr} {fd : FuncData} (F : Fun K "depth_of" "depth_of" s_depth_of f fd) (T : Txt mg) (S : SignsAt K w mg p0) : FnOk P w K mg base CX0 1 f fd ["nodes"] (spDepth K) := by
  refine F.ok sc_depth_of (fun vs H Q E h => ?_) (fun cdv A outer s H vs Q E hr h => ?_)
  · obtain ⟨p, xs, ns, rfl, _⟩ := h
    rfl
  · obtain ⟨p, xs, ns, rfl, hS, hN, hg, hlen, q⟩ := h
    refine ⟨_, (pss_cons (ps_set (i := 1) sc_depth_of.nd rfl (.inl rfl) (pe_lst (pa_cons pe_int pa_nil)))
  (pss_cons (ps_set (i := 2) sc_depth_of.nd rfl (.inl rfl) pe_int)
  (pss_cons (ps_for PassesOwn.never (by rfl) (pi_tup (pv 0)) (pg_tup (by rfl) (pgs_cons (pg_name (i := 3) sc_depth_of.nd rfl (.inl rfl)) (pgs_cons (pg_name (i := 4) sc_depth_of.nd rfl (.inl rfl)) pgs_nil)))
  (pss_cons (ps_while PassesOwn.never (PW.pt (pw_and (pt_truth (pv 1) (by intro _; rfl)) (pw_and1 (pt_cmpR op_eq (pe_ix (ixL (K := K) rfl) (pv 1) (pe_un un_neg pe_int) (fun _ _ => rfl)) pe_int (nomark _)))))
  (pss_one (ps_expr (bm0K (K := K) rfl (pe_bm0 PySem.F.plainAttrs_list PySem.F.slot_list_pop PySem.F.type_list_pop mt_pop (pv 1))))))
  (pss_cons (ps_if (pt_not (pt_truth (pv 1) (by intro _; rfl)))
  (pss_one (ps_ret pe_int))
  pss_nil)
  (pss_cons (ps_asg (pe_op op_sub (pe_ix (ixL (K := K) rfl) (pv 1) (pe_un un_neg pe_int) (fun _ _ => rfl)) pe_int) (pg_sub (pv 1) (pe_un un_neg pe_int) set_list))
  (pss_cons (ps_set (i := 2) sc_depth_of.nd rfl (.inl rfl) (pe_callB (call_max2 (by rfl)) (by rfl) T.max_ (by decide +kernel) (pa_cons (pv 2) (pa_cons (pe_callB (lenQ (K := K) rfl) (by rfl) T.len_ (by decide +kernel) (pa_cons (pv 1) pa_nil)) pa_nil))))
  (pss_one (ps_if (pt_cmpR (inKd S rfl rfl) (pv 3) (pe_glob (v := .ref p0) rfl S.g rfl) (by rfl))
  (pss_one (ps_expr (bmK (K := K) rfl (pe_bm PySem.F.plainAttrs_list PySem.F.slot_list_append PySem.F.type_list_append mt_append (pv 1) (pa_cons (pv 4) pa_nil)))))
  pss_nil)))))))
  (pss_one (ps_ret (pe_ifExp (pt_cmpR op_eq (pe_callB (cr_sum (by rfl)) (by rfl) T.sum_ (by decide +kernel) (pa_cons (pv 1) pa_nil)) pe_int (nomark _)) (pv 2) pe_int)))))), ?_⟩
    refine ⟨lenOk 1, fun l nl => ?_⟩
    have s1 : Same H (upd H l (.lst [.int 1])) := same_new nl
    have hxn := hN.length
    refine ⟨_, rfl, p, rfl, ⟨xs, (stk s1).seq hS⟩, for_tup (K := K) (a := p) (xs := xs) (fun i σ H2 => ∃ (st : List Int) (dp : Int) (x3 x4 : Option V), σ = [some (.ref p), some (.ref l), some (.int dp), x3, x4] ∧ Same H H2 ∧ H2 l = some (.lst (st.map V.int)) ∧ Stk st ∧
      dueGo 1 ns = dueGo st.sum.toNat (ns.drop i) ∧ (st.length : Int) ≤ 1 + countIn nodeKinds (ns.take i) ∧ dp ≤ 1 + countIn nodeKinds (ns.take i) ∧ (1 ≤ dp ∨ 0 < st.sum) ∧ st.length ≤ i + 1 ∧ (i = 0 → dp = 0)) ?_ (fun i σ H2 _ h => ?_) ?_ ?_⟩
    · refine ⟨[1], 0, none, none, rfl, s1, upd_same, ?_, rfl, ?_, ?_, .inr (by decide), Nat.le_refl _, fun _ => rfl⟩
      · intro x hx
        rw [List.mem_singleton.mp hx]
        decide
      · show (1 : Int) ≤ 1 + _
        omega
      · omega
    · obtain ⟨st, dp, x3, x4, _, s2, _⟩ := h
      exact (stk s2).seq hS
    · rintro i x σ H2 hi ⟨st, dp, x3, x4, rfl, s2, e2, hst, hdue, hsl, hdp, hor, hsi, _⟩
      obtain ⟨a, k, t, rfl, hk, ha⟩ := hN.get hi
      have hgn := hg _ (List.mem_of_getElem? hk)
      have hi9 : i < 1000 := by
        have := (List.getElem?_eq_some_iff.mp hi).1
        omega
      refine ⟨a, _, rfl, (stk s2).seq ha, rfl, _, _, rfl, _, _, rfl, rfl, ?_⟩
      refine ⟨fun m σ H3 => ∃ st' : List Int, m = st'.length ∧ σ = [some (.ref p), some (.ref l), some (.int dp), some (.str k), some t] ∧ Same H H3 ∧ H3 l = some (.lst (st'.map V.int)) ∧ Stk st' ∧ st'.sum = st.sum ∧ st'.length ≤ st.length, ⟨_, st, rfl, rfl, s2, e2, hst, rfl, Nat.le_refl _⟩, ?_⟩
      rintro m σ H3 ⟨st', rfl, rfl, s3, e3, hst', hsum, hl'⟩
      have nH : H l = none := nl
      have keep : ∀ {H' : Hp} {o : HO}, Same H H' → Same H (upd H' l o) := fun {H' o} s b u eb => by
        rw [upd_ne (ne_of_none eb nH)]
        exact s b u eb
      have dr := drop_at hk
      rcases last_or (st := st') with rfl | ⟨pre, x, rfl⟩
      · -- nothing is missing any more
        refine ⟨_, rfl, false, .inl ⟨[], SqL.of e3, rfl⟩, ?_⟩
        refine iteF ?_
        refine ⟨_, rfl, false, .inl ⟨[], SqL.of e3, rfl⟩, ?_⟩
        refine iteT ?_
        refine q 0 H3 s3 ⟨fun z => by omega, fun z => ?_⟩ (by omega)
        rw [hdue, ← hsum, dr] at z
        cases z
      · rw [map_last] at e3
        have hx0 : 0 ≤ x := hst' x (List.mem_append_right _ List.mem_cons_self)
        have hpre : Stk pre := fun y hy => hst' y (List.mem_append_left _ hy)
        have hsum : pre.sum + x = st.sum := by rw [← hsum, sum_set]
        have hl' : pre.length + 1 ≤ st.length := by rw [List.length_append] at hl'; exact hl'
        refine ⟨_, rfl, true, .inl ⟨_, SqL.of e3, by simp⟩, iteT ⟨_, rfl, _, rfl, l, _, (-1), .int x, rfl, rfl, SqL.of e3, atI_last, rfl, _, rfl, ?_⟩⟩
        by_cases hx : V.int x = V.int 0
        · rw [decide_eq_true hx]
          have hx : x = 0 := by injection hx
          refine iteT ⟨_, fun σ' H' h => h, ?_⟩
          refine ⟨_, rfl, .inl ⟨rfl, _, SqL.of e3⟩, l, _, .int x, rfl, rfl, e3, ?_, ?_⟩
          · rw [List.length_append, List.length_singleton, Nat.add_sub_cancel]
            exact List.getElem?_concat_length
          · rw [List.dropLast_concat]
            exact ⟨pre.length, by rw [List.length_append]; exact Nat.lt_succ_self _, pre, rfl, rfl, keep s3, upd_same, hpre, by omega, by omega⟩
        · rw [decide_eq_false hx]
          have hx : x ≠ 0 := fun e => hx (by rw [e])
          refine iteF ?_
          refine ⟨_, rfl, true, .inl ⟨_, SqL.of e3, by simp⟩, iteF ?_⟩
          refine ⟨_, rfl, _, rfl, l, _, (-1), .int x, rfl, rfl, SqL.of e3, atI_last, _, _, rfl, rfl, ?_⟩
          refine ⟨_, rfl, _, rfl, l, _, (-1), pre.length, rfl, rfl, e3, ?_, ?_⟩
          · rw [List.length_append, List.length_map]
            exact ixN_last _
          rw [set_last]
          have s4 : Same H (upd H3 l (.lst ((pre ++ [x - 1]).map V.int))) := keep s3
          have hst4 : Stk (pre ++ [x - 1]) := fun y hy => by
            rcases List.mem_append.mp hy with h | h
            · exact hpre y h
            · rw [List.mem_singleton.mp h]
              omega
          have hps := hpre.sum
          refine ⟨_, rfl, _, rfl, .inl ⟨l, _, rfl, .inl (SqL.of upd_same), _, _, rfl, ?_⟩⟩
          obtain ⟨d2, ed, hd1, hd2⟩ : ∃ d2 : Int, (if (((pre ++ [x - 1]).map V.int).length : Int) > dp then (((pre ++ [x - 1]).map V.int).length : Int) else dp) = d2 ∧ 1 ≤ d2 ∧ d2 ≤ 1 + countIn nodeKinds (ns.take i) := by
            refine ⟨_, rfl, ?_⟩
            rw [List.length_map, List.length_append, List.length_singleton]
            split <;> omega
          rw [ed]
          have ct : countIn nodeKinds (ns.take (i + 1)) = countIn nodeKinds (ns.take i) + countIn nodeKinds [(k, t)] := by rw [take_succ' hk, countIn_app]
          refine ⟨_, rfl, k, rfl, rfl, _, rfl, ?_⟩
          cases ek : nodeKinds.contains k with
          | true =>
            obtain ⟨ti, rfl, ht2, ht4⟩ := good_int hgn ek
            rw [countIn_one, if_pos ek] at ct
            refine iteT ⟨_, rfl, .inl ⟨rfl, _, SqL.of upd_same⟩, _, rfl, l, _, .int ti, rfl, rfl, upd_same, small (by rw [List.length_map, List.length_append, List.length_singleton]; omega), ?_⟩
            rw [← map_last]
            refine ⟨(pre ++ [x - 1]) ++ [ti], d2, _, _, rfl, keep s4, upd_same, ?_, ?_, ?_, ?_, ?_, ?_, fun e => by omega⟩
            · intro y hy
              rcases List.mem_append.mp hy with h | h
              · exact hst4 y h
              · rw [List.mem_singleton.mp h]
                omega
            · rw [hdue, dr, ← hsum, due_step (by omega), sum_set, sum_set]
              congr 2
              unfold partsN
              rw [if_pos ek]
              show pre.sum + x - 1 + ((ti.toNat : Nat) : Int) = _
              omega
            · rw [List.length_append, List.length_append, List.length_singleton, List.length_singleton]
              omega
            · omega
            · exact .inl hd1
            · rw [List.length_append, List.length_append, List.length_singleton, List.length_singleton]
              omega
          | false =>
            rw [countIn_one, if_neg (by rw [ek]; exact Bool.false_ne_true)] at ct
            refine iteF ⟨pre ++ [x - 1], d2, _, _, rfl, s4, upd_same, hst4, ?_, ?_, ?_, ?_, ?_, fun e => by omega⟩
            · rw [hdue, dr, ← hsum, due_step (by omega), sum_set]
              congr 2
              unfold partsN
              rw [if_neg (by rw [ek]; exact Bool.false_ne_true)]
              show pre.sum + x - 1 + 0 = _
              omega
            · rw [List.length_append, List.length_singleton]
              omega
            · omega
            · exact .inl hd1
            · rw [List.length_append, List.length_singleton]
              omega
    · rintro σ H2 ⟨st, dp, x3, x4, rfl, s2, e2, hst, hdue, hsl, hdp, hor, hsi, h0⟩
      refine ⟨_, rfl, l, st, rfl, SqL.of e2, rfl, _, rfl, ?_⟩
      rw [hxn, List.drop_length] at hdue
      rw [hxn, List.take_length] at hsl hdp
      have hs := hst.sum
      have hd : dueGo 1 ns = decide (st.sum.toNat = 0) := hdue
      refine ite2 (fun h => ?_) (fun h => ?_)
      · have h : V.int st.sum = V.int 0 := of_decide_eq_true h
        have h : st.sum = 0 := by injection h
        refine ⟨_, rfl, q dp H2 s2 ⟨fun _ => by rw [hd]; exact decide_eq_true (by omega), fun _ => by omega⟩ hdp⟩
      · have h : st.sum ≠ 0 := fun e => h (decide_eq_true (by rw [e]))
        exact q 0 H2 s2 ⟨fun z => by omega, fun z => by rw [hd] at z; have := of_decide_eq_true z; omega⟩ (by omega)
end
end Eh

set_option Elab.async false
set_option linter.all false
set_option maxRecDepth 100000
namespace Eh
open PySem PySem.Spec PyProof.Rows L2
/-- the facts of nodes -/
def factsN (ns : List (Str × V)) : List Str := ns.filterMap fun n => if factKinds.contains n.1 = true then (match n.2 with | .str z => some z | _ => none) else none
theorem good_fact {k : Str} {t : V} (h : nodeAB k t = true) (hk : factKinds.contains k = true) : ∃ z, t = .str z ∧ factS z = true := by
  unfold nodeAB at h
  rw [if_pos hk] at h
  cases t with
  | str z => exact ⟨z, rfl, h⟩
  | _ => cases h
theorem factsN_one {k : Str} {t : V} {z : Str} (hk : factKinds.contains k = true) (ht : t = .str z) : factsN [(k, t)] = [z] := by
  subst ht
  unfold factsN
  simp only [List.filterMap_cons, hk, if_true, List.filterMap_nil]
theorem factsN_none {k : Str} {t : V} (hk : factKinds.contains k = false) : factsN [(k, t)] = [] := by
  unfold factsN
  simp only [List.filterMap_cons, hk, Bool.false_eq_true, if_false, List.filterMap_nil]
theorem factsN_app (a b : List (Str × V)) : factsN (a ++ b) = factsN a ++ factsN b := by
  unfold factsN
  rw [List.filterMap_append]
theorem pgT {X : Cx} {K : PySem.W.Frag} {es : List Expr} {k : Nat} {pos : Pos} {t : TGs} {n : Nat} (h : X.K = K) (hc : X.calm = true) (hp : PGs X es t)
    (hn : (assignEach es X.env).length = n := by rfl) (hst : (assignEach es X.env).findIdx? (·.1) = none := by rfl) : PG X (.Tuple es k pos) (gTup K n t) := by
  subst h
  exact pg_tup hc hp hn hst
theorem mem_put (x z : Str) (ts : List Str) : x ∈ put z ts ↔ x = z ∨ x ∈ ts := by
  unfold put
  split
  · rename_i h
    exact ⟨.inr, fun e => e.elim (fun e => by rw [e]; exact h) id⟩
  · rw [List.mem_cons]
theorem nodup_put {z : Str} {ts : List Str} (h : ts.Nodup) : (put z ts).Nodup := by
  unfold put
  split
  · exact h
  · rename_i n
    exact List.nodup_cons.mpr ⟨n, h⟩
section
variable {P : Program} {w : World} {K : PySem.W.Frag} {mg : Str → Option Value} {base : Heap}
def spFacts (K : PySem.W.Frag) : Sp := fun vs H Q _ => ∃ p xs ns, vs = [.ref p] ∧ SqT K H p xs ∧ NdsAt K H xs ns ∧ GoodN ns ∧ xs.length < 60 ∧
  ∀ (ys : List Str) p' H', Same H H' → H p' = none → H' p' = some (.tup (ys.map V.str)) → ys.Nodup → sortedS ys = true → (∀ z, z ∈ ys ↔ z ∈ factsN ns) → Q (.ref p') H'
theorem ok_facts_of {f : Addr} {fd : FuncData} (F : Fun K "facts_of" "facts_of" s_facts_of f fd) (T : Txt mg) : FnOk P w K mg base CX0 1 f fd ["nodes"] (spFacts K) := by
  refine F.ok sc_facts_of (fun vs H Q E h => ?_) (fun cdv A outer s H vs Q E hr h => ?_)
  · obtain ⟨p, xs, ns, rfl, _⟩ := h
    rfl
  · obtain ⟨p, xs, ns, rfl, hS, hN, hg, hlen, q⟩ := h
    refine ⟨_, (pss_one (ps_ret (pe_callTy call_tuple_of (by rfl) T.tuple_ (by decide +kernel) (pa_cons (pe_callB (sortX (by rfl)) (by rfl) T.sorted_ (by decide +kernel) (pa_cons (pe_sc (own := [("kind", 1), ("told", 2)]) (g := gTup K 2 (gCons (gName 1) (gCons (gName 2) gNil))) (by rfl) sc_facts_of.nd (pi_tup (pv 0)) (blkOk_by (by kernel_rfl)) (fun _ _ _ _ _ => (pgT (K := K) rfl (by rfl) (pgs_cons (pg_name (i := 1) sc_facts_of.nd rfl (.inl rfl)) (pgs_cons (pg_name (i := 2) sc_facts_of.nd rfl (.inl rfl)) pgs_nil)))) (fun _ _ _ _ _ => (pts_one (pt_cmpR (inQ (K := K) rfl) (pv 1) (pe_tup (pa_cons pe_str (pa_cons pe_str pa_nil))) (by rfl)))) (fun _ _ _ _ _ => (pv 2))) pa_nil)) pa_nil)))), ?_⟩
    have hxn := hN.length
    refine ⟨_, rfl, p, rfl, ⟨xs, hS⟩, fun D nD => ?_⟩
    have s1 : Same H (upd H D (SetX w D [])) := same_new nD
    refine scTg (K := K) (a := p) (xs := xs) (fun j ts H2 => Same H H2 ∧ ts.Nodup ∧ ∀ z, z ∈ ts ↔ z ∈ factsN (ns.take j)) ⟨s1, List.nodup_nil, fun z => Iff.rfl⟩ (fun j ts H2 h => (stk h.1).seq hS) ?_ ?_
    · rintro j x ts H2 hx hl e ⟨s2, nd, hm⟩
      obtain ⟨a, k, t, rfl, hk, ha⟩ := hN.get hx
      have hgn := hg _ (List.mem_of_getElem? hk)
      have hj : j < 60 := by
        have := (List.getElem?_eq_some_iff.mp hx).1
        omega
      have et : factsN (ns.take (j + 1)) = factsN (ns.take j) ++ factsN [(k, t)] := by rw [take_succ' hk, factsN_app]
      have nDH : H D = none := nD
      refine ⟨a, _, rfl, (stk s2).seq ha, rfl, _, _, rfl, _, _, rfl, rfl, rfl, ?_⟩
      refine ⟨_, rfl, lenOk 2, fun t1 n1 => ⟨t1, factKinds.map V.str, rfl, .inr (SqT.of upd_same), rfl, flat_strs _, _, rfl, ?_⟩⟩
      have s3 : Same H (upd H2 t1 (.tup (factKinds.map V.str))) := s2.trans (same_new n1)
      have e3 := same_new (o := .tup (factKinds.map V.str)) n1 _ _ e
      cases ek : factKinds.contains k with
      | true =>
        obtain ⟨z, rfl, _⟩ := good_fact hgn ek
        rw [factsN_one ek rfl] at et
        refine iteT' ((inV_strs k factKinds).trans ek) ⟨_, rfl, ScK.mk hl (by omega) e3 ⟨fun b o eb => ?_, nodup_put nd, fun y => ?_⟩⟩
        · rw [upd_ne (ne_of_none eb nDH)]
          exact s3 b o eb
        · rw [mem_put, et, List.mem_append, List.mem_singleton, hm y, or_comm]
      | false =>
        rw [factsN_none ek, List.append_nil] at et
        exact iteF' ((inV_strs k factKinds).trans ek) ⟨ts, by omega, e3, s3, nd, fun y => by rw [et]; exact hm y⟩
    · rintro ts H2 hl e ⟨s2, nd, hm⟩
      refine ⟨D, ts, rfl, e, nd, by omega, fun ys p2 hp hs n2 => ?_⟩
      have s3 := s2.trans (same_new (o := .lst (ys.map V.str)) n2)
      refine ⟨p2, _, rfl, .inl ⟨SqL.of upd_same, fun p3 n3 => ?_⟩⟩
      rw [hxn, List.take_length] at hm
      exact q ys p3 _ (s3.trans (same_new n3)) (s3.free n3) upd_same (hp.nodup_iff.mpr nd) hs fun z => by rw [hp.mem_iff]; exact hm z
/-! choices -/
def spChoices (K : PySem.W.Frag) : Sp := fun vs H Q _ => ∃ p xs ns, vs = [.ref p] ∧ SqT K H p xs ∧ NdsAt K H xs ns ∧ xs.length < 1000 ∧ ∀ H', Same H H' → Q (.int (countIn choiceKinds ns)) H'
theorem ok_choices_of {f : Addr} {fd : FuncData} (F : Fun K "choices_of" "choices_of" s_choices_of f fd) (T : Txt mg) : FnOk P w K mg base CX0 1 f fd ["nodes"] (spChoices K) := by
  refine F.ok sc_choices_of (fun vs H Q E h => ?_) (fun cdv A outer s H vs Q E hr h => ?_)
  · obtain ⟨p, xs, ns, rfl, _⟩ := h
    rfl
  · obtain ⟨p, xs, ns, rfl, hS, hN, hlen, q⟩ := h
    refine ⟨_, (pss_one (ps_ret (pe_callB (lenQ (K := K) rfl) (by rfl) T.len_ (by decide +kernel) (pa_cons (pe_lc (own := [("kind", 1), ("_", 2)]) (g := gTup K 2 (gCons (gName 1) (gCons (gName 2) gNil))) (by rfl) sc_choices_of.nd (pi_tup (pv 0)) (blkOk_by (by kernel_rfl)) (fun _ _ _ _ _ => (pgT (K := K) rfl (by rfl) (pgs_cons (pg_name (i := 1) sc_choices_of.nd rfl (.inl rfl)) (pgs_cons (pg_name (i := 2) sc_choices_of.nd rfl (.inl rfl)) pgs_nil)))) (fun _ _ _ _ _ => (pts_one (pt_cmpR (inQ (K := K) rfl) (pv 1) (pe_tup (pa_cons pe_str (pa_cons pe_str pa_nil))) (by rfl)))) (fun _ _ _ _ _ => (pv 1))) pa_nil)))), ?_⟩
    have hxn := hN.length
    refine ⟨_, rfl, p, rfl, ⟨xs, hS⟩, fun D nD => ?_⟩
    have s1 : Same H (upd H D (.lst [])) := same_new nD
    refine lcTg (K := K) (a := p) (xs := xs) (fun j acc H2 => Same H H2 ∧ acc.length = countIn choiceKinds (ns.take j)) ⟨s1, rfl⟩ (fun j ts H2 h => (stk h.1).seq hS) ?_ ?_
    · rintro j x acc H2 hx hl e ⟨s2, hm⟩
      obtain ⟨a, k, t, rfl, hk, ha⟩ := hN.get hx
      have hj : j < 1000 := by
        have := (List.getElem?_eq_some_iff.mp hx).1
        omega
      have et : countIn choiceKinds (ns.take (j + 1)) = countIn choiceKinds (ns.take j) + countIn choiceKinds [(k, t)] := by rw [take_succ' hk, countIn_app]
      have nDH : H D = none := nD
      refine ⟨a, _, rfl, (stk s2).seq ha, rfl, _, _, rfl, _, _, rfl, rfl, rfl, ?_⟩
      refine ⟨_, rfl, lenOk 2, fun t1 n1 => ⟨t1, choiceKinds.map V.str, rfl, .inr (SqT.of upd_same), rfl, flat_strs _, _, rfl, ?_⟩⟩
      have s3 : Same H (upd H2 t1 (.tup (choiceKinds.map V.str))) := s2.trans (same_new n1)
      have e3 := same_new (o := .tup (choiceKinds.map V.str)) n1 _ _ e
      cases ek : choiceKinds.contains k with
      | true =>
        rw [countIn_one, if_pos ek] at et
        refine iteT' ((inV_strs k choiceKinds).trans ek) ⟨_, rfl, LcK.mk hl (by omega) e3 ⟨fun b o eb => ?_, ?_⟩⟩
        · rw [upd_ne (ne_of_none eb nDH)]
          exact s3 b o eb
        · rw [List.length_append, hm, et]
          rfl
      | false =>
        rw [countIn_one, if_neg (by rw [ek]; exact Bool.false_ne_true)] at et
        exact iteF' ((inV_strs k choiceKinds).trans ek) ⟨acc, by omega, e3, s3, by rw [et]; exact hm⟩
    · rintro acc H2 hl e ⟨s2, hm⟩
      refine .inl ⟨D, acc, rfl, .inl (SqL.of e), ?_⟩
      rw [hxn, List.take_length] at hm
      rw [hm]
      exact q H2 s2
end
end Eh

set_option Elab.async false
set_option linter.all false
set_option maxRecDepth 100000
namespace Eh
open PySem PySem.Spec PyProof.Rows L2
inductive NdAll (K : PySem.W.Frag) (H : Hp) : List V → List (Option (Str × V)) → Prop
  | nil : NdAll K H [] []
  | cons {v : V} {vs : List V} {n : Option (Str × V)} {ns : List (Option (Str × V))} : NdV K H v n → NdAll K H vs ns → NdAll K H (v :: vs) (n :: ns)
theorem NdAll.length {K : PySem.W.Frag} {H : Hp} : ∀ {vs : List V} {ns : List (Option (Str × V))}, NdAll K H vs ns → vs.length = ns.length
  | _, _, .nil => rfl
  | _, _, .cons _ r => by rw [List.length_cons, List.length_cons, r.length]
theorem NdAll.get {K : PySem.W.Frag} {H : Hp} : ∀ {vs : List V} {ns : List (Option (Str × V))}, NdAll K H vs ns → ∀ {i : Nat} {v : V}, vs[i]? = some v → ∃ n, ns[i]? = some n ∧ NdV K H v n
  | _, _, .nil, i, v, h => by simp at h
  | _, _, .cons (v := x) (n := n) hp r, 0, v, h => by
    cases (show some x = some v from h)
    exact ⟨n, rfl, hp⟩
  | _, _, .cons hp r, i + 1, v, h => r.get (i := i) h
theorem NdAll.ku {K : PySem.W.Frag} {H H' : Hp} (k : Ku H H') : ∀ {vs : List V} {ns : List (Option (Str × V))}, NdAll K H vs ns → NdAll K H' vs ns
  | _, _, .nil => .nil
  | _, _, .cons h r => .cons (h.ku k) (r.ku k)
/-- whether values are the nodes of a promise, bounds aside -/
def okNs (nds : List (Option (Str × V))) : Bool := nds.all Option.isSome && dueGo 1 (nds.filterMap id)
theorem all_some {nds : List (Option (Str × V))} (h : nds.all Option.isSome = true) : ∃ ns : List (Str × V), nds = ns.map some := by
  induction nds with
  | nil => exact ⟨[], rfl⟩
  | cons n r ih =>
    rw [List.all_cons, Bool.and_eq_true] at h
    obtain ⟨ns, e⟩ := ih h.2
    cases n with
    | none => cases h.1
    | some x => exact ⟨x :: ns, by rw [e]; rfl⟩
theorem filterMap_some (ns : List (Str × V)) : (ns.map some).filterMap id = ns := by
  induction ns with
  | nil => rfl
  | cons a r ih =>
    show a :: _ = a :: r
    rw [show List.filterMap id (List.map some r) = r from ih]
theorem pairNd_some {a b : V} {n : Str × V} (h : pairNd a b = some n) : a = .str n.1 ∧ b = n.2 ∧ nodeAB n.1 n.2 = true := by
  unfold pairNd at h
  split at h
  · split at h
    · rename_i g
      cases h
      exact ⟨rfl, rfl, g⟩
    · cases h
  · cases h
theorem NdAll.nds {K : PySem.W.Frag} {H : Hp} : ∀ {vs : List V} {ns : List (Str × V)}, NdAll K H vs (ns.map some) → NdsAt K H vs ns ∧ GoodN ns
  | vs, [], h => by
    cases h
    exact ⟨.nil, fun _ h => nomatch h⟩
  | vs, n :: ns, h => by
    generalize e : (n :: ns).map some = m at h
    cases h with
    | nil => cases e
    | cons hv hr =>
      injection e with e1 e2
      subst e2
      obtain ⟨r1, r2⟩ := hr.nds
      cases hv with
      | other _ => cases e1
      | tup _ _ _ => cases e1
      | pair h a b =>
        obtain ⟨ea, eb, g⟩ := pairNd_some e1.symm
        subst ea eb
        exact ⟨.cons h r1, fun x hx => (List.mem_cons.mp hx).elim (fun e => by rw [e]; exact g) (r2 x)⟩
theorem countIn_mono {ws us : List Str} (h : ∀ k, ws.contains k = true → us.contains k = true) : ∀ ns : List (Str × V), countIn ws ns ≤ countIn us ns
  | [] => Nat.le_refl _
  | n :: ns => by
    have ih := countIn_mono h ns
    rw [show n :: ns = [(n.1, n.2)] ++ ns from rfl, countIn_app, countIn_app, countIn_one, countIn_one]
    by_cases c : ws.contains n.1 = true
    · rw [if_pos c, if_pos (h _ c)]
      omega
    · rw [if_neg c]
      omega
theorem choice_inner {k : Str} (h : choiceKinds.contains k = true) : nodeKinds.contains k = true := choice_node h
theorem due_inner : ∀ {ns : List (Str × V)} {l : Nat}, GoodN ns → dueGo l ns = true → 2 * countIn nodeKinds ns + l ≤ ns.length
  | [], l, _, h => by
    have h : decide (l = 0) = true := h
    have h := of_decide_eq_true h
    show 2 * 0 + l ≤ 0
    omega
  | n :: ns, 0, _, h => by cases h
  | n :: ns, l + 1, g, h => by
    have ih := due_inner (fun x hx => g x (List.mem_cons_of_mem _ hx)) (show dueGo (l + partsN n) ns = true from h)
    rw [show countIn nodeKinds (n :: ns) = countIn nodeKinds ([(n.1, n.2)] ++ ns) from rfl, countIn_app, countIn_one, List.length_cons]
    unfold partsN at ih
    by_cases c : nodeKinds.contains n.1 = true
    · rw [if_pos c] at ih ⊢
      obtain ⟨i, e, h2, h4⟩ := good_int (g n List.mem_cons_self) c
      rw [e] at ih
      have : (intOf (.int i)).toNat = i.toNat := rfl
      omega
    · rw [if_neg c] at ih ⊢
      omega
theorem not_due_of {nds : List (Option (Str × V))} {ns : List (Str × V)} (e : nds = ns.map some) : okNs nds = dueGo 1 ns := by
  subst e
  unfold okNs
  rw [filterMap_some, show (ns.map some).all Option.isSome = true from by rw [List.all_map]; exact List.all_eq_true.mpr fun _ _ => rfl, Bool.true_and]
theorem nodup_le : ∀ {ys us : List Str}, ys.Nodup → (∀ z ∈ ys, z ∈ us) → ys.length ≤ us.length
  | [], us, _, _ => Nat.zero_le _
  | a :: r, us, nd, h => by
    have ha := h a List.mem_cons_self
    obtain ⟨n1, n2⟩ := List.nodup_cons.mp nd
    have ih := nodup_le (us := us.erase a) n2 fun z hz => (List.mem_erase_of_ne (fun e => n1 (by rw [← e]; exact hz))).mpr (h z (List.mem_cons_of_mem _ hz))
    rw [List.length_erase_of_mem ha] at ih
    have := List.length_pos_of_mem ha
    rw [List.length_cons]
    omega
section
variable {P : Program} {w : World} {K : PySem.W.Frag} {mg : Str → Option Value} {base : Heap}
/-- the nodes of a value: none, where it is no tuple -/
inductive NodesV (K : PySem.W.Frag) (H : Hp) : V → List (Option (Str × V)) → Bool → Prop
  | other {v : V} : NoT H v → NodesV K H v [] false
  | tup {p : Addr} {xs : List V} {nds : List (Option (Str × V))} : SqT K H p xs → NdAll K H xs nds → NodesV K H (.ref p) nds (okNs nds)
theorem NodesV.ku {H H' : Hp} {v : V} {nds : List (Option (Str × V))} {b : Bool} (h : NodesV K H v nds b) (k : Ku H H') : NodesV K H' v nds b := by
  cases h with
  | other t => exact .other (t.ku k)
  | tup h n => exact .tup (k.tk.seq h) (n.ku k)
/-- few enough, and with few facts -/
structure Few (nds : List (Option (Str × V))) (b : Bool) : Prop where
  len : nds.length < 60
  short : nds.length ≤ 15 ∨ b = false
  facts : ∀ ns, nds = ns.map some → ∀ z ∈ factsN ns, z ∈ uni6
def spAre (K : PySem.W.Frag) : Sp := fun vs H Q _ => ∃ v nds b, vs = [v] ∧ NodesV K H v nds b ∧ Few nds b ∧ ∀ H', Same H H' → Q (.bl b) H'
theorem ok_are_nodes {fN fF fC fD f : Addr} {fdN fdF fdC fdD fd : FuncData} (F : Fun K "_are_nodes" "_are_nodes" s__are_nodes f fd) (T : Txt mg)
    (c40 : ∃ t, mg "MAX_NODES" = some (.int 40 t)) (c6 : ∃ t, mg "MAX_FACTS" = some (.int 6 t)) (c10 : ∃ t, mg "MAX_CHOICES" = some (.int 10 t)) (c8 : ∃ t, mg "MAX_DEPTH" = some (.int 8 t))
    (C_is_node : Cal P w K mg base 2 "is_node" fN fdN ["value"] (spIsNode K)) (C_facts_of : Cal P w K mg base 1 "facts_of" fF fdF ["nodes"] (spFacts K)) (C_choices_of : Cal P w K mg base 1 "choices_of" fC fdC ["nodes"] (spChoices K)) (C_depth_of : Cal P w K mg base 1 "depth_of" fD fdD ["nodes"] (spDepth K)) :
    FnOk P w K mg base CX0 3 f fd ["value"] (spAre K) := by
  obtain ⟨t40, e40⟩ := c40
  obtain ⟨t6, e6⟩ := c6
  obtain ⟨t10, e10⟩ := c10
  obtain ⟨t8, e8⟩ := c8
  refine F.ok sc__are_nodes (fun vs H Q E h => ?_) (fun cdv A outer s H vs Q E hr h => ?_)
  · obtain ⟨v, nds, b, rfl, _⟩ := h
    rfl
  · obtain ⟨v, nds, b, rfl, hv, few, q⟩ := h
    have hr1 := hr.mono (j := 1) (by omega)
    refine ⟨_, (pss_cons (ps_if (PW.pt (pw_or (pt_not (pt_val (pe_callB (isiQ (K := K) rfl) (by rfl) T.isinstance_ (by decide +kernel) (pa_cons (pv 0) (pa_cons (pe_bltn (v := .ty "tuple") (by rfl) T.tuple_ (by decide +kernel) rfl) pa_nil))))) (pw_or1 (pt_cmpR op_gt (pe_callB (lenQ (K := K) rfl) (by rfl) T.len_ (by decide +kernel) (pa_cons (pv 0) pa_nil)) (pe_glob (v := .int 40) rfl e40 ⟨_, rfl⟩) (nomark _)))))
  (pss_one (ps_ret pe_bl))
  pss_nil)
  (pss_cons (ps_if (pt_not (pt_val (pe_callB (allQ (K := K) rfl (by rfl)) (by rfl) T.all_ (by decide +kernel) (pa_cons (pe_lc (own := [("node", 1)]) (g := gName 1) (by rfl) sc__are_nodes.nd (pi_tup (pv 0)) (blkOk_by (by kernel_rfl)) (fun _ _ _ _ _ => (pg_name (i := 1) sc__are_nodes.nd rfl (.inl rfl))) (fun _ _ _ _ _ => pts_nil) (fun _ _ _ _ _ => (pe_call C_is_node.G hr (by rfl) C_is_node.m C_is_node.k C_is_node.b .nil pass0 (pa_cons (pv 1) pa_nil)))) pa_nil))))
  (pss_one (ps_ret pe_bl))
  pss_nil)
  (pss_cons (ps_if (PW.pt (pw_or (pt_cmpR op_gt (pe_callB (lenQ (K := K) rfl) (by rfl) T.len_ (by decide +kernel) (pa_cons (pe_call C_facts_of.G hr1 (by rfl) C_facts_of.m C_facts_of.k C_facts_of.b .nil pass0 (pa_cons (pv 0) pa_nil)) pa_nil)) (pe_glob (v := .int 6) rfl e6 ⟨_, rfl⟩) (nomark _)) (pw_or1 (pt_cmpR op_gt (pe_call C_choices_of.G hr1 (by rfl) C_choices_of.m C_choices_of.k C_choices_of.b .nil pass0 (pa_cons (pv 0) pa_nil)) (pe_glob (v := .int 10) rfl e10 ⟨_, rfl⟩) (nomark _)))))
  (pss_one (ps_ret pe_bl))
  pss_nil)
  (pss_one (ps_ret (pe_chain op_le op_le pe_int (pe_call C_depth_of.G hr1 (by rfl) C_depth_of.m C_depth_of.k C_depth_of.b .nil pass0 (pa_cons (pv 0) pa_nil)) (pe_glob (v := .int 8) rfl e8 ⟨_, rfl⟩))))))), ?_⟩
    cases hv with
    | other hno =>
      obtain ⟨u, ty, hk⟩ := hno.ty (K := K)
      exact ⟨_, rfl, v, .ty "tuple", _, .type "tuple", false, rfl, .ty _, ty, hk, _, rfl, iteT (q _ (Same.refl H))⟩
    | tup hs hn =>
      rename_i p xs
      have hlen := hn.length
      have hx60 := few.len
      refine ⟨_, rfl, .ref p, .ty "tuple", _, .type "tuple", true, rfl, .ty _, ty_tup hs, kitTT, _, rfl, iteF ⟨_, rfl, .inl ⟨p, xs, rfl, .inr hs, _, 40, rfl, rfl, _, rfl, ite2 (fun h => ?_) (fun h => ?_)⟩⟩⟩
      · have h : (40 : Int) < xs.length := of_decide_eq_true h
        have eb : okNs nds = false := few.short.resolve_left (by omega)
        have q' := q _ (Same.refl H)
        rw [eb] at q'
        exact q'
      refine ⟨_, rfl, p, rfl, ⟨xs, hs⟩, fun D nD => ?_⟩
      have s1 : Same H (upd H D (.lst [])) := same_new nD
      refine lcT (K := K) (a := p) (xs := xs) (fun j acc H2 => Same H H2 ∧ acc = ((nds.take j).map Option.isSome).map V.bl) ⟨s1, rfl⟩ (fun j acc H2 h => (stk h.1).seq hs) ?_ ?_
      · rintro j x acc H2 hx hl e ⟨s2, ea⟩
        obtain ⟨n, en, hnd⟩ := hn.get hx
        have hj : j < 60 := by
          have := (List.getElem?_eq_some_iff.mp hx).1
          omega
        refine yesT ⟨_, rfl, x, n, rfl, hnd.ku (ku_same s2), fun H3 s3 => ?_⟩
        refine LcK.mk hl (by omega) (s3 _ _ e) ⟨fun b o eb => ?_, ?_⟩
        · rw [upd_ne (ne_of_none eb nD)]
          exact s3 _ _ (s2 b o eb)
        · rw [ea, take_succ' en, List.map_append, List.map_append]
          rfl
      · rintro acc H2 hl e ⟨s2, ea⟩
        refine ⟨D, _, rfl, SqL.of (e.trans (by rw [ea])), ?_⟩
        rw [hlen, List.take_length, List.all_map]
        cases ha : nds.all (id ∘ Option.isSome) with
        | false =>
          refine ⟨_, rfl, iteT ?_⟩
          have q' := q _ s2
          have eb : okNs nds = false := by
            unfold okNs
            rw [show nds.all Option.isSome = false from ha, Bool.false_and]
          rw [eb] at q'
          exact q'
        | true =>
          obtain ⟨ns, en⟩ := all_some ha
          have hok := not_due_of en
          rw [hok] at few q
          subst en
          obtain ⟨N, hg⟩ := hn.nds
          have hnl := N.length
          refine ⟨_, rfl, iteF ?_⟩
          refine ⟨_, rfl, p, xs, ns, rfl, (stk s2).seq hs, N.tk (stk s2), hg, by omega, fun ys p3 H3 s3 n3 e3 nd so mem => ?_⟩
          have hys : ys.length ≤ 6 := nodup_le nd fun z hz => few.facts ns rfl z ((mem z).mp hz)
          have s4 := s2.trans s3
          refine .inl ⟨p3, _, rfl, .inr (SqT.of e3), _, 6, rfl, rfl, _, rfl, ?_⟩
          rw [List.length_map, decide_eq_false (by omega)]
          refine iteF ?_
          refine ⟨_, rfl, p, xs, ns, rfl, (stk s4).seq hs, N.tk (stk s4), by omega, fun H5 s5 => ?_⟩
          have s6 := s4.trans s5
          have hc := countIn_mono (fun k h => choice_inner (k := k) h) ns
          have hdi := due_inner (l := 1) hg
          have hlen2 : xs.length = ns.length := hnl
          have hl3 : (ns.map some).length = ns.length := List.length_map ..
          have hsh := few.short
          rw [hl3] at hsh
          refine ⟨_, 10, rfl, rfl, _, rfl, ite2 (fun h => ?_) (fun h => ?_)⟩
          · have h : (10 : Int) < countIn choiceKinds ns := of_decide_eq_true h
            have eb : dueGo 1 ns = false := by
              cases e : dueGo 1 ns with
              | false => rfl
              | true =>
                have := hdi e
                rcases hsh with h15 | h15
                · omega
                · rw [e] at h15
                  cases h15
            have q' := q _ s6
            rw [eb] at q'
            exact q'
          refine ⟨_, rfl, p, xs, ns, rfl, (stk s6).seq hs, N.tk (stk s6), hg, by omega, fun dd H7 s7 d1 d2 => ?_⟩
          have q' := q _ (s6.trans s7)
          refine ⟨1, dd, rfl, rfl, _, rfl, ?_⟩
          cases e : dueGo 1 ns with
          | false =>
            rw [e] at q'
            rw [decide_eq_false (fun z => by have := d1.mp z; rw [e] at this; cases this)]
            exact iteF q'
          | true =>
            rw [e] at q'
            rw [decide_eq_true (d1.mpr e)]
            refine iteT ⟨dd, 8, rfl, rfl, ?_⟩
            have := hdi e
            have h8 : dd ≤ 8 := by
              rcases hsh with h15 | h15
              · omega
              · rw [e] at h15
                cases h15
            show Q (.bl (decide (dd ≤ 8))) H7
            rw [decide_eq_true h8]
            exact q'
end
end Eh

set_option Elab.async false
set_option linter.all false
set_option maxRecDepth 100000
namespace Eh
open PySem PySem.Spec PyProof.Rows L2
/-! ### own classes: made within a try, and their len -/
section
variable {X : Cx} {CX : CXT} {k : Nat} {f C : Addr} {fd : FuncData} {ps : List Str} {sp : Sp} {E : L2.St → XK} {x m : Str} {p pos apos : Pos} {e o : Expr} {es : List Expr} {ta : TE} {t : TA}
theorem run_makeS {pins : List (Addr × Obj)} {σ : L2.St} {H : Hp} {s : Shared} {Q : VK} {us : List Value} {vs : List V} (M : Mk X.K C f) (F : FnOk X.prog X.w X.K X.mg X.base CX k f fd ps sp) (hr : Room (k + 1) X.A) (hb : Binds X.K fd ps [])
    (hx : PassesAt CX X σ (E σ)) (I : Inv X pins σ H s) (r : Vals vs us)
    (h : ∀ x dx, H x = none → H dx = none → dx ≠ x → sp (.ref x :: vs) (upd (upd H dx (.own x)) x (.ins C dx [])) (fun v H2 => v = .non ∧ Q (.ref x) H2) (E σ)) :
    wpAny (model X.prog X.w) X.A (call (.ref C) us) (EP X pins σ Q) X.xe s := by
  have hq := h (s.heap.objs.size + 1) s.heap.objs.size (I.hok.fresh (Nat.le_succ _)) (I.hok.fresh (Nat.le_refl _)) (Nat.ne_of_lt (Nat.lt_succ_self _))
  have I2 := Inv.made (C := C) I
  have r2 : Vals (V.ref (s.heap.objs.size + 1) :: vs) (Value.ref (s.heap.objs.size + 1) :: us) := .cons rfl r
  have hl : (Value.ref (s.heap.objs.size + 1) :: us).length = ps.length := by
    have e := r2.length
    rw [F.len _ _ _ _ hq] at e
    exact e.symm
  have b := hb _ (Value.ref (s.heap.objs.size + 1) :: us) I2.kIn (by rw [List.append_nil]; exact hl)
  rw [List.append_nil] at b
  refine wpAny_call (make_map (f := f) I.kIn M.makes M.init (beq_iff_eq.mp M.fn) (codeAny_mono (F.run _ X.stack _ _ ⟨Value.ref (s.heap.objs.size + 1) :: us, []⟩ (Value.ref (s.heap.objs.size + 1) :: us) _ _ (E σ) (hr.make C us [])
    (I2.env0.make C us []) b r2 hq) fun r s' hq' => ?_))
  cases r with
  | error e => exact hx pins _ _ e s' I2 hq'
  | ok fl =>
    cases fl with
    | ret u =>
      obtain ⟨v, H', I3, rv, ev, q3⟩ := I2.after hq'
      subst ev
      exact ⟨rv, ⟨V.ref (s.heap.objs.size + 1), H', I3, rfl, q3⟩⟩
    | next => exact False.elim hq'
    | brk => exact False.elim hq'
    | cont => exact False.elim hq'
/-- C(e, ..), within a try -/
def tMakeS (C : Addr) (sp : Sp) (E : L2.St → XK) (t : TA) : TE := fun σ H Q => t σ H fun vs H1 => ∀ x dx, H1 x = none → H1 dx = none → dx ≠ x → sp (.ref x :: vs) (upd (upd H1 dx (.own x)) x (.ins C dx [])) (fun v H2 => v = .non ∧ Q (.ref x) H2) (E σ)
theorem pe_makeS (M : Mk X.K C f) (F : FnOk X.prog X.w X.K X.mg X.base CX k f fd ps sp) (hr : Room (k + 1) X.A) (hg : Gl X x) (hm : X.mg x = some (.ref C)) (hb : Binds X.K fd ps []) (hx : ∀ σ, PassesAt CX X σ (E σ))
    (ha : PA X (e :: es) t) (hdb : (x == ("__debug__" : Str)) = false := by decide) (he : starEach (e :: es) X.env = (false, eval e X.env) :: starEach es X.env := by rfl) (hpl : (backTo pos (starEach es X.env)).any (·.1) = false := by rfl) :
    PE X (.Call (.Name x p) (e :: es) [] pos) (tMakeS C sp E t) := by
  refine ⟨fun pins s σ H Q I h => ?_⟩
  refine wpAny_Call_Name_kw (ld_glob I hg hm ?_ hdb)
  refine PySem.W.callWith_K (h₀ := X.base) I.ok.mod.kin M.kp (thn (ha.run pos pins s σ H _ I h) fun us s1 ⟨vs, H1, I1, r, q⟩ => ⟨I1.kIn, ?_⟩) he hpl
  exact run_makeS M F hr hb (hx σ) I1 r q
def rLenOwn (C : Addr) (sp : Sp) : List V → Hp → VK → Prop := fun xs H Q => ∃ a dx fs, xs = [V.ref a] ∧ H a = some (.ins C dx fs) ∧ sp [.ref a] H (fun v H' => ∃ n : Int, v = .int n ∧ 0 ≤ n ∧ n < 2 ^ 63 ∧ Q (.int n) H') E0
theorem lenOwn (F : FnOk X.prog X.w X.K X.mg X.base CX0 k f fd ["self"] sp) (hr : Room (k + 1) X.A) (hl : PySem.W.findIn X.K (.ref C) "__len__" = some (some (.ref f))) (hf : PySem.W.isFn X.K (.ref f) = true) (hb : Binds X.K fd ["self"] []) :
    CallR X (.builtin "len") (rLenOwn C sp) := by
  intro pins s σ H xs us Q I r h
  obtain ⟨a, dx, fs, rfl, ha, q⟩ := h
  rw [Vals.ref1 r]
  obtain ⟨mA, J, _⟩ := ins_get I.hok ha
  obtain ⟨od, J, _⟩ := J.look
  obtain ⟨m, hF⟩ := I.fr
  have b := hb s [.ref a] I.kIn rfl
  refine PySem.W.len_K hF I.ok.mod.kin J hl hf ?_
  refine wpAny_call (codeAny_mono (F.run X.A.in1 X.stack s H ⟨[.ref a], []⟩ [.ref a] [.ref a] _ E0 hr.in1 I.env0.in1 b (.cons rfl .nil) q) fun r s' hq => ?_)
  cases r with
  | error e => exact False.elim hq
  | ok fl =>
    cases fl with
    | ret u =>
      obtain ⟨v, H', I', rv, n, rfl, h0, h1, q'⟩ := I.after hq
      obtain ⟨t, rfl⟩ := rv
      exact ⟨⟨h0, h1⟩, .int n, H', I'.tok _, ⟨_, rfl⟩, q'⟩
    | next => exact False.elim hq
    | brk => exact False.elim hq
    | cont => exact False.elim hq
end
end Eh

set_option Elab.async false
set_option linter.all false
set_option maxRecDepth 100000
namespace Eh
open PySem PySem.Spec PyProof.Rows L2
/-- what it takes to raise and to catch an own error without an __init__ -/
structure ErrC (K : PySem.W.Frag) (mg : Str → Option Value) (x : Str) (C : Addr) : Prop where
  g : mg x = some (.ref C)
  q : PySem.W.excIn K C [.type "ValueError", .type "Exception", .type "BaseException", .type "object"] "ValueError.__new__" = true
  k : PySem.W.keepIn K (.ref C) = true
  b : PySem.W.subIn K (.ref C) (.type "BaseException") = some true
  t : PySem.W.typeIn K (.ref C) = some (.type "type")
  e : PySem.W.exmOne K (.ref C) (.ref C) = some true
/-- the class Promise -/
structure PromC (K : PySem.W.Frag) (mg : Str → Option Value) (C fI fL : Addr) : Prop where
  g : mg "Promise" = some (.ref C)
  mkC : Mk K C fI
  cl : Cls K C
  nn : NoAttr K C "_nodes"
  ln : PySem.W.findIn K (.ref C) "__len__" = some (some (.ref fL))
  lf : PySem.W.isFn K (.ref fL) = true
section
variable {P : Program} {w : World} {K : PySem.W.Frag} {mg : Str → Option Value} {base : Heap}
/-- what stands stays, but the new object at x -/
def But (x : Addr) (H H' : Hp) : Prop := ∀ b o, b ≠ x → H b = some o → H' b = some o
def spInit (K : PySem.W.Frag) (C CE : Addr) : Sp := fun vs H Q E => ∃ x dx v nds b, vs = [.ref x, v] ∧ H x = some (.ins C dx []) ∧ NodesV K H v nds b ∧ Few nds b ∧
  (b = true → ∀ H', But x H H' → H' x = some (.ins C dx [(("_nodes" : Str), v)]) → Q .non H') ∧ (b = false → ∀ H', Same H H' → E (.ref CE) none H')
theorem ok_init {C fL CE fA f : Addr} {fdA fd : FuncData} (F : Fun K "__init__" "Promise.__init__" s_Promise___init__ f fd) (T : Txt mg) (R : ErrC K mg "InvalidPromise" CE) (PC : PromC K mg C f fL)
    (C__are_nodes : Cal P w K mg base 3 "_are_nodes" fA fdA ["value"] (spAre K)) : FnOk P w K mg base (L2.CX P w) 4 f fd ["self", "nodes"] (spInit K C CE) := by
  refine F.okX sc_Promise___init__ (fun vs H Q E h => ?_) (fun cdv A outer s H vs Q E hr h => ?_)
  · obtain ⟨x, dx, v, nds, b, rfl, _⟩ := h
    rfl
  · obtain ⟨x, dx, v, nds, b, rfl, ex, hv, few, q1, q2⟩ := h
    refine ⟨_, (pss_cons (ps_if (pt_not (pt_val (pe_call C__are_nodes.G hr (by rfl) C__are_nodes.m C__are_nodes.k C__are_nodes.b .nil pass0 (pa_cons (pv 1) pa_nil))))
      (pss_one (ps_raise rfl (takes_of rfl rfl rfl rfl) (pmk_own PySem.F.excBase_ValueError R.q R.g R.k (raises_own R.b R.t) rfl))) pss_nil)
      (pss_one (ps_fld (pv 0) (pv 1) rfl))), ?_⟩
    refine ⟨_, rfl, v, nds, b, rfl, hv, few, fun H1 s1 => ⟨_, rfl, ?_⟩⟩
    cases b with
    | false => exact iteT (q2 rfl H1 s1)
    | true =>
      refine iteF ?_
      refine ⟨_, rfl, _, rfl, x, C, dx, [], rfl, s1 _ _ ex, PC.cl, PC.nn, by decide, ?_⟩
      exact q1 rfl _ (fun b o n e => by rw [upd_ne n]; exact s1 b o e) upd_same
def spLen (K : PySem.W.Frag) (C : Addr) : Sp := fun vs H Q _ => ∃ x dx fs p xs, vs = [.ref x] ∧ H x = some (.ins C dx fs) ∧ fs.lookup ("_nodes" : Str) = some (.ref p) ∧ SqT K H p xs ∧ Q (.int xs.length) H
theorem ok_len {C fI f : Addr} {fd : FuncData} (F : Fun K "__len__" "Promise.__len__" s_Promise___len__ f fd) (T : Txt mg) (PC : PromC K mg C fI f) : FnOk P w K mg base CX0 1 f fd ["self"] (spLen K C) := by
  refine F.ok sc_Promise___len__ (fun vs H Q E h => ?_) (fun cdv A outer s H vs Q E hr h => ?_)
  · obtain ⟨x, dx, fs, p, xs, rfl, _⟩ := h
    rfl
  · obtain ⟨x, dx, fs, p, xs, rfl, ex, hl, hs, q⟩ := h
    refine ⟨_, (pss_one (ps_ret (pe_callB (lenQ (K := K) rfl) (by rfl) T.len_ (by decide +kernel) (pa_cons (pe_fld (pv 0) rfl) pa_nil)))), ?_⟩
    exact ⟨_, rfl, x, C, dx, fs, .ref p, rfl, ex, PC.cl, PC.nn, hl, .inl ⟨p, xs, rfl, .inr hs, q⟩⟩
end
end Eh

set_option Elab.async false
set_option linter.all false
set_option maxRecDepth 100000
namespace Eh
open PySem PySem.Spec PyProof.Rows L2
/-! ### own rules: is not True, a sequence == the empty one -/
section
variable {X : Cx}
def rNotBV : R2 := fun x y H Q => ∃ b, y = .bl b ∧ ((∃ i, x = .int i ∧ Q (.bl true) H) ∨ ∃ a, x = .bl a ∧ Q (.bl (!decide (a = b))) H)
theorem op_notBV : OpR X (compareOp .IsNot) rNotBV := by
  intro pins s σ H x y v u Q I rx ry h
  obtain ⟨b, rfl, h⟩ := h
  rcases h with ⟨i, rfl, q⟩ | ⟨a, rfl, q⟩
  · obtain ⟨t, rfl⟩ := rx
    cases (show u = Value.bool b from ry)
    exact wpAny_isNot_other rfl (fun z => by cases z) ⟨.bl true, H, I, rfl, q⟩
  · exact op_notBl pins s σ H _ _ v u Q I rx ry ⟨a, b, rfl, rfl, q⟩
def rEqE (K : PySem.W.Frag) : R2 := fun x y H Q => ∃ p q xs, x = .ref p ∧ y = .ref q ∧ SqT K H p xs ∧ SqT K H q [] ∧ Q (.bl (decide (xs.length = 0))) H
theorem eqE {K : PySem.W.Frag} (h : X.K = K) (hu : X.A.units < cLine) : OpR X (compareOp .Eq) (rEqE K) := by
  subst h
  intro pins s σ H x y v u Q I rx ry h
  obtain ⟨p, q, xs, rfl, rfl, hp, hq, hQ⟩ := h
  cases rx
  cases ry
  obtain ⟨its, r, pl, hz⟩ := I.tuple hp
  obtain ⟨its2, r2, pl2, hz2⟩ := I.tuple hq
  cases r2
  have hl := r.length
  refine SeqAt.RcAt.tuples (e := fun _ => true) pl pl2 hu (fun j h1 h2 => absurd h2 (Nat.not_lt_zero _)) X.prog X.w _ _ ⟨.bl _, H, I, rfl, ?_⟩
  have e : ((List.range (min its.toArray.size (#[] : Array Value).size)).all (fun _ => true) && its.toArray.size == (#[] : Array Value).size) = decide (xs.length = 0) := by
    show ((List.range (min its.toArray.size 0)).all (fun _ => true) && its.toArray.size == 0) = _
    rw [Nat.min_zero]
    show (its.toArray.size == 0) = _
    rw [List.size_toArray, ← hl]
    rfl
  rw [e]
  exact hQ
def rEqEL (K : PySem.W.Frag) : R2 := fun x y H Q => ∃ p q xs, x = .ref p ∧ y = .ref q ∧ SqL K H p xs ∧ SqL K H q [] ∧ Q (.bl (decide (xs.length = 0))) H
theorem eqEL {K : PySem.W.Frag} (h : X.K = K) (hu : X.A.units < cLine) : OpR X (compareOp .Eq) (rEqEL K) := by
  subst h
  intro pins s σ H x y v u Q I rx ry h
  obtain ⟨p, q, xs, rfl, rfl, hp, hq, hQ⟩ := h
  cases rx
  cases ry
  obtain ⟨its, r, pl, hz⟩ := I.list hp
  obtain ⟨its2, r2, pl2, hz2⟩ := I.list hq
  cases r2
  have hl := r.length
  by_cases e : xs.length = 0
  · rw [decide_eq_true e] at hQ
    have hs : its.toArray.size = 0 := by rw [List.size_toArray, ← hl, e]
    refine SeqAt.RcAt.lists (e := fun _ => true) pl.isList pl2.isList hs hu (fun j h1 h2 => absurd h2 (Nat.not_lt_zero _)) X.prog X.w _ _ ⟨.bl _, H, I, rfl, ?_⟩
    rw [hs]
    exact hQ
  · rw [decide_eq_false e] at hQ
    have hs : its.toArray.size ≠ 0 := by rw [List.size_toArray, ← hl]; exact e
    exact SeqAt.RcAt.lists_lengths pl.isList pl2.isList (by show (its.toArray.size != 0) = true; exact bne_iff_ne.mpr hs) hu X.prog X.w _ _ ⟨.bl _, H, I, rfl, hQ⟩
end
end Eh

set_option Elab.async false
set_option linter.all false
set_option maxRecDepth 100000
namespace Eh
open PySem PySem.Spec PyProof.Rows L2
def ascB (z : Str) : Bool := decide (z.length < 1000000) && z.cps.toList.all fun c => decide (c < 128)
theorem asc_of {z : Str} (h : ascB z = true) : Asc z := by
  unfold ascB at h
  rw [Bool.and_eq_true] at h
  exact ⟨of_decide_eq_true h.1, fun c hc => of_decide_eq_true (List.all_eq_true.mp h.2 c hc)⟩
theorem eltS {K : PySem.W.Frag} {H : Hp} (z : Str) (h : ascB z = true) : Elt K H (.str z) := .inl ⟨z, rfl, asc_of h⟩
theorem eltI {K : PySem.W.Frag} {H : Hp} (i : Int) : Elt K H (.int i) := .inr (.inl ⟨i, rfl⟩)
theorem eltB {K : PySem.W.Frag} {H : Hp} (b : Bool) : Elt K H (.bl b) := .inr (.inr (.inl ⟨b, rfl⟩))
theorem eltN {K : PySem.W.Frag} {H : Hp} : Elt K H .non := .inr (.inr (.inr (.inl rfl)))
theorem eltT {K : PySem.W.Frag} {H : Hp} {a : Addr} {xs : List V} (h : SqT K H a xs) : Elt K H (.ref a) := .inr (.inr (.inr (.inr ⟨a, xs, rfl, h⟩)))
def ToldOk (K : PySem.W.Frag) (H : Hp) (b : V) : Prop := Elt K H b ∧ ∀ z, b = .str z → factS z = true → z ∈ uni6
theorem ToldOk.tk {K : PySem.W.Frag} {H H' : Hp} {b : V} (h : ToldOk K H b) (t : Tk H H') : ToldOk K H' b := ⟨h.1.tk t, h.2⟩
theorem toldS {K : PySem.W.Frag} {H : Hp} (z : Str) (h : ascB z = true) (k : (!factS z || uni6.contains z) = true) : ToldOk K H (.str z) := ⟨eltS z h, fun y e f => by
  cases e
  rw [f] at k
  exact List.contains_iff_mem.mp k⟩
theorem toldE {K : PySem.W.Frag} {H : Hp} {b : V} (h : Elt K H b) (n : ∀ z, b ≠ .str z) : ToldOk K H b := ⟨h, fun z e => absurd e (n z)⟩
/-- its told fact, if it is a node of one, is among six -/
def FactOk (n : Option (Str × V)) : Prop := ∀ k z, n = some (k, .str z) → z ∈ uni6
def BNode (K : PySem.W.Frag) (H : Hp) (v : V) : Prop := ∃ n, NdV K H v n ∧ FactOk n
theorem BNode.ku {K : PySem.W.Frag} {H H' : Hp} {v : V} (h : BNode K H v) (k : Ku H H') : BNode K H' v := by
  obtain ⟨n, a, b⟩ := h
  exact ⟨n, a.ku k, b⟩
theorem node_str {k z : Str} (h : nodeAB k (.str z) = true) : factS z = true := by
  unfold nodeAB at h
  split at h
  · exact h
  · split at h
    · cases h
    · rw [Bool.and_eq_true] at h
      cases h.2
theorem pair_b {K : PySem.W.Frag} {H : Hp} {p : Addr} {a b : V} (h : SqT K H p [a, b]) (ea : Elt K H a) (tb : ToldOk K H b) : BNode K H (.ref p) :=
  ⟨_, .pair h ea tb.1, fun k z e => by
    obtain ⟨_, e2, g⟩ := pairNd_some e
    have e2 : b = .str z := e2
    exact tb.2 z e2 (node_str g)⟩
theorem none_b {K : PySem.W.Frag} {H : Hp} {v : V} (h : NdV K H v none) : BNode K H v := ⟨none, h, fun k z e => nomatch e⟩
theorem bn_new {K : PySem.W.Frag} {d t : Addr} {H : Hp} {a b : V} (D : D3 H d) (n : H t = none) (ea : Elt K H a) (tb : ToldOk K H b) : Gr d H (upd H t (.tup [a, b])) ∧ BNode K (upd H t (.tup [a, b])) (.ref t) :=
  ⟨.laid D n, pair_b (SqT.of upd_same) (ea.tk (Tk.new n)) (tb.tk (Tk.new n))⟩
def BAll (K : PySem.W.Frag) (H : Hp) (xs : List V) : Prop := ∀ v ∈ xs, BNode K H v
theorem BAll.ku {K : PySem.W.Frag} {H H' : Hp} {xs : List V} (h : BAll K H xs) (k : Ku H H') : BAll K H' xs := fun v hv => (h v hv).ku k
theorem BAll.nodes {K : PySem.W.Frag} {H : Hp} : ∀ {xs : List V}, BAll K H xs → ∃ nds, NdAll K H xs nds ∧ nds.length = xs.length ∧ ∀ n ∈ nds, FactOk n
  | [], _ => ⟨[], .nil, rfl, fun _ h => nomatch h⟩
  | v :: r, h => by
    obtain ⟨n, a, b⟩ := h v List.mem_cons_self
    obtain ⟨nds, c, e, f⟩ := BAll.nodes (xs := r) fun u hu => h u (List.mem_cons_of_mem _ hu)
    exact ⟨n :: nds, .cons a c, by rw [List.length_cons, List.length_cons, e], fun m hm => (List.mem_cons.mp hm).elim (fun e => by rw [e]; exact b) (f m)⟩
theorem facts_ok {nds : List (Option (Str × V))} (h : ∀ n ∈ nds, FactOk n) : ∀ ns : List (Str × V), nds = ns.map some → ∀ z ∈ factsN ns, z ∈ uni6 := fun ns e z hz => by
  unfold factsN at hz
  obtain ⟨⟨k, t⟩, hn, hf⟩ := List.mem_filterMap.mp hz
  have hm : some (k, t) ∈ nds := by rw [e]; exact List.mem_map_of_mem hn
  split at hf
  · cases t with
    | str y =>
      cases hf
      exact h _ hm k z rfl
    | _ => cases hf
  · cases hf
theorem few_of {nds : List (Option (Str × V))} (h : ∀ n ∈ nds, FactOk n) (l : nds.length ≤ 15) : Few nds (okNs nds) := ⟨by omega, .inl l, facts_ok h⟩
theorem cutA (xs : List V) (a : Nat) : cutV xs none (some (a : Int)) = xs.take a := by
  unfold cutV
  rw [HT.sIx_none, HT.sIx_nat, List.drop_zero, Nat.sub_zero]
  by_cases h : a ≤ xs.length
  · rw [Nat.min_eq_left h]
  · rw [Nat.min_eq_right (by omega), List.take_of_length_le (Nat.le_refl _), List.take_of_length_le (by omega)]
theorem cutB (xs : List V) (a : Nat) (h : a ≤ xs.length) : cutV xs (some (a : Int)) none = xs.drop a := by
  unfold cutV
  rw [HT.sIx_none, HT.sIx_nat, Nat.min_eq_left h]
  exact List.take_of_length_le (by rw [List.length_drop]; exact Nat.le_refl _)
theorem ixN_nat {n a : Nat} (h : a < n) : ixN n (a : Int) = some a := by
  unfold ixN
  rw [if_pos (by omega), if_pos (by omega), Int.toNat_natCast]
theorem asc_uni {z : Str} (h : z ∈ uni6) : ascB z = true := by
  unfold uni6 at h
  simp only [List.mem_cons, List.not_mem_nil, or_false] at h
  rcases h with rfl | rfl | rfl | rfl | rfl | rfl <;> decide +kernel
theorem asc_kind {k : Str} {t : V} (h : nodeAB k t = true) : ascB k = true := by
  unfold nodeAB at h
  by_cases h1 : factKinds.contains k = true
  · unfold factKinds at h1
    rw [List.contains_iff_mem] at h1
    simp only [List.mem_cons, List.not_mem_nil, or_false] at h1
    rcases h1 with rfl | rfl <;> decide +kernel
  · rw [if_neg h1] at h
    by_cases h2 : sureKinds.contains k = true
    · unfold sureKinds at h2
      rw [List.contains_iff_mem] at h2
      simp only [List.mem_cons, List.not_mem_nil, or_false] at h2
      rcases h2 with rfl | rfl <;> decide +kernel
    · rw [if_neg h2, Bool.and_eq_true] at h
      rcases node_cases h.1 with rfl | rfl | rfl | rfl <;> decide +kernel
/-- a node of a promise, as it stands -/
theorem good_elt {K : PySem.W.Frag} {H : Hp} {k : Str} {t : V} (h : nodeAB k t = true) (hu : ∀ z, t = .str z → z ∈ uni6) : Elt K H (.str k) ∧ ToldOk K H t := by
  refine ⟨eltS k (asc_kind h), ?_⟩
  cases t with
  | str z => exact ⟨eltS z (asc_uni (hu z rfl)), fun y e _ => hu y e⟩
  | int i => exact toldE (eltI i) fun z e => nomatch e
  | bl b => exact toldE (eltB b) fun z e => nomatch e
  | non => exact toldE eltN fun z e => nomatch e
  | _ =>
    exfalso
    unfold nodeAB at h
    split at h
    · cases h
    · split at h
      · cases h
      · rw [Bool.and_eq_true] at h
        cases h.2
theorem nds_b {K : PySem.W.Frag} {H : Hp} {xs : List V} {ns : List (Str × V)} (h : NdsAt K H xs ns) (g : GoodN ns) (w : InW uni6 ns) : BAll K H xs := fun v hv => by
  obtain ⟨i, hi⟩ := List.mem_iff_getElem?.mp hv
  obtain ⟨a, k, t, rfl, hk, ha⟩ := h.get hi
  have hm := List.mem_of_getElem? hk
  obtain ⟨e1, e2⟩ := good_elt (K := K) (H := H) (g _ hm) fun z e => w k z (by rw [← e]; exact hm)
  exact pair_b ha e1 e2
end Eh

set_option Elab.async false
set_option linter.all false
set_option maxRecDepth 100000
set_option maxHeartbeats 4000000
namespace Eh
open PySem PySem.Spec PyProof.Rows L2
theorem fact_uni {z : Str} (h : z ∈ uni6) : factS z = true := by
  unfold uni6 at h
  simp only [List.mem_cons, List.not_mem_nil, or_false] at h
  rcases h with rfl | rfl | rfl | rfl | rfl | rfl <;> decide +kernel
theorem leaf_good {k : Str} {t : V} (o : leafOk k t = true) (w : ∀ z, t = .str z → z ∈ uni6) : nodeAB k t = true ∧ partsN (k, t) = 0 := by
  unfold leafOk at o
  cases t with
  | str z =>
    have hz : factV (.str z) = true := fact_uni (w z rfl)
    rcases (Bool.or_eq_true _ _).mp o with h | h
    · rw [eq_of_beq h]
      exact ⟨by unfold nodeAB; rw [if_pos (by decide +kernel)]; exact hz, by unfold partsN; rw [if_neg (show ¬ nodeKinds.contains "fact" = true by decide +kernel)]⟩
    · rw [eq_of_beq h]
      exact ⟨by unfold nodeAB; rw [if_pos (by decide +kernel)]; exact hz, by unfold partsN; rw [if_neg (show ¬ nodeKinds.contains "not" = true by decide +kernel)]⟩
  | int i =>
    obtain ⟨h, h0⟩ := (Bool.and_eq_true _ _).mp o
    have h0 : i = 0 := of_decide_eq_true h0
    subst h0
    rcases (Bool.or_eq_true _ _).mp h with h | h
    · rw [eq_of_beq h]
      exact ⟨by decide +kernel, by decide +kernel⟩
    · rw [eq_of_beq h]
      exact ⟨by decide +kernel, by decide +kernel⟩
  | _ => cases o
theorem InW.left {ws : List Str} {a b : List (Str × V)} (h : InW ws (a ++ b)) : InW ws a := fun k z m => h k z (List.mem_append_left _ m)
theorem InW.right {ws : List Str} {a b : List (Str × V)} (h : InW ws (a ++ b)) : InW ws b := fun k z m => h k z (List.mem_append_right _ m)
mutual
theorem At.due {K : PySem.W.Frag} {H : Hp} : ∀ {v : V} {p : Pl}, At K H v p → InW uni6 (nodesOf p) → (∀ l rest, dueGo (l + 1) (nodesOf p ++ rest) = dueGo l rest) ∧ GoodN (nodesOf p)
  | _, _, .leaf (k := k) (t := t) h o, w => by
    rw [nodesOf] at w ⊢
    obtain ⟨g1, g2⟩ := leaf_good o fun z e => w k z (by rw [e]; exact List.mem_cons_self)
    refine ⟨fun l rest => ?_, fun n hn => ?_⟩
    · show dueGo (l + partsN (k, t)) rest = _
      rw [g2]
      rfl
    · rw [List.mem_singleton.mp hn]
      exact g1
  | _, _, .node (k := k) (ps := ps) h1 h2 o a b r, w => by
    rw [nodesOf] at w ⊢
    obtain ⟨g1, g2⟩ := AtAll.due r fun x z m => w x z (List.mem_cons_of_mem _ m)
    refine ⟨fun l rest => ?_, fun n hn => ?_⟩
    · show dueGo (l + partsN (k, .int (ps.length : Int))) (nodesAll ps ++ rest) = _
      have e : partsN (k, .int (ps.length : Int)) = ps.length := by
        unfold partsN
        rw [if_pos (show nodeKinds.contains k = true from o)]
        exact Int.toNat_natCast _
      rw [e]
      exact g1 l rest
    · rcases List.mem_cons.mp hn with e | e
      · rw [e]
        unfold nodeAB
        have f := node_not_fact (k := k) o
        rw [f.1, f.2, show nodeKinds.contains k = true from o]
        show (true && (decide ((2 : Int) ≤ ps.length) && decide ((ps.length : Int) ≤ 4))) = true
        rw [decide_eq_true (by omega), decide_eq_true (by omega)]
        rfl
      · exact g2 n e
theorem AtAll.due {K : PySem.W.Frag} {H : Hp} : ∀ {vs : List V} {ps : List Pl}, AtAll K H vs ps → InW uni6 (nodesAll ps) → (∀ l rest, dueGo (l + ps.length) (nodesAll ps ++ rest) = dueGo l rest) ∧ GoodN (nodesAll ps)
  | _, _, .nil, w => by
    rw [nodesAll]
    exact ⟨fun l rest => rfl, fun n h => nomatch h⟩
  | _, _, .cons (p := p) (ps := ps) h r, w => by
    rw [nodesAll] at w ⊢
    obtain ⟨a1, a2⟩ := At.due h w.left
    obtain ⟨b1, b2⟩ := AtAll.due r w.right
    refine ⟨fun l rest => ?_, fun n hn => (List.mem_append.mp hn).elim (a2 n) (b2 n)⟩
    rw [List.append_assoc, List.length_cons, show l + (ps.length + 1) = (l + ps.length) + 1 from rfl, a1, b1]
end
theorem nds_all {K : PySem.W.Frag} {H : Hp} : ∀ {xs : List V} {ns : List (Str × V)}, NdsAt K H xs ns → GoodN ns → InW uni6 ns → NdAll K H xs (ns.map some)
  | _, _, .nil, _, _ => .nil
  | _, _, .cons (k := k) (t := t) (ns := ns) h r, g, w => by
    have hg := g _ List.mem_cons_self
    obtain ⟨e1, e2⟩ := good_elt (K := K) (H := H) hg fun z e => w k z (by rw [show t = V.str z from e]; exact List.mem_cons_self)
    have e : pairNd (.str k) t = some (k, t) := by
      show (if nodeAB k t = true then some (k, t) else none) = _
      rw [if_pos hg]
    have p := NdV.pair h e1 e2.1
    rw [e] at p
    exact .cons p (nds_all r (fun n hn => g n (List.mem_cons_of_mem _ hn)) fun x z m => w x z (List.mem_cons_of_mem _ m))
theorem NdAll.app {K : PySem.W.Frag} {H : Hp} : ∀ {xs ys : List V} {a b : List (Option (Str × V))}, NdAll K H xs a → NdAll K H ys b → NdAll K H (xs ++ ys) (a ++ b)
  | _, _, _, _, .nil, h => h
  | _, _, _, _, .cons x r, h => .cons x (r.app h)
theorem fact_some {ns : List (Str × V)} (w : InW uni6 ns) : ∀ n ∈ ns.map some, FactOk n := fun n hn k z e => by
  obtain ⟨x, hx, rfl⟩ := List.mem_map.mp hn
  cases e
  exact w k z hx
/-- a value that is no promise's nodes -/
def Odd (K : PySem.W.Frag) (H : Hp) (v : V) : Prop := ∃ nds, NodesV K H v nds false ∧ Few nds false
theorem Odd.ku {K : PySem.W.Frag} {H H' : Hp} {v : V} (h : Odd K H v) (k : Ku H H') : Odd K H' v := by
  obtain ⟨nds, a, b⟩ := h
  exact ⟨nds, a.ku k, b⟩
theorem odd_no {K : PySem.W.Frag} {H : Hp} {v : V} (h : NoT H v) : Odd K H v := ⟨[], .other h, by decide, .inr rfl, fun ns e z hz => by
  have e : ns = [] := List.map_eq_nil_iff.mp e.symm
  rw [e] at hz
  cases hz⟩
theorem odd_tup {K : PySem.W.Frag} {H : Hp} {p : Addr} {xs : List V} {nds : List (Option (Str × V))} (h : SqT K H p xs) (n : NdAll K H xs nds) (e : okNs nds = false) (l : nds.length < 60) (f : ∀ n ∈ nds, FactOk n) : Odd K H (.ref p) := by
  have z := NodesV.tup h n
  rw [e] at z
  exact ⟨nds, z, l, .inr rfl, facts_ok f⟩
theorem fact_none : ∀ n ∈ ([none] : List (Option (Str × V))), FactOk n := fun n hn k z e => by
  rw [List.mem_singleton.mp hn] at e
  cases e
theorem fact_none2 : ∀ n ∈ ([none, none] : List (Option (Str × V))), FactOk n := fun n hn k z e => by
  simp only [List.mem_cons, List.not_mem_nil, or_false, or_self] at hn
  rw [hn] at e
  cases e
end Eh

set_option Elab.async false
set_option linter.all false
set_option maxRecDepth 100000
namespace Eh
open PySem PySem.Spec PyProof.Rows L2
/-! ### the promise of a plain one; its depth -/
/-- a promise with these nodes stands at x -/
def PrAt (K : PySem.W.Frag) (C : Addr) (H : Hp) (x : V) (ns : List (Str × V)) : Prop := ∃ a dx p xs, x = .ref a ∧ H a = some (.ins C dx [(("_nodes" : Str), .ref p)]) ∧ SqT K H p xs ∧ NdsAt K H xs ns
mutual
def depthOf : Pl → Nat
  | .leaf _ _ => 1
  | .node _ ps => 1 + depthAll ps
def depthAll : List Pl → Nat
  | [] => 0
  | p :: ps => max (depthOf p) (depthAll ps)
end
theorem depth_get : ∀ {ps : List Pl} {i : Nat} {p : Pl}, ps[i]? = some p → depthOf p ≤ depthAll ps
  | [], _, _, h => by simp at h
  | q :: ps, 0, p, h => by
    cases (show some q = some p from h)
    rw [depthAll]
    exact Nat.le_max_left _ _
  | q :: ps, i + 1, p, h => by
    have := depth_get (ps := ps) (i := i) h
    rw [depthAll]
    exact Nat.le_trans this (Nat.le_max_right _ _)
theorem depth_mem : ∀ {ps : List Pl}, ps ≠ [] → ∃ p ∈ ps, depthOf p = depthAll ps
  | [], h => absurd rfl h
  | [q], _ => ⟨q, List.mem_cons_self, by rw [depthAll, depthAll]; exact (Nat.max_eq_left (Nat.zero_le _)).symm⟩
  | q :: r :: ps, _ => by
    obtain ⟨p, hp, e⟩ := depth_mem (ps := r :: ps) (by simp)
    rw [depthAll]
    by_cases h : depthOf q ≤ depthAll (r :: ps)
    · exact ⟨p, List.mem_cons_of_mem _ hp, by rw [e, Nat.max_eq_right h]⟩
    · exact ⟨q, List.mem_cons_self, by rw [Nat.max_eq_left (by omega)]⟩
theorem at_good {K : PySem.W.Frag} {H : Hp} {v : V} {pl : Pl} (h : At K H v pl) (w : InW uni6 (nodesOf pl)) (l : (nodesOf pl).length ≤ 15) : dueGo 1 (nodesOf pl) = true ∧ GoodN (nodesOf pl) ∧ okNs ((nodesOf pl).map some) = true ∧ Few ((nodesOf pl).map some) true := by
  obtain ⟨du, gd⟩ := h.due w
  have hd : dueGo 1 (nodesOf pl) = true := by
    have := du 0 []
    rw [List.append_nil] at this
    exact this
  have ok : okNs ((nodesOf pl).map some) = true := by rw [not_due_of rfl]; exact hd
  have fw := few_of (nds := (nodesOf pl).map some) (fact_some w) (by rw [List.length_map]; exact l)
  rw [ok] at fw
  exact ⟨hd, gd, ok, fw⟩
section
variable {P : Program} {w : World} {K : PySem.W.Frag} {mg : Str → Option Value} {base : Heap}
def spMade' (K : PySem.W.Frag) (C : Addr) (n : Nat) : Sp := fun vs H Q _ => ∃ v pl, vs = [v] ∧ At K H v pl ∧ InW uni6 (nodesOf pl) ∧ (nodesOf pl).length ≤ n ∧ n ≤ 15 ∧ ∀ x H', Same H H' → PrAt K C H' x (nodesOf pl) → (∀ a, x = .ref a → H a = none) → Q x H'
theorem ok_made {n : Nat} {fN fI fL C CE f : Addr} {fdN fdI fd : FuncData} (F : Fun K "_law_made" "_law_made" s__law_made f fd) (T : Txt mg) (PC : PromC K mg C fI fL) (C__law_nodes : Cal P w K mg base (n + 1) "_law_nodes" fN fdN ["plain"] (spNodes K n))
    (GI : FnOk P w K mg base (L2.CX P w) 4 fI fdI ["self", "nodes"] (spInit K C CE)) (bI : Binds K fdI ["self", "nodes"] []) : FnOk P w K mg base CX0 (n + 6) f fd ["plain"] (spMade' K C n) := by
  refine F.ok sc__law_made (fun vs H Q E h => ?_) (fun cdv A outer s H vs Q E hr h => ?_)
  · obtain ⟨v, pl, rfl, _⟩ := h
    rfl
  · obtain ⟨v, pl, rfl, hA, hw, hl, hn, q⟩ := h
    have hr1 := hr.mono (j := n + 1) (by omega)
    have hr5 := hr.mono (j := 5) (by omega)
    refine ⟨_, (pss_one (ps_ret (pe_make PC.mkC GI hr5 (by rfl) PC.g bI .nil passL (pa_cons (pe_callTy call_tuple_of (by rfl) T.tuple_ (by decide +kernel) (pa_cons (pe_call C__law_nodes.G hr1 (by rfl) C__law_nodes.m C__law_nodes.k C__law_nodes.b .nil pass0 (pa_cons (pv 0) pa_nil)) pa_nil)) pa_nil)))), ?_⟩
    obtain ⟨hd, gd, okn, few⟩ := at_good hA hw (by omega)
    refine ⟨_, rfl, v, pl, rfl, hA, hl, by omega, fun xs l H1 s1 n1 e1 N1 => ?_⟩
    refine ⟨l, xs, rfl, .inl ⟨SqL.of e1, fun p np => fun x dx nx nd ne => ?_⟩⟩
    have s2 : Same H (upd H1 p (.tup xs)) := s1.trans (same_new np)
    have s3 : Same H (upd (upd (upd H1 p (.tup xs)) dx (.own x)) x (.ins C dx [])) := fun b o e => by
      have e2 := s2 b o e
      rw [upd_ne (ne_of_none e2 nx), upd_ne (ne_of_none e2 nd)]
      exact e2
    have t3 : Tk (upd H1 p (.tup xs)) (upd (upd (upd H1 p (.tup xs)) dx (.own x)) x (.ins C dx [])) := stk fun b o e => by
      rw [upd_ne (ne_of_none e nx), upd_ne (ne_of_none e nd)]
      exact e
    have h3 : SqT K (upd (upd (upd H1 p (.tup xs)) dx (.own x)) x (.ins C dx [])) p xs := t3.seq (SqT.of upd_same)
    have N3 := (N1.tk (Tk.new (o := .tup xs) np)).tk t3
    have nv := NodesV.tup h3 (nds_all N3 gd hw)
    rw [okn] at nv
    refine ⟨x, dx, .ref p, _, true, rfl, upd_same, nv, few, fun _ H4 bt e4 => ⟨rfl, ?_⟩, fun e => nomatch e⟩
    have nxH : H x = none := s2.free nx
    have s4 : Same H H4 := fun b o e => bt b o (ne_of_none e nxH) (s3 b o e)
    have k4 : Tk (upd (upd (upd H1 p (.tup xs)) dx (.own x)) x (.ins C dx [])) H4 := fun a zs h => by
      have na : a ≠ x := fun z => by
        rw [z] at h
        rcases h with h | ⟨o, h⟩
        · rw [upd_same] at h; cases h
        · rw [upd_same] at h; cases h
      rcases h with h | ⟨o, h⟩
      · exact .inl (bt a _ na h)
      · exact .inr ⟨o, bt a _ na h⟩
    exact q (.ref x) H4 s4 ⟨x, dx, p, xs, rfl, e4, k4.seq h3, N3.tk k4⟩ fun a e => by
      cases e
      exact nxH
/-! depth -/
def spDepthL (K : PySem.W.Frag) (n : Nat) : Sp := fun vs H Q _ => ∃ v pl, vs = [v] ∧ At K H v pl ∧ (nodesOf pl).length ≤ n ∧ n < 1000 ∧ ∀ H', Same H H' → Q (.int (depthOf pl)) H'
end
end Eh

set_option Elab.async false
set_option linter.all false
set_option maxRecDepth 100000
namespace Eh
open PySem PySem.Spec PyProof.Rows L2
/-! ### texts -/
def signOf (k : Str) : Str := if k = "all" then " & " else if k = "mine" then " + " else if k = "some" then " | " else " * "
def brack (k : Str) (ts : List Str) : Str := if choiceKinds.contains k = true then "[" ++ Txt.join (signOf k) ts ++ "]" else "(" ++ Txt.join (signOf k) ts ++ ")"
def plainT (k : Str) (t : V) : Str := match t with
  | .str z => if k = "fact" then z else "!" ++ z
  | _ => k
mutual
def textOf : Pl → Str
  | .leaf k t => plainT k t
  | .node k ps => brack k (textAll ps)
def textAll : List Pl → List Str
  | [] => []
  | p :: ps => textOf p :: textAll ps
end
theorem textAll_length : ∀ ps : List Pl, (textAll ps).length = ps.length
  | [] => by rw [textAll]; rfl
  | p :: ps => by rw [textAll, List.length_cons, List.length_cons, textAll_length ps]
/-- what stands on the stack behind nodes, read from behind; the first on top -/
def stackT : List (Str × V) → List Str
  | [] => []
  | n :: ns => if nodeKinds.contains n.1 = true then brack n.1 ((stackT ns).take (partsN n)) :: (stackT ns).drop (partsN n) else plainT n.1 n.2 :: stackT ns
mutual
theorem At.stack {K : PySem.W.Frag} {H : Hp} : ∀ {v : V} {p : Pl}, At K H v p → ∀ rest, stackT (nodesOf p ++ rest) = textOf p :: stackT rest
  | _, _, .leaf (k := k) (t := t) h o, rest => by
    rw [nodesOf, textOf]
    show (if nodeKinds.contains k = true then _ else _) = _
    rw [if_neg]
    · rfl
    · intro z
      have h1 := leaf_kind o
      rw [node_kind z] at h1
      cases h1
  | _, _, .node (k := k) (ps := ps) h1 h2 o a b r, rest => by
    have ih := AtAll.stack r rest
    rw [nodesOf, textOf]
    show (if nodeKinds.contains k = true then brack k ((stackT (nodesAll ps ++ rest)).take (partsN (k, .int (ps.length : Int)))) :: (stackT (nodesAll ps ++ rest)).drop (partsN (k, .int (ps.length : Int))) else _) = _
    have e : partsN (k, .int (ps.length : Int)) = (textAll ps).length := by
      rw [textAll_length]
      unfold partsN
      rw [if_pos (show nodeKinds.contains k = true from o)]
      exact Int.toNat_natCast _
    rw [if_pos (show nodeKinds.contains k = true from o), ih, e, List.take_left, List.drop_left]
theorem AtAll.stack {K : PySem.W.Frag} {H : Hp} : ∀ {vs : List V} {ps : List Pl}, AtAll K H vs ps → ∀ rest, stackT (nodesAll ps ++ rest) = textAll ps ++ stackT rest
  | _, _, .nil, rest => by rw [nodesAll, textAll]; rfl
  | _, _, .cons (p := p) (ps := ps) h r, rest => by
    rw [nodesAll, textAll, List.append_assoc, At.stack h, AtAll.stack r]
    rfl
end
end Eh

set_option Elab.async false
set_option linter.all false
set_option maxRecDepth 100000
set_option maxHeartbeats 2000000
namespace Eh
open PySem PySem.Spec PyProof.Rows L2
/-! ### the program's texts -/
structure SgnV (K : PySem.W.Frag) (w : World) (mg : Str → Option Value) (p : Addr) : Prop where
  g : mg "SIGNS" = some (.ref p)
  v : ∀ k, nodeKinds.contains k = true → KDct K w p k (.str (signOf k))
theorem sgn_mk {K : PySem.W.Frag} {w : World} {mg : Str → Option Value} {p : Addr} {n : Nat} {h1 h2 h3 h4 : Int} {t1 t2 t3 t4 u1 u2 u3 u4 : Tok} (g : mg "SIGNS" = some (.ref p))
    (l : K.lookup p = some ⟨.type "dict", none, .dict #[⟨h1, .str "all" t1, .str " & " u1⟩, ⟨h2, .str "mine" t2, .str " + " u2⟩, ⟨h3, .str "some" t3, .str " | " u3⟩, ⟨h4, .str "yours" t4, .str " * " u4⟩] n, #[]⟩)
    (hh : PySem.W.KeysLit w.params [⟨h1, .str "all" t1, .str " & " u1⟩, ⟨h2, .str "mine" t2, .str " + " u2⟩, ⟨h3, .str "some" t3, .str " | " u3⟩, ⟨h4, .str "yours" t4, .str " * " u4⟩]) : SgnV K w mg p := by
  refine ⟨g, fun k hk => ?_⟩
  have i (x z : Str) (t : Tok) : (Value.str x t).isStr z = (x == z) := rfl
  have e (z : Str) : PySem.W.nsIn K p z = (match List.find? (fun x => x.key.isStr z) [(⟨h1, .str "all" t1, .str " & " u1⟩ : DictEntry), ⟨h2, .str "mine" t2, .str " + " u2⟩, ⟨h3, .str "some" t3, .str " | " u3⟩, ⟨h4, .str "yours" t4, .str " * " u4⟩] with
          | some e => some (some e.val)
          | none => if (List.any [(⟨h1, .str "all" t1, .str " & " u1⟩ : DictEntry), ⟨h2, .str "mine" t2, .str " + " u2⟩, ⟨h3, .str "some" t3, .str " | " u3⟩, ⟨h4, .str "yours" t4, .str " * " u4⟩] fun x => x.refKey) = true then none else some none) := by
    unfold PySem.W.nsIn
    rw [l]
    rfl
  rcases node_cases hk with rfl | rfl | rfl | rfl
  · exact ⟨_, n, .str " & " u1, l, hh, by rw [e]; simp only [List.find?_cons, i, show (("all" : Str) == "all") = true from by decide +kernel], ⟨u1, rfl⟩⟩
  · exact ⟨_, n, .str " | " u3, l, hh, by rw [e]; simp only [List.find?_cons, i, show (("all" : Str) == "some") = false from by decide +kernel, show (("mine" : Str) == "some") = false from by decide +kernel, show (("some" : Str) == "some") = true from by decide +kernel], ⟨u3, by rw [show signOf "some" = " | " from by decide +kernel]⟩⟩
  · exact ⟨_, n, .str " + " u2, l, hh, by rw [e]; simp only [List.find?_cons, i, show (("all" : Str) == "mine") = false from by decide +kernel, show (("mine" : Str) == "mine") = true from by decide +kernel], ⟨u2, by rw [show signOf "mine" = " + " from by decide +kernel]⟩⟩
  · exact ⟨_, n, .str " * " u4, l, hh, by rw [e]; simp only [List.find?_cons, i, show (("all" : Str) == "yours") = false from by decide +kernel, show (("mine" : Str) == "yours") = false from by decide +kernel, show (("some" : Str) == "yours") = false from by decide +kernel, show (("yours" : Str) == "yours") = true from by decide +kernel], ⟨u4, by rw [show signOf "yours" = " * " from by decide +kernel]⟩⟩
def sumL (ts : List Str) : Nat := (ts.map (·.length)).sum
theorem sumL_cons (a : Str) (ts : List Str) : sumL (a :: ts) = a.length + sumL ts := by
  unfold sumL
  rw [List.map_cons, List.sum_cons]
theorem sumL_take_drop (ts : List Str) (n : Nat) : sumL (ts.take n) + sumL (ts.drop n) = sumL ts := by
  unfold sumL
  rw [← List.sum_append, ← List.map_append, List.take_append_drop]
theorem sapp (a b : Str) : (a ++ b).length = a.length + b.length := Str.length_append a b
theorem join_len (y : Str) : ∀ ts : List Str, (Str.join y ts).length ≤ sumL ts + ts.length * y.length
  | [] => Nat.zero_le _
  | [x] => by
    show x.length ≤ _
    rw [sumL_cons]
    omega
  | x :: z :: r => by
    have ih := join_len y (z :: r)
    show (x ++ y ++ Str.join y (z :: r)).length ≤ _
    rw [sapp, sapp, sumL_cons, List.length_cons, Nat.succ_mul]
    omega
theorem sign_len (k : Str) : (signOf k).length = 3 := by
  unfold signOf
  split
  · decide +kernel
  · split
    · decide +kernel
    · split <;> decide +kernel
theorem brack_len (k : Str) (ts : List Str) : (brack k ts).length ≤ sumL ts + ts.length * 3 + 2 := by
  have h := join_len (signOf k) ts
  rw [sign_len] at h
  unfold brack
  rw [TL.join_eq]
  split <;> rw [sapp, sapp] <;> (show 1 + _ + 1 ≤ _) <;> omega
theorem stack_len : ∀ {ns : List (Str × V)} {l : Nat}, dueGo l ns = true → (stackT ns).length = l
  | [], l, h => by
    have h : decide (l = 0) = true := h
    exact (of_decide_eq_true h).symm
  | n :: ns, 0, h => by cases h
  | n :: ns, l + 1, h => by
    have ih := stack_len (show dueGo (l + partsN n) ns = true from h)
    show (if nodeKinds.contains n.1 = true then _ else _ : List Str).length = _
    by_cases c : nodeKinds.contains n.1 = true
    · rw [if_pos c, List.length_cons, List.length_drop, ih]
      omega
    · rw [if_neg c, List.length_cons, ih]
      unfold partsN
      rw [if_neg c]
theorem due_drop : ∀ {ns : List (Str × V)} {l : Nat}, dueGo l ns = true → ∀ i, ∃ m, dueGo m (ns.drop i) = true
  | ns, l, h, 0 => ⟨l, h⟩
  | [], l, h, i + 1 => ⟨0, rfl⟩
  | n :: ns, 0, h, i + 1 => by cases h
  | n :: ns, l + 1, h, i + 1 => due_drop (show dueGo (l + partsN n) ns = true from h) i
theorem plain_len {k : Str} {t : V} (h : nodeAB k t = true) (c : nodeKinds.contains k = false) : (plainT k t).length ≤ 9 := by
  unfold nodeAB at h
  by_cases h1 : factKinds.contains k = true
  · rw [if_pos h1] at h
    cases t with
    | str z =>
      have hz : factS z = true := h
      have h8 : z.length ≤ 8 := by
        unfold factS at hz
        simp only [Bool.and_eq_true] at hz
        exact (of_decide_eq_true hz.1.1.1).2
      show (if k = "fact" then z else "!" ++ z).length ≤ 9
      split
      · omega
      · rw [sapp]
        show 1 + _ ≤ 9
        omega
    | _ => cases h
  · rw [if_neg h1] at h
    by_cases h2 : sureKinds.contains k = true
    · rw [if_pos h2] at h
      have hk : k.length ≤ 9 := by
        unfold sureKinds at h2
        rw [List.contains_iff_mem] at h2
        simp only [List.mem_cons, List.not_mem_nil, or_false] at h2
        rcases h2 with rfl | rfl <;> decide +kernel
      cases t with
      | int i => exact hk
      | _ => cases h
    · rw [if_neg h2, c] at h
      cases h
theorem stack_sum : ∀ {ns : List (Str × V)}, GoodN ns → sumL (stackT ns) ≤ 16 * ns.length
  | [], _ => Nat.le_refl _
  | n :: ns, g => by
    have ih := stack_sum (fun x hx => g x (List.mem_cons_of_mem _ hx) : GoodN ns)
    have hn := g n List.mem_cons_self
    show sumL (if nodeKinds.contains n.1 = true then _ else _) ≤ _
    rw [List.length_cons]
    by_cases c : nodeKinds.contains n.1 = true
    · rw [if_pos c, sumL_cons]
      have b := brack_len n.1 ((stackT ns).take (partsN n))
      have e := sumL_take_drop (stackT ns) (partsN n)
      obtain ⟨i, et, h2, h4⟩ := good_int hn c
      have hp : ((stackT ns).take (partsN n)).length ≤ 4 := by
        rw [List.length_take]
        unfold partsN
        rw [if_pos c, et]
        show min i.toNat _ ≤ 4
        omega
      omega
    · rw [if_neg c, sumL_cons]
      have := plain_len hn (by cases e : nodeKinds.contains n.1 with | false => rfl | true => exact absurd e c)
      omega
section
variable {P : Program} {w : World} {K : PySem.W.Frag} {mg : Str → Option Value} {base : Heap}
def spPlainT : Sp := fun vs H Q _ => ∃ k t, vs = [.str k, t] ∧ nodeAB k t = true ∧ nodeKinds.contains k = false ∧ Q (.str (plainT k t)) H
theorem ok_plain_text {f : Addr} {fd : FuncData} (F : Fun K "plain_text" "plain_text" s_plain_text f fd) (T : Txt mg) : FnOk P w K mg base CX0 1 f fd ["kind", "told"] spPlainT := by
  refine F.ok sc_plain_text (fun vs H Q E h => ?_) (fun cdv A outer s H vs Q E hr h => ?_)
  · obtain ⟨k, t, rfl, _⟩ := h
    rfl
  · obtain ⟨k, t, rfl, hg, hc, q⟩ := h
    refine ⟨_, (pss_cons (ps_if (pt_cmpR op_eq (pv 0) pe_str (nomark _))
  (pss_one (ps_ret (pv 1)))
  pss_nil)
  (pss_one (ps_ret (pe_ifExp (pt_cmpR op_eq (pv 0) pe_str (nomark _)) (pe_op op_add_str pe_str (pv 1)) (pv 0))))), ?_⟩
    have hl := plain_len hg hc
    unfold nodeAB at hg
    by_cases h1 : factKinds.contains k = true
    · rw [if_pos h1] at hg
      cases t with
      | str z =>
        unfold factKinds at h1
        rw [List.contains_iff_mem] at h1
        simp only [List.mem_cons, List.not_mem_nil, or_false] at h1
        rcases h1 with rfl | rfl
        · refine ⟨_, rfl, rfl, _, rfl, iteT' (by decide +kernel) ⟨_, rfl, ?_⟩⟩
          have e : plainT "fact" (.str z) = z := by
            show (if ("fact" : Str) = "fact" then z else "!" ++ z) = z
            rw [if_pos rfl]
          rw [e] at q
          exact q
        · refine ⟨_, rfl, rfl, _, rfl, iteF' (by decide +kernel) ?_⟩
          refine ⟨_, rfl, rfl, _, rfl, iteT' (by decide +kernel) ?_⟩
          have e : plainT "not" (.str z) = "!" ++ z := by
            show (if ("not" : Str) = "fact" then z else "!" ++ z) = _
            rw [if_neg (by decide +kernel)]
          rw [e] at q hl
          rw [sapp] at hl
          refine ⟨_, rfl, "!", z, rfl, rfl, Nat.le_of_lt (small (by omega)), q⟩
      | _ => cases hg
    · rw [if_neg h1] at hg
      by_cases h2 : sureKinds.contains k = true
      · rw [if_pos h2] at hg
        cases t with
        | int i =>
          have e : plainT k (.int i) = k := rfl
          rw [e] at q
          unfold sureKinds at h2
          rw [List.contains_iff_mem] at h2
          simp only [List.mem_cons, List.not_mem_nil, or_false] at h2
          rcases h2 with rfl | rfl
          · exact ⟨_, rfl, rfl, _, rfl, iteF' (by decide +kernel) ⟨_, rfl, rfl, _, rfl, iteF' (by decide +kernel) ⟨_, rfl, q⟩⟩⟩
          · exact ⟨_, rfl, rfl, _, rfl, iteF' (by decide +kernel) ⟨_, rfl, rfl, _, rfl, iteF' (by decide +kernel) ⟨_, rfl, q⟩⟩⟩
        | _ => cases hg
      · rw [if_neg h2, hc] at hg
        cases hg
end
end Eh

set_option Elab.async false
set_option linter.all false
set_option maxRecDepth 100000
set_option maxHeartbeats 2000000
namespace Eh
open PySem PySem.Spec PyProof.Rows L2
theorem revtop {s : Str} {r : List Str} : ((s :: r).reverse).map V.str = r.reverse.map V.str ++ [V.str s] := by
  rw [List.reverse_cons, List.map_append]
  rfl
theorem stack_le : ∀ ns : List (Str × V), (stackT ns).length ≤ ns.length
  | [] => Nat.le_refl _
  | n :: ns => by
    have ih := stack_le ns
    show (if nodeKinds.contains n.1 = true then _ else _ : List Str).length ≤ _
    split
    · rw [List.length_cons, List.length_drop, List.length_cons]
      omega
    · rw [List.length_cons, List.length_cons]
      omega
section
variable {P : Program} {w : World} {K : PySem.W.Frag} {mg : Str → Option Value} {base : Heap}
theorem ixKd {X : Cx} (h : X.K = K) (hw : X.w = w) : IxR X (rIxD K w) := by
  subst h hw
  exact ix_kdict
def spBrack (K : PySem.W.Frag) : Sp := fun vs H Q _ => ∃ k p ts, vs = [.str k, .ref p] ∧ nodeKinds.contains k = true ∧ SqL K H p (ts.map V.str) ∧ sumL ts + ts.length * 3 ≤ 900000 ∧ ∀ H', Same H H' → Q (.str (brack k ts)) H'
theorem ok_bracketed {p0 f : Addr} {fd : FuncData} (F : Fun K "bracketed" "bracketed" s_bracketed f fd) (T : Txt mg) (S : SgnV K w mg p0) : FnOk P w K mg base CX0 1 f fd ["kind", "parts"] (spBrack K) := by
  refine F.ok sc_bracketed (fun vs H Q E h => ?_) (fun cdv A outer s H vs Q E hr h => ?_)
  · obtain ⟨k, p, ts, rfl, _⟩ := h
    rfl
  · obtain ⟨k, p, ts, rfl, hk, hS, hl, q⟩ := h
    refine ⟨_, (pss_cons (ps_set (i := 2) sc_bracketed.nd rfl (.inl rfl) (pe_join (pe_ix (ixKd (K := K) (w := w) rfl rfl) (pe_glob (v := .ref p0) rfl S.g rfl) (pv 0) (fun _ _ => rfl)) (pv 1)))
  (pss_one (ps_ret (pe_ifExp (pt_cmpR (inQ (K := K) rfl) (pv 0) (pe_tup (pa_cons pe_str (pa_cons pe_str pa_nil))) (by rfl)) (pe_op op_add_str (pe_op op_add_str pe_str (pv 2)) pe_str) (pe_op op_add_str (pe_op op_add_str pe_str (pv 2)) pe_str))))), ?_⟩
    have h3 := sign_len k
    have hj := join_len (signOf k) ts
    rw [h3] at hj
    have hj2 : (Txt.join (signOf k) ts).length ≤ 900000 := by rw [TL.join_eq]; omega
    refine ⟨_, rfl, p0, k, _, rfl, rfl, S.v k hk, ⟨_, rfl⟩, _, rfl, signOf k, p, ts, rfl, rfl, .inl hS, ?_, ?_⟩
    · rw [h3]
      have : (ts.map (·.length)).sum = sumL ts := rfl
      omega
    refine ⟨_, rfl, lenOk 2, fun t nt => ⟨t, choiceKinds.map V.str, rfl, .inr (SqT.of upd_same), rfl, flat_strs _, _, rfl, ?_⟩⟩
    have s1 : Same H (upd H t (.tup (choiceKinds.map V.str))) := same_new nt
    have q' := q _ s1
    unfold brack at q'
    cases ec : choiceKinds.contains k with
    | true =>
      rw [if_pos ec] at q'
      refine iteT' ((inV_strs k choiceKinds).trans ec) ⟨_, rfl, "[", _, rfl, rfl, Nat.le_of_lt (small (by show 1 + _ < _; omega)), _, "]", rfl, rfl, Nat.le_of_lt (small (by rw [sapp]; show 1 + _ + 1 < _; omega)), q'⟩
    | false =>
      rw [if_neg (by rw [ec]; exact Bool.false_ne_true)] at q'
      refine iteF' ((inV_strs k choiceKinds).trans ec) ⟨_, rfl, "(", _, rfl, rfl, Nat.le_of_lt (small (by show 1 + _ < _; omega)), _, ")", rfl, rfl, Nat.le_of_lt (small (by rw [sapp]; show 1 + _ + 1 < _; omega)), q'⟩
def spText (K : PySem.W.Frag) : Sp := fun vs H Q _ => ∃ p xs ns t, vs = [.ref p] ∧ SqT K H p xs ∧ NdsAt K H xs ns ∧ GoodN ns ∧ dueGo 1 ns = true ∧ xs.length < 1000 ∧ stackT ns = [t] ∧ ∀ H', Same H H' → Q (.str t) H'
theorem ok_text_of {p0 fB fP f : Addr} {fdB fdP fd : FuncData} (F : Fun K "text_of" "text_of" s_text_of f fd) (T : Txt mg) (S : SignsAt K w mg p0) (C_bracketed : Cal P w K mg base 1 "bracketed" fB fdB ["kind", "parts"] (spBrack K)) (C_plain_text : Cal P w K mg base 1 "plain_text" fP fdP ["kind", "told"] spPlainT) :
    FnOk P w K mg base CX0 2 f fd ["nodes"] (spText K) := by
  refine F.ok sc_text_of (fun vs H Q E h => ?_) (fun cdv A outer s H vs Q E hr h => ?_)
  · obtain ⟨p, xs, ns, t, rfl, _⟩ := h
    rfl
  · obtain ⟨p, xs, ns, t, rfl, hS, hN, hg, hd, hlen, hst, q⟩ := h
    refine ⟨_, (pss_cons (ps_set (i := 1) sc_text_of.nd rfl (.inl rfl) (pe_lst pa_nil))
  (pss_cons (ps_for PassesOwn.never (by rfl) (pi_reversed (by rfl) T.reversed_ (pa_cons (pe_callTy (lstOf (K := K) rfl) (by rfl) T.list_ (by decide +kernel) (pa_cons (pv 0) pa_nil)) pa_nil)) (pg_tup (by rfl) (pgs_cons (pg_name (i := 2) sc_text_of.nd rfl (.inl rfl)) (pgs_cons (pg_name (i := 3) sc_text_of.nd rfl (.inl rfl)) pgs_nil)))
  (pss_one (ps_if (pt_cmpR (inKd S rfl rfl) (pv 2) (pe_glob (v := .ref p0) rfl S.g rfl) (by rfl))
  (pss_cons (ps_set (i := 4) sc_text_of.nd rfl (.inl rfl) (pe_lst pa_nil))
  (pss_cons (ps_for PassesOwn.never (by rfl) (pi_range1 (by rfl) T.range_ (pa_cons (pv 3) pa_nil)) (pg_name (i := 5) sc_text_of.nd rfl (.inl rfl))
  (pss_one (ps_expr (bmK (K := K) rfl (pe_bm PySem.F.plainAttrs_list PySem.F.slot_list_append PySem.F.type_list_append mt_append (pv 4) (pa_cons (bm0K (K := K) rfl (pe_bm0 PySem.F.plainAttrs_list PySem.F.slot_list_pop PySem.F.type_list_pop mt_pop (pv 1))) pa_nil))))))
  (pss_one (ps_expr (bmK (K := K) rfl (pe_bm PySem.F.plainAttrs_list PySem.F.slot_list_append PySem.F.type_list_append mt_append (pv 1) (pa_cons (pe_call C_bracketed.G (hr.mono (by omega)) (by rfl) C_bracketed.m C_bracketed.k C_bracketed.b .nil pass0 (pa_cons (pv 2) (pa_cons (pv 4) pa_nil))) pa_nil)))))))
  (pss_one (ps_expr (bmK (K := K) rfl (pe_bm PySem.F.plainAttrs_list PySem.F.slot_list_append PySem.F.type_list_append mt_append (pv 1) (pa_cons (pe_call C_plain_text.G (hr.mono (by omega)) (by rfl) C_plain_text.m C_plain_text.k C_plain_text.b .nil pass0 (pa_cons (pv 2) (pa_cons (pv 3) pa_nil))) pa_nil))))))))
  (pss_one (ps_ret (pe_ix (ixL (K := K) rfl) (pv 1) pe_int (fun _ _ => rfl)))))), ?_⟩
    have hxn := hN.length
    refine ⟨Nat.zero_le _, fun l nl => ?_⟩
    have s1 : Same H (upd H l (.lst [])) := same_new nl
    refine ⟨_, rfl, p, xs, rfl, .inr ((stk s1).seq hS), fun lq nq => ?_⟩
    have s2 := s1.trans (same_new (o := .lst xs) nq)
    have nH : H l = none := nl
    have nqH : H lq = none := s1.free nq
    have nlq : l ≠ lq := fun e => by rw [← e, upd_same] at nq; cases nq
    have keep : ∀ {a : Addr} {H' : Hp} {o : HO}, H a = none → Same H H' → Same H (upd H' a o) := fun {a H' o} na s b u eb => by
      rw [upd_ne (ne_of_none eb na)]
      exact s b u eb
    refine ⟨lq, xs, rfl, SqL.of upd_same, RT.for_Itv (K := K) (a := lq) (xs := xs) (fun i σ H2 => ∃ (x2 x3 x4 x5 : Option V), σ = [some (.ref p), some (.ref l), x2, x3, x4, x5] ∧ Same H H2 ∧ H2 lq = some (.lst xs) ∧ H2 l = some (.lst ((stackT (ns.drop (xs.length - i))).reverse.map V.str))) ?_ (fun i σ H2 h => ?_) ?_ ?_⟩
    · refine ⟨none, none, none, none, rfl, s2, upd_same, ?_⟩
      rw [upd_ne nlq, upd_same, Nat.sub_zero, hxn, List.drop_length]
      rfl
    · obtain ⟨x2, x3, x4, x5, _, s3, e3, _⟩ := h
      exact SqL.of e3
    · rintro i x σ H2 hi hx ⟨x2, x3, x4, x5, rfl, s3, e3, e4⟩
      obtain ⟨a, k, t2, rfl, hk, ha⟩ := hN.get hx
      have hgn := hg _ (List.mem_of_getElem? hk)
      have dr := drop_at hk
      rw [show xs.length - 1 - i + 1 = xs.length - i from by omega] at dr
      obtain ⟨mm, hmm⟩ := due_drop hd (xs.length - 1 - i)
      rw [show xs.length - (i + 1) = xs.length - 1 - i from by omega]
      rw [dr] at hmm ⊢
      generalize hrest : ns.drop (xs.length - i) = rest at hmm e4 ⊢
      have hrl : rest.length ≤ ns.length := by rw [← hrest, List.length_drop]; omega
      have hgr : GoodN rest := fun y hy => hg y (by rw [← hrest] at hy; exact List.mem_of_mem_drop hy)
      have hsum := stack_sum hgr
      refine ⟨a, _, rfl, (stk s3).seq ha, rfl, _, _, rfl, _, _, rfl, rfl, ?_⟩
      refine ⟨_, rfl, k, rfl, rfl, _, rfl, ?_⟩
      cases ek : nodeKinds.contains k with
      | false =>
        refine iteF ?_
        have hsl : (stackT rest).length < 1000 := by
          have := stack_le rest
          omega
        refine ⟨_, rfl, .inl ⟨rfl, _, SqL.of e4⟩, _, rfl, _, rfl, k, t2, rfl, hgn, ek, ?_⟩
        refine ⟨l, _, .str (plainT k t2), rfl, rfl, e4, small (by rw [List.length_map, List.length_reverse]; omega), ?_⟩
        refine ⟨_, _, _, _, rfl, keep nH s3, by rw [upd_ne nlq.symm]; exact e3, ?_⟩
        rw [upd_same]
        show some (HO.lst _) = some (HO.lst ((if nodeKinds.contains k = true then _ else _ : List Str).reverse.map V.str))
        rw [if_neg (by rw [ek]; exact Bool.false_ne_true), revtop]
      | true =>
        refine iteT ?_
        obtain ⟨ti, rfl, ht2, ht4⟩ := good_int hgn ek
        have hp : partsN (k, .int ti) = ti.toNat := by
          unfold partsN
          rw [if_pos ek]
          rfl
        have hS4 : ti.toNat ≤ (stackT rest).length := by
          cases mm with
          | zero => cases hmm
          | succ l' =>
            have := stack_len (show dueGo (l' + partsN (k, .int ti)) rest = true from hmm)
            rw [hp] at this
            omega
        have hle := stack_le rest
        have est : stackT ((k, .int ti) :: rest) = brack k ((stackT rest).take ti.toNat) :: (stackT rest).drop ti.toNat := by
          show (if nodeKinds.contains k = true then brack k ((stackT rest).take (partsN (k, .int ti))) :: (stackT rest).drop (partsN (k, .int ti)) else _) = _
          rw [if_pos ek, hp]
        rw [est]
        have hsum2 := sumL_take_drop (stackT rest) ti.toNat
        generalize stackT rest = S0 at e4 hS4 hle hsum hsum2 ⊢
        refine ⟨Nat.zero_le _, fun lp np => ?_⟩
        have npH : H lp = none := s3.free np
        have nlp : l ≠ lp := ne_of_none e4 np
        have nqp : lq ≠ lp := ne_of_none e3 np
        refine ⟨_, rfl, ti, rfl, by omega, by omega, ?_⟩
        refine for_range (lo := 0) (n := ti.toNat) (fun j σ H3 => (∃ y5 : Option V, σ = [some (.ref p), some (.ref l), some (.str k), some (.int ti), some (.ref lp), y5]) ∧ Same H H3 ∧ H3 lq = some (.lst xs) ∧ H3 l = some (.lst ((S0.drop j).reverse.map V.str)) ∧ H3 lp = some (.lst ((S0.take j).map V.str))) ?_ ?_ ?_
        · refine ⟨⟨_, rfl⟩, s3.trans (same_new np), by rw [upd_ne nqp]; exact e3, by rw [upd_ne nlp]; exact e4, upd_same⟩
        · rintro j σ H3 hj ⟨⟨y5, rfl⟩, u3, uq, ul, up⟩
          have hjl : j < S0.length := by omega
          have djs := drop_at (List.getElem?_eq_getElem hjl)
          rw [djs, revtop] at ul
          refine ⟨_, rfl, .inl ⟨rfl, _, SqL.of up⟩, _, rfl, .inl ⟨rfl, _, SqL.of ul⟩, l, _, .str S0[j], rfl, rfl, ul, ?_, ?_⟩
          · rw [List.length_append, List.length_singleton, Nat.add_sub_cancel]
            exact List.getElem?_concat_length
          rw [List.dropLast_concat]
          have up2 : (upd H3 l (.lst ((S0.drop (j + 1)).reverse.map V.str))) lp = some (.lst ((S0.take j).map V.str)) := by rw [upd_ne nlp.symm]; exact up
          refine ⟨lp, _, .str S0[j], rfl, rfl, up2, small (by rw [List.length_map, List.length_take]; omega), ?_⟩
          refine ⟨⟨_, rfl⟩, keep npH (keep nH u3), by rw [upd_ne nqp, upd_ne nlq.symm]; exact uq, by rw [upd_ne nlp]; exact upd_same, ?_⟩
          rw [upd_same, take_succ' (List.getElem?_eq_getElem hjl), List.map_append]
          rfl
        · rintro σ H3 ⟨⟨y5, rfl⟩, u3, uq, ul, up⟩
          refine ⟨_, rfl, .inl ⟨rfl, _, SqL.of ul⟩, _, rfl, _, rfl, k, lp, S0.take ti.toNat, rfl, ek, SqL.of up, ?_, fun H5 s5 => ?_⟩
          · rw [List.length_take]
            omega
          refine ⟨l, _, .str (brack k (S0.take ti.toNat)), rfl, rfl, s5 _ _ ul, small (by rw [List.length_map, List.length_reverse, List.length_drop]; omega), ?_⟩
          refine ⟨_, _, _, _, rfl, keep nH (u3.trans s5), by rw [upd_ne nlq.symm]; exact s5 _ _ uq, ?_⟩
          rw [upd_same, revtop]
    · rintro σ H2 ⟨x2, x3, x4, x5, rfl, s3, e3, e4⟩
      rw [Nat.sub_self, List.drop_zero, hst] at e4
      exact ⟨_, rfl, l, _, 0, .str t, rfl, rfl, SqL.of e4, rfl, q H2 s3⟩
end
end Eh

set_option Elab.async false
set_option linter.all false
set_option maxRecDepth 100000
set_option maxHeartbeats 2000000
namespace Eh
open PySem PySem.Spec PyProof.Rows L2
/-! ### the law's own text of a plain promise -/
theorem putK_new {kvs : List (Key × V)} {k : Key} {v : V} (h : (kvs.any fun kv => decide (kv.1 = k)) = false) : putK kvs k v = kvs ++ [(k, v)] := by
  unfold putK
  rw [if_neg (by rw [h]; exact Bool.false_ne_true)]
theorem merge4 {k1 k2 k3 k4 : Key} {a b c d : V} (h12 : decide (k1 = k2) = false) (h13 : decide (k1 = k3) = false) (h14 : decide (k1 = k4) = false) (h23 : decide (k2 = k3) = false) (h24 : decide (k2 = k4) = false) (h34 : decide (k3 = k4) = false) :
    mergeK [] [(k1, a), (k2, b), (k3, c), (k4, d)] = [(k1, a), (k2, b), (k3, c), (k4, d)] := by
  show putK (putK (putK (putK [] k1 a) k2 b) k3 c) k4 d = _
  rw [putK_new (kvs := []) rfl]
  rw [putK_new (kvs := [] ++ [(k1, a)]) (by show (decide (k1 = k2) || false) = false; rw [h12]; rfl)]
  rw [putK_new (kvs := [] ++ [(k1, a)] ++ [(k2, b)]) (by show (decide (k1 = k3) || (decide (k2 = k3) || false)) = false; rw [h13, h23]; rfl)]
  rw [putK_new (kvs := [] ++ [(k1, a)] ++ [(k2, b)] ++ [(k3, c)]) (by show (decide (k1 = k4) || (decide (k2 = k4) || (decide (k3 = k4) || false))) = false; rw [h14, h24, h34]; rfl)]
  rfl
def kS (z : Str) : Key := .inr z
theorem text_len {K : PySem.W.Frag} {H : Hp} {v : V} {p : Pl} (h : At K H v p) (w : InW uni6 (nodesOf p)) : (textOf p).length ≤ 16 * (nodesOf p).length := by
  have e := h.stack []
  rw [List.append_nil] at e
  have s := stack_sum (h.due w).2
  rw [e] at s
  have : sumL [textOf p] = (textOf p).length := by rw [sumL_cons]; rfl
  have e3 : sumL (textOf p :: stackT []) = (textOf p).length := this
  omega
theorem texts_len {K : PySem.W.Frag} {H : Hp} {vs : List V} {ps : List Pl} (h : AtAll K H vs ps) (w : InW uni6 (nodesAll ps)) : sumL (textAll ps) ≤ 16 * (nodesAll ps).length := by
  have e := h.stack []
  rw [List.append_nil] at e
  have s := stack_sum (h.due w).2
  rw [e] at s
  have e3 : textAll ps ++ stackT [] = textAll ps := List.append_nil _
  rw [e3] at s
  exact s
def allKinds : List Str := ["all", "some"]
theorem all_not {k : Str} (o : nodeOk k = true) (c : choiceKinds.contains k = true) : allKinds.contains k = false := by
  rcases node_cases o with rfl | rfl | rfl | rfl
  · exact absurd c (by decide +kernel)
  · exact absurd c (by decide +kernel)
  · decide +kernel
  · decide +kernel
theorem all_is {k : Str} (o : nodeOk k = true) (c : choiceKinds.contains k = false) : allKinds.contains k = true := by
  rcases node_cases o with rfl | rfl | rfl | rfl
  · decide +kernel
  · decide +kernel
  · exact absurd c (by decide +kernel)
  · exact absurd c (by decide +kernel)
theorem textAll_get : ∀ {ps : List Pl} {i : Nat} {p : Pl}, ps[i]? = some p → (textAll ps)[i]? = some (textOf p)
  | [], _, _, h => by simp at h
  | q :: ps, 0, p, h => by
    cases (show some q = some p from h)
    rw [textAll]
    rfl
  | q :: ps, i + 1, p, h => by
    rw [textAll]
    exact textAll_get (ps := ps) (i := i) h
theorem nodes_sub : ∀ {ps : List Pl} {i : Nat} {p : Pl}, ps[i]? = some p → ∀ n ∈ nodesOf p, n ∈ nodesAll ps
  | [], _, _, h, _, _ => by simp at h
  | q :: ps, 0, p, h, n, hn => by
    cases (show some q = some p from h)
    rw [nodesAll]
    exact List.mem_append_left _ hn
  | q :: ps, i + 1, p, h, n, hn => by
    rw [nodesAll]
    exact List.mem_append_right _ (nodes_sub (ps := ps) (i := i) h n hn)
theorem w_uni {k z : Str} (w : InW uni6 (nodesOf (.leaf k (.str z)))) : z.length ≤ 8 := by
  have hz := fact_uni (w k z (by rw [nodesOf]; exact List.mem_cons_self))
  unfold factS at hz
  simp only [Bool.and_eq_true] at hz
  exact (of_decide_eq_true hz.1.1.1).2
section
variable {P : Program} {w : World} {K : PySem.W.Frag} {mg : Str → Option Value} {base : Heap}
inductive rStr : List V → Hp → VK → Prop
  | str {z : Str} {H : Hp} {Q : VK} : Q (.str z) H → rStr [.str z] H Q
  | int {H : Hp} {Q : VK} : Q (.str "0") H → rStr [.int 0] H Q
theorem callStr {X : Cx} : CallR X (.type "str") rStr := by
  intro pins s σ H xs us Q I r h
  cases h with
  | str q => exact SkE.call_str_str pins s σ H _ us Q I r ⟨_, rfl, q⟩
  | int q => exact call_str_int pins s σ H _ us Q I r ⟨0, rfl, by decide, q⟩
theorem rStr_mk {t : V} {sx : Str} {H : Hp} {Q : VK} (h : (t = .str sx) ∨ (t = .int 0 ∧ sx = "0")) (q : Q (.str sx) H) : rStr [t] H Q := by
  rcases h with e | ⟨e, e2⟩
  · subst e
    exact .str q
  · subst e e2
    exact .int q
def spTextL (K : PySem.W.Frag) (n : Nat) : Sp := fun vs H Q _ => ∃ v pl, vs = [v] ∧ At K H v pl ∧ InW uni6 (nodesOf pl) ∧ (nodesOf pl).length ≤ n ∧ n < 1000 ∧ ∀ H', Same H H' → Q (.str (textOf pl)) H'
theorem ok_text {f fL : Addr} {fd fdL : FuncData} (F : Fun K "_law_text" "_law_text" s__law_text f fd) (T : Txt mg) (C__law_is_leaf : Cal P w K mg base 1 "_law_is_leaf" fL fdL ["plain"] (spIsLeaf K))
    (m : mg "_law_text" = some (.ref f)) (kp : PySem.W.keepIn K (.ref f) = true) (b : Binds K fd ["plain"] []) : ∀ n : Nat, FnOk P w K mg base CX0 (n + 1) f fd ["plain"] (spTextL K n)
  | 0 => F.ok sc__law_text (fun vs H Q E h => by
      obtain ⟨v, pl, rfl, _⟩ := h
      rfl) (fun cdv A outer s H vs Q E hr h => by
      obtain ⟨v, pl, rfl, _, _, h0, _⟩ := h
      have := nodesOf_pos pl
      omega)
  | n + 1 => by
    have G := ok_text F T C__law_is_leaf m kp b n
    refine F.ok sc__law_text (fun vs H Q E h => ?_) (fun cdv A outer s H vs Q E hr h => ?_)
    · obtain ⟨v, pl, rfl, _⟩ := h
      rfl
    · obtain ⟨v, pl, rfl, hA, hw, hn, hn1, q⟩ := h
      have hr1 := hr.mono (j := 1) (by omega)
      have hu1 := hu_of hr
      refine ⟨_, (pss_cons (ps_if (pt_val (pe_call C__law_is_leaf.G hr1 (by rfl) C__law_is_leaf.m C__law_is_leaf.k C__law_is_leaf.b .nil pass0 (pa_cons (pv 0) pa_nil)))
  (pss_one (ps_ret (pe_dget hu1 (pe_disp (pps_cons pe_str (pe_callTy callStr (by rfl) T.str_ (by decide +kernel) (pa_cons (pe_ix (ixT (K := K) rfl) (pv 0) pe_int (fun _ _ => rfl)) pa_nil)) (pps_cons pe_str (pe_op op_add_str pe_str (pe_callTy callStr (by rfl) T.str_ (by decide +kernel) (pa_cons (pe_ix (ixT (K := K) rfl) (pv 0) pe_int (fun _ _ => rfl)) pa_nil))) (pps_cons pe_str pe_str (pps_cons pe_str pe_str pps_nil)))) (by rfl) (by rfl) (fun z => by cases z) (by decide)) (pe_ix (ixT (K := K) rfl) (pv 0) pe_int (fun _ _ => rfl)) (fun _ _ => rfl))))
  pss_nil)
  (pss_cons (ps_set (i := 1) sc__law_text.nd rfl (.inl rfl) (pe_dget hu1 (pe_disp (pps_cons pe_str pe_str (pps_cons pe_str pe_str (pps_cons pe_str pe_str (pps_cons pe_str pe_str pps_nil)))) (by rfl) (by rfl) (fun z => by cases z) (by decide)) (pe_ix (ixT (K := K) rfl) (pv 0) pe_int (fun _ _ => rfl)) (fun _ _ => rfl)))
  (pss_cons (ps_set (i := 2) sc__law_text.nd rfl (.inl rfl) (pe_join (pv 1) (pe_lc (own := [("part", 3)]) (g := gName 3) (by rfl) sc__law_text.nd (pi_tup (pe_ix (ixT (K := K) rfl) (pv 0) pe_int (fun _ _ => rfl))) (blkOk_by (by kernel_rfl)) (fun _ _ _ _ _ => (pg_name (i := 3) sc__law_text.nd rfl (.inl rfl))) (fun _ _ _ _ _ => pts_nil) (fun _ _ _ _ _ => (pe_call G hr (by rfl) m kp b .nil pass0 (pa_cons (pv 3) pa_nil))))))
  (pss_one (ps_ret (pe_ifExp (pt_cmpR (inQ (K := K) rfl) (pe_ix (ixT (K := K) rfl) (pv 0) pe_int (fun _ _ => rfl)) (pe_lst (pa_cons pe_str (pa_cons pe_str pa_nil))) (by rfl)) (pe_op op_add_str (pe_op op_add_str pe_str (pv 2)) pe_str) (pe_op op_add_str (pe_op op_add_str pe_str (pv 2)) pe_str))))))), ?_⟩
      refine ⟨_, rfl, v, pl, rfl, hA, fun H1 s1 => ⟨_, rfl, ?_⟩⟩
      have hA1 := hA.tk (stk s1)
      have hlen1 := text_len hA hw
      cases hA1 with
      | leaf h o =>
        rename_i a k t
        refine iteT ?_
        obtain ⟨sx, hsx, hsl⟩ : ∃ sx : Str, ((t = .str sx) ∨ (t = .int 0 ∧ sx = "0")) ∧ sx.length ≤ 900000 := by
          cases t with
          | str z =>
            refine ⟨z, .inl rfl, ?_⟩
            have := w_uni hw
            omega
          | int i =>
            have h0 : i = 0 := of_decide_eq_true ((Bool.and_eq_true _ _).mp (show ((k == "yes" || k == "no") && decide (i = 0)) = true from o)).2
            exact ⟨"0", .inr ⟨by rw [h0], rfl⟩, by decide⟩
          | _ => cases o
        refine fun pd npd => ?_
        have s2 := s1.trans (same_new (o := .dK []) npd)
        have t2 := stk (same_new (o := .dK []) npd)
        refine ⟨_, rfl, a, _, 1, t, rfl, rfl, t2.seq h, rfl, rStr_mk hsx ?_⟩
        refine ⟨_, rfl, a, _, 1, t, rfl, rfl, t2.seq h, rfl, rStr_mk hsx ⟨"!", sx, rfl, rfl, Nat.le_of_lt (small (by show 1 + _ < _; omega)), ?_⟩⟩
        refine ⟨upd_same, [(kS "fact", .str sx), (kS "not", .str ("!" ++ sx)), (kS "yes", .str "yes"), (kS "no", .str "no")], rfl, (show 4 ≤ 15 by decide), ?_⟩
        rw [merge4 (by decide +kernel) (by decide +kernel) (by decide +kernel) (by decide +kernel) (by decide +kernel) (by decide +kernel)]
        have keepT : Tk H1 (upd (upd H1 pd (.dK [])) pd (.dK [(kS "fact", .str sx), (kS "not", .str ("!" ++ sx)), (kS "yes", .str "yes"), (kS "no", .str "no")])) := stk fun b' o' e => by
          rw [upd_ne (ne_of_none e npd), upd_ne (ne_of_none e npd)]
          exact e
        have s3 : Same H (upd (upd H1 pd (.dK [])) pd (.dK [(kS "fact", .str sx), (kS "not", .str ("!" ++ sx)), (kS "yes", .str "yes"), (kS "no", .str "no")])) := fun b' o' e => by
          have e1 := s1 b' o' e
          rw [upd_ne (ne_of_none e1 npd), upd_ne (ne_of_none e1 npd)]
          exact e1
        refine ⟨_, rfl, a, _, 0, .str k, rfl, rfl, keepT.seq h, rfl, pd, .str (plainT k t), rfl, .inl ⟨_, kS k, .inl upd_same, rfl, ?_⟩, ?_⟩
        · rcases hsx with e | ⟨e, e2⟩
          · subst e
            have o : (k == "fact" || k == "not") = true := o
            rcases (Bool.or_eq_true _ _).mp o with h | h
            · rw [eq_of_beq h]
              rw [valV_pos rfl]
              show some (V.str (if ("fact" : Str) = "fact" then sx else "!" ++ sx)) = _
              rw [if_pos rfl]
            · rw [eq_of_beq h]
              rw [valV_neg (by show ¬ kS "fact" = kS "not"; decide +kernel), valV_pos rfl]
              show some (V.str (if ("not" : Str) = "fact" then sx else "!" ++ sx)) = _
              rw [if_neg (by decide +kernel)]
          · subst e
            have o : ((k == "yes" || k == "no") && decide ((0 : Int) = 0)) = true := o
            rcases (Bool.or_eq_true _ _).mp ((Bool.and_eq_true _ _).mp o).1 with h | h
            · rw [eq_of_beq h]
              rw [valV_neg (by show ¬ kS "fact" = kS "yes"; decide +kernel), valV_neg (by show ¬ kS "not" = kS "yes"; decide +kernel), valV_pos rfl]
              rfl
            · rw [eq_of_beq h]
              rw [valV_neg (by show ¬ kS "fact" = kS "no"; decide +kernel), valV_neg (by show ¬ kS "not" = kS "no"; decide +kernel), valV_neg (by show ¬ kS "yes" = kS "no"; decide +kernel), valV_pos rfl]
              rfl
        · have q' := q _ s3
          rw [textOf] at q'
          exact q'
      | node h1 h2 o a1 a2 r =>
        rename_i a c k vs ps
        refine iteF ?_
        have hlen := r.length
        have hwp : InW uni6 (nodesAll ps) := fun x z mz => hw x z (by rw [nodesOf]; exact List.mem_cons_of_mem _ mz)
        have hn' : (nodesAll ps).length ≤ n := by
          rw [nodesOf, List.length_cons] at hn
          omega
        refine fun pd npd => ?_
        refine ⟨upd_same, [(kS "all", .str " & "), (kS "some", .str " | "), (kS "mine", .str " + "), (kS "yours", .str " * ")], rfl, by decide, ?_⟩
        rw [merge4 (by decide +kernel) (by decide +kernel) (by decide +kernel) (by decide +kernel) (by decide +kernel) (by decide +kernel)]
        have u2 : Same H1 (upd (upd H1 pd (.dK [])) pd (.dK [(kS "all", .str " & "), (kS "some", .str " | "), (kS "mine", .str " + "), (kS "yours", .str " * ")])) := fun b' o' e => by
          rw [upd_ne (ne_of_none e npd), upd_ne (ne_of_none e npd)]
          exact e
        have e2 : (upd (upd H1 pd (.dK [])) pd (.dK [(kS "all", .str " & "), (kS "some", .str " | "), (kS "mine", .str " + "), (kS "yours", .str " * ")])) pd = some (.dK [(kS "all", .str " & "), (kS "some", .str " | "), (kS "mine", .str " + "), (kS "yours", .str " * ")]) := upd_same
        generalize upd (upd H1 pd (.dK [])) pd _ = H2 at u2 e2 ⊢
        have s2 := s1.trans u2
        have h1' := (stk u2).seq h1
        have h2' := (stk u2).seq h2
        have r' := r.tk (stk u2)
        have hsg : DGet H2 pd (.str k) (some (.str (signOf k))) := by
          have hv : valV [(kS "all", V.str " & "), (kS "some", .str " | "), (kS "mine", .str " + "), (kS "yours", .str " * ")] (kS k) = some (.str (signOf k)) := by
            rcases node_cases o with rfl | rfl | rfl | rfl
            · rw [valV_pos rfl, show signOf "all" = " & " from by decide +kernel]
            · rw [valV_neg (by show ¬ kS "all" = kS "some"; decide +kernel), valV_pos rfl, show signOf "some" = " | " from by decide +kernel]
            · rw [valV_neg (by show ¬ kS "all" = kS "mine"; decide +kernel), valV_neg (by show ¬ kS "some" = kS "mine"; decide +kernel), valV_pos rfl, show signOf "mine" = " + " from by decide +kernel]
            · rw [valV_neg (by show ¬ kS "all" = kS "yours"; decide +kernel), valV_neg (by show ¬ kS "some" = kS "yours"; decide +kernel), valV_neg (by show ¬ kS "mine" = kS "yours"; decide +kernel), valV_pos rfl, show signOf "yours" = " * " from by decide +kernel]
          rw [← hv]
          exact DGet.k (k := kS k) e2
        refine ⟨_, rfl, a, _, 0, .str k, rfl, rfl, h1', rfl, pd, .str (signOf k), rfl, hsg, ?_⟩
        refine ⟨_, rfl, ⟨_, rfl⟩, ?_⟩
        refine ⟨_, rfl, a, _, 1, .ref c, rfl, rfl, h1', rfl, c, rfl, ⟨vs, h2'⟩, fun D nD => ?_⟩
        have nDH : H D = none := s2.free nD
        have s3 := s2.trans (same_new (o := .lst []) nD)
        have u3 := u2.trans (same_new (o := .lst []) nD)
        have nD1 : H1 D = none := u2.free nD
        refine lcT (K := K) (a := c) (xs := vs) (fun j acc H4 => Same H H4 ∧ Same H1 H4 ∧ acc = ((textAll ps).take j).map V.str) ⟨s3, u3, rfl⟩ (fun j acc H4 h => (stk h.2.1).seq h2) ?_ ?_
        · rintro j x acc H4 hx hl e ⟨s4, u4, ea⟩
          obtain ⟨p2, hp2, hA2⟩ := r.get hx
          have hj : j < 4 := by
            have := (List.getElem?_eq_some_iff.mp hx).1
            omega
          have hw2 : InW uni6 (nodesOf p2) := fun y z mz => hwp y z (nodes_sub hp2 _ mz)
          refine yesT ⟨_, rfl, x, p2, rfl, hA2.tk (stk u4), hw2, Nat.le_trans (nodesOf_get hp2) hn', by omega, fun H5 s5 => ?_⟩
          refine LcK.mk hl (by omega) (s5 _ _ e) ⟨fun b' o' eb => ?_, fun b' o' eb => ?_, ?_⟩
          · rw [upd_ne (ne_of_none eb nDH)]
            exact s5 _ _ (s4 b' o' eb)
          · rw [upd_ne (ne_of_none eb nD1)]
            exact s5 _ _ (u4 b' o' eb)
          · rw [ea, take_succ' (textAll_get hp2), List.map_append]
            rfl
        · rintro acc H4 hl e ⟨s4, u4, ea⟩
          rw [hlen, ← textAll_length, List.take_length] at ea
          have hts := texts_len r hwp
          have htl := textAll_length ps
          have h3 := sign_len k
          have hj := join_len (signOf k) (textAll ps)
          rw [h3] at hj
          have hj2 : (Txt.join (signOf k) (textAll ps)).length ≤ 900000 := by rw [TL.join_eq]; omega
          refine ⟨signOf k, D, textAll ps, rfl, rfl, .inl (SqL.of (e.trans (by rw [ea]))), ?_, ?_⟩
          · rw [h3]
            have : ((textAll ps).map (·.length)).sum = sumL (textAll ps) := rfl
            omega
          refine ⟨_, rfl, a, _, 0, .str k, rfl, rfl, (stk u4).seq h1, rfl, lenOk 2, fun l2 n2 => ⟨l2, allKinds.map V.str, rfl, .inl (SqL.of upd_same), rfl, flat_strs _, _, rfl, ?_⟩⟩
          have s6 := s4.trans (same_new (o := .lst (allKinds.map V.str)) n2)
          have q' := q _ s6
          rw [textOf] at q'
          unfold brack at q'
          cases ec : choiceKinds.contains k with
          | true =>
            rw [if_pos ec] at q'
            refine iteF' ((inV_strs k allKinds).trans (all_not o ec)) ⟨_, rfl, "[", _, rfl, rfl, Nat.le_of_lt (small (by show 1 + _ < _; omega)), _, "]", rfl, rfl, Nat.le_of_lt (small (by rw [sapp]; show 1 + _ + 1 < _; omega)), q'⟩
          | false =>
            rw [if_neg (by rw [ec]; exact Bool.false_ne_true)] at q'
            refine iteT' ((inV_strs k allKinds).trans (all_is o ec)) ⟨_, rfl, "(", _, rfl, rfl, Nat.le_of_lt (small (by show 1 + _ < _; omega)), _, ")", rfl, rfl, Nat.le_of_lt (small (by rw [sapp]; show 1 + _ + 1 < _; omega)), q'⟩
end
end Eh

set_option Elab.async false
set_option linter.all false
set_option maxRecDepth 100000
set_option maxHeartbeats 2000000
namespace Eh
open PySem PySem.Spec PyProof.Rows L2
/-! ### nodes as data: their equality -/
def toldD : V → PyData
  | .str z => .str z
  | .int i => .int i
  | _ => .none
def nodeD (n : Str × V) : PyData := .tuple [.str n.1, toldD n.2]
def nodesD (ns : List (Str × V)) : PyData := .tuple (ns.map nodeD)
/-- a node of a drawn promise -/
def NOk (n : Str × V) : Prop := nodeAB n.1 n.2 = true ∧ ∀ z, n.2 = .str z → z ∈ uni6
theorem nok_of {ns : List (Str × V)} (g : GoodN ns) (w : InW uni6 ns) : ∀ n ∈ ns, NOk n := fun n hn => ⟨g n hn, fun z e => w n.1 z (by rw [← e]; exact hn)⟩
theorem told_cases {n : Str × V} (h : NOk n) : (∃ z, n.2 = .str z ∧ z ∈ uni6) ∨ ∃ i, n.2 = .int i := by
  obtain ⟨k, t⟩ := n
  cases t with
  | str z => exact .inl ⟨z, rfl, h.2 z rfl⟩
  | int i => exact .inr ⟨i, rfl⟩
  | _ =>
    exfalso
    have hg := h.1
    unfold nodeAB at hg
    split at hg
    · cases hg
    · split at hg
      · cases hg
      · rw [Bool.and_eq_true] at hg
        cases hg.2
theorem dp_node {K : PySem.W.Frag} {H : Hp} {a : Addr} {n : Str × V} (h : SqT K H a [.str n.1, n.2]) (o : NOk n) : Dp K H (.ref a) (nodeD n) := by
  refine .tup h (.cons (.str n.1) (.cons ?_ .nil))
  rcases told_cases o with ⟨z, e, _⟩ | ⟨i, e⟩
  · rw [e]
    exact .str z
  · rw [e]
    exact .int i
theorem dp_nodes {K : PySem.W.Frag} {H : Hp} : ∀ {xs : List V} {ns : List (Str × V)}, NdsAt K H xs ns → (∀ n ∈ ns, NOk n) → DpAll K H xs (ns.map nodeD)
  | _, _, .nil, _ => .nil
  | _, _, .cons (k := k) (t := t) h r, o => .cons (dp_node (n := (k, t)) h (o _ List.mem_cons_self)) (dp_nodes r fun n hn => o n (List.mem_cons_of_mem _ hn))
theorem told_eqv {a b : Str × V} (ha : NOk a) (hb : NOk b) : PyData.eqv (toldD a.2) (toldD b.2) = decide (a.2 = b.2) := by
  rcases told_cases ha with ⟨z, e, _⟩ | ⟨i, e⟩ <;> rcases told_cases hb with ⟨y, e', _⟩ | ⟨j, e'⟩ <;> rw [e, e']
  · show (z == y) = _
    rw [sbeq]
    exact decide_eq_decide.mpr ⟨fun h => by rw [h], fun h => by injection h⟩
  · show false = _
    exact (decide_eq_false (fun h => by cases h)).symm
  · show false = _
    exact (decide_eq_false (fun h => by cases h)).symm
  · show (i == j) = _
    rw [show (i == j) = decide (i = j) from by rw [Bool.eq_iff_iff, beq_iff_eq, decide_eq_true_iff]]
    exact decide_eq_decide.mpr ⟨fun h => by rw [h], fun h => by injection h⟩
theorem node_eqv {a b : Str × V} (ha : NOk a) (hb : NOk b) : PyData.eqv (nodeD a) (nodeD b) = decide (a = b) := by
  show ((a.1 == b.1) && (PyData.eqv (toldD a.2) (toldD b.2) && true)) = _
  rw [told_eqv ha hb, Bool.and_true, sbeq, Bool.eq_iff_iff, Bool.and_eq_true, decide_eq_true_iff, decide_eq_true_iff, decide_eq_true_iff]
  exact ⟨fun h => Prod.ext h.1 h.2, fun h => by rw [h]; exact ⟨rfl, rfl⟩⟩
theorem nodes_eqvAll : ∀ {ns ms : List (Str × V)}, (∀ n ∈ ns, NOk n) → (∀ n ∈ ms, NOk n) → PyData.eqvAll (ns.map nodeD) (ms.map nodeD) = decide (ns = ms)
  | [], [], _, _ => rfl
  | [], b :: ms, _, _ => rfl
  | a :: ns, [], _, _ => rfl
  | a :: ns, b :: ms, ha, hb => by
    have ih := nodes_eqvAll (fun n hn => ha n (List.mem_cons_of_mem _ hn)) (fun n hn => hb n (List.mem_cons_of_mem _ hn)) (ns := ns) (ms := ms)
    show (PyData.eqv (nodeD a) (nodeD b) && PyData.eqvAll (ns.map nodeD) (ms.map nodeD)) = _
    rw [ih, node_eqv (ha a List.mem_cons_self) (hb b List.mem_cons_self), Bool.eq_iff_iff, Bool.and_eq_true, decide_eq_true_iff, decide_eq_true_iff, decide_eq_true_iff]
    exact ⟨fun h => by rw [h.1, h.2], fun h => by injection h with h1 h2; exact ⟨h1, h2⟩⟩
theorem nodes_eqv {ns ms : List (Str × V)} (ha : ∀ n ∈ ns, NOk n) (hb : ∀ n ∈ ms, NOk n) : PyData.eqv (nodesD ns) (nodesD ms) = decide (ns = ms) := nodes_eqvAll ha hb
theorem kind_lay {k : Str} {t : V} (h : nodeAB k t = true) : PyData.canLay0 (.str k) = true := by
  unfold nodeAB at h
  by_cases h1 : factKinds.contains k = true
  · unfold factKinds at h1
    rw [List.contains_iff_mem] at h1
    simp only [List.mem_cons, List.not_mem_nil, or_false] at h1
    rcases h1 with rfl | rfl <;> decide +kernel
  · rw [if_neg h1] at h
    by_cases h2 : sureKinds.contains k = true
    · unfold sureKinds at h2
      rw [List.contains_iff_mem] at h2
      simp only [List.mem_cons, List.not_mem_nil, or_false] at h2
      rcases h2 with rfl | rfl <;> decide +kernel
    · rw [if_neg h2, Bool.and_eq_true] at h
      rcases node_cases h.1 with rfl | rfl | rfl | rfl <;> decide +kernel
theorem told_lay {n : Str × V} (h : NOk n) : PyData.canLay0 (toldD n.2) = true ∧ PyData.depth (toldD n.2) = 0 := by
  rcases told_cases h with ⟨z, e, hz⟩ | ⟨i, e⟩
  · rw [e]
    refine ⟨?_, rfl⟩
    unfold uni6 at hz
    simp only [List.mem_cons, List.not_mem_nil, or_false] at hz
    rcases hz with rfl | rfl | rfl | rfl | rfl | rfl <;> decide +kernel
  · rw [e]
    exact ⟨rfl, rfl⟩
theorem nodes_layAll : ∀ {ns : List (Str × V)}, (∀ n ∈ ns, NOk n) → PyData.canLayAll0 (ns.map nodeD) = true ∧ PyData.depthAll (ns.map nodeD) ≤ 1
  | [], _ => ⟨rfl, Nat.zero_le _⟩
  | a :: ns, h => by
    obtain ⟨i1, i2⟩ := nodes_layAll (fun n hn => h n (List.mem_cons_of_mem _ hn) : ∀ n ∈ ns, NOk n)
    have ha := h a List.mem_cons_self
    obtain ⟨t1, t2⟩ := told_lay ha
    have d1 : PyData.depth (nodeD a) = 1 := by
      show max 0 (max (PyData.depth (toldD a.2)) 0) + 1 = 1
      rw [t2]
      rfl
    refine ⟨?_, ?_⟩
    · show ((PyData.canLay0 (.str a.1) && (PyData.canLay0 (toldD a.2) && true)) && PyData.canLayAll0 (ns.map nodeD)) = true
      rw [kind_lay ha.1, t1, i1]
      rfl
    · show max (PyData.depth (nodeD a)) (PyData.depthAll (ns.map nodeD)) ≤ 1
      rw [d1]
      omega
theorem nodes_shaped {ns : List (Str × V)} (h : ∀ n ∈ ns, NOk n) : SeqAt.shaped (nodesD ns) = true := by
  obtain ⟨a, b⟩ := nodes_layAll h
  unfold SeqAt.shaped
  rw [show PyData.canLay0 (nodesD ns) = true from a, Bool.true_and]
  refine decide_eq_true ?_
  show PyData.depthAll (ns.map nodeD) + 1 ≤ 64
  omega
theorem hu64e {A : Around} {k : Nat} (hr : Room k A) : A.units + 64 < cLine := by
  have := hr.un
  omega
section
variable {P : Program} {w : World} {K : PySem.W.Frag} {mg : Str → Option Value} {base : Heap}
/-- a promise as the laws have it: with good nodes -/
def PrOk (K : PySem.W.Frag) (C : Addr) (H : Hp) (a : Addr) (ns : List (Str × V)) : Prop := ∃ dx p xs, H a = some (.ins C dx [(("_nodes" : Str), .ref p)]) ∧ SqT K H p xs ∧ NdsAt K H xs ns ∧ ∀ n ∈ ns, NOk n
def spEqP (K : PySem.W.Frag) (C : Addr) : Sp := fun vs H Q _ => ∃ a b ns ms, vs = [.ref a, .ref b] ∧ PrOk K C H a ns ∧ PrOk K C H b ms ∧ Q (.bl (decide (ns = ms))) H
structure IsC (K : PySem.W.Frag) (C : Addr) : Prop where
  cls : PySem.W.findIn K (.ref C) "__class__" = some (some (.builtin "object.__class__"))
  sp : PySem.W.specialIn K (.builtin "object.__class__") "__get__" = some (some (.builtin "getset_descriptor.__get__"))
  tk : PySem.W.takesIn K (.builtin "object.__class__") = some true
  mro : PySem.W.mroIn K C (.type "object") = some true
  self : PySem.W.kitOne K (.ref C) (.ref C) = some true
theorem ok_eqP {C fI fL f : Addr} {fd : FuncData} (F : Fun K "__eq__" "Promise.__eq__" s_Promise___eq__ f fd) (T : Txt mg) (PC : PromC K mg C fI fL) (IC : IsC K C) : FnOk P w K mg base CX0 1 f fd ["self", "value"] (spEqP K C) := by
  refine F.ok sc_Promise___eq__ (fun vs H Q E h => ?_) (fun cdv A outer s H vs Q E hr h => ?_)
  · obtain ⟨a, b, ns, ms, rfl, _⟩ := h
    rfl
  · obtain ⟨a, b, ns, ms, rfl, ⟨dx, p, xs, ha, hs, hN, ho⟩, ⟨dy, r, ys, hb, hs2, hN2, ho2⟩, q⟩ := h
    refine ⟨_, (pss_one (ps_ret (pe_and (pe_callB (isiQ (K := K) rfl) (by rfl) T.isinstance_ (by decide +kernel) (pa_cons (pv 1) (pa_cons (pe_glob (v := .ref C) rfl PC.g rfl) pa_nil))) (pe_one (pe_cmpR (eqD (K := K) rfl (hu64e hr)) (pe_fld (pv 0) rfl) (pe_fld (pv 1) rfl) (nomark _)))))), ?_⟩
    refine ⟨_, rfl, .ref b, .ref C, .ref C, .ref C, true, rfl, .own _, .base (.ins hb PC.cl IC.cls IC.sp IC.tk IC.mro), IC.self, _, rfl, iteT ?_⟩
    refine ⟨_, rfl, a, C, dx, _, .ref p, rfl, ha, PC.cl, PC.nn, rfl, _, rfl, b, C, dy, _, .ref r, rfl, hb, PC.cl, PC.nn, rfl, ?_⟩
    refine ⟨nodesD ns, nodesD ms, .tup hs (dp_nodes hN ho), .tup hs2 (dp_nodes hN2 ho2), nodes_shaped ho, nodes_shaped ho2, ?_⟩
    rw [nodes_eqv ho ho2]
    exact q
end
end Eh

set_option Elab.async false
set_option linter.all false
set_option maxRecDepth 100000
set_option maxHeartbeats 2000000
namespace Eh
open PySem PySem.Spec PyProof.Rows L2
/-! ### what a promise tells -/
section
variable {P : Program} {w : World} {K : PySem.W.Frag} {mg : Str → Option Value} {base : Heap}
def spNodesP (K : PySem.W.Frag) (C : Addr) : Sp := fun vs H Q _ => ∃ a dx fs p, vs = [.ref a] ∧ H a = some (.ins C dx fs) ∧ fs.lookup ("_nodes" : Str) = some (.ref p) ∧ Q (.ref p) H
theorem ok_nodesP {C fI fL f : Addr} {fd : FuncData} (F : Fun K "nodes" "Promise.nodes" s_Promise_nodes f fd) (PC : PromC K mg C fI fL) : FnOk P w K mg base CX0 1 f fd ["self"] (spNodesP K C) := by
  refine F.ok sc_Promise_nodes (fun vs H Q E h => ?_) (fun cdv A outer s H vs Q E hr h => ?_)
  · obtain ⟨a, dx, fs, p, rfl, _⟩ := h
    rfl
  · obtain ⟨a, dx, fs, p, rfl, ha, hl, q⟩ := h
    exact ⟨_, (pss_one (ps_ret (pe_fld (pv 0) rfl))), _, rfl, a, C, dx, fs, .ref p, rfl, ha, PC.cl, PC.nn, hl, q⟩
def spKindP (K : PySem.W.Frag) (C : Addr) : Sp := fun vs H Q _ => ∃ a n ns, vs = [.ref a] ∧ PrOk K C H a (n :: ns) ∧ Q (.str n.1) H
theorem ok_kindP {C fI fL f : Addr} {fd : FuncData} (F : Fun K "kind" "Promise.kind" s_Promise_kind f fd) (PC : PromC K mg C fI fL) : FnOk P w K mg base CX0 1 f fd ["self"] (spKindP K C) := by
  refine F.ok sc_Promise_kind (fun vs H Q E h => ?_) (fun cdv A outer s H vs Q E hr h => ?_)
  · obtain ⟨a, n, ns, rfl, _⟩ := h
    rfl
  · obtain ⟨a, n, ns, rfl, ⟨dx, p, xs, ha, hs, hN, ho⟩, q⟩ := h
    refine ⟨_, (pss_one (ps_ret (pe_ix (ixT (K := K) rfl) (pe_ix (ixT (K := K) rfl) (pe_fld (pv 0) rfl) pe_int (fun _ _ => rfl)) pe_int (fun _ _ => rfl)))), ?_⟩
    cases hN with
    | cons h r =>
      exact ⟨_, rfl, a, C, dx, _, .ref p, rfl, ha, PC.cl, PC.nn, rfl, p, _, 0, _, rfl, rfl, hs, atI_nat (j := 0) rfl, _, _, 0, _, rfl, rfl, h, rfl, q⟩
def spTextP (K : PySem.W.Frag) (C : Addr) : Sp := fun vs H Q _ => ∃ a ns t, vs = [.ref a] ∧ PrOk K C H a ns ∧ dueGo 1 ns = true ∧ ns.length < 1000 ∧ stackT ns = [t] ∧ ∀ H', Same H H' → Q (.str t) H'
theorem ok_textP {C fI fL fT f : Addr} {fdT fd : FuncData} (F : Fun K "text" "Promise.text" s_Promise_text f fd) (PC : PromC K mg C fI fL) (C_text_of : Cal P w K mg base 2 "text_of" fT fdT ["nodes"] (spText K)) : FnOk P w K mg base CX0 3 f fd ["self"] (spTextP K C) := by
  refine F.ok sc_Promise_text (fun vs H Q E h => ?_) (fun cdv A outer s H vs Q E hr h => ?_)
  · obtain ⟨a, ns, t, rfl, _⟩ := h
    rfl
  · obtain ⟨a, ns, t, rfl, ⟨dx, p, xs, ha, hs, hN, ho⟩, hd, hl, ht, q⟩ := h
    refine ⟨_, (pss_one (ps_ret (pe_call C_text_of.G hr (by rfl) C_text_of.m C_text_of.k C_text_of.b .nil pass0 (pa_cons (pe_fld (pv 0) rfl) pa_nil)))), ?_⟩
    exact ⟨_, rfl, a, C, dx, _, .ref p, rfl, ha, PC.cl, PC.nn, rfl, p, xs, ns, t, rfl, hs, hN, fun n hn => (ho n hn).1, hd, by rw [hN.length]; exact hl, ht, q⟩
theorem ok_strP {C fI fL fT f : Addr} {fdT fd : FuncData} (F : Fun K "__str__" "Promise.__str__" s_Promise___str__ f fd) (T : Txt mg) (PC : PromC K mg C fI fL) (C_text_of : Cal P w K mg base 2 "text_of" fT fdT ["nodes"] (spText K)) : FnOk P w K mg base CX0 3 f fd ["self"] (spTextP K C) := by
  refine F.ok sc_Promise___str__ (fun vs H Q E h => ?_) (fun cdv A outer s H vs Q E hr h => ?_)
  · obtain ⟨a, ns, t, rfl, _⟩ := h
    rfl
  · obtain ⟨a, ns, t, rfl, ⟨dx, p, xs, ha, hs, hN, ho⟩, hd, hl, ht, q⟩ := h
    refine ⟨_, (pss_one (ps_ret (pe_callTy SkE.call_str_str (by rfl) T.str_ (by decide +kernel) (pa_cons (pe_call C_text_of.G hr (by rfl) C_text_of.m C_text_of.k C_text_of.b .nil pass0 (pa_cons (pe_fld (pv 0) rfl) pa_nil)) pa_nil)))), ?_⟩
    exact ⟨_, rfl, a, C, dx, _, .ref p, rfl, ha, PC.cl, PC.nn, rfl, p, xs, ns, t, rfl, hs, hN, fun n hn => (ho n hn).1, hd, by rw [hN.length]; exact hl, ht, fun H' s' => ⟨t, rfl, q H' s'⟩⟩
def spFactsP (K : PySem.W.Frag) (C : Addr) : Sp := fun vs H Q _ => ∃ a ns, vs = [.ref a] ∧ PrOk K C H a ns ∧ ns.length < 60 ∧
  ∀ (ys : List Str) p' H', Same H H' → H p' = none → H' p' = some (.tup (ys.map V.str)) → ys.Nodup → sortedS ys = true → (∀ z, z ∈ ys ↔ z ∈ factsN ns) → Q (.ref p') H'
theorem ok_factsP {C fI fL fT f : Addr} {fdT fd : FuncData} (F : Fun K "facts" "Promise.facts" s_Promise_facts f fd) (PC : PromC K mg C fI fL) (C_facts_of : Cal P w K mg base 1 "facts_of" fT fdT ["nodes"] (spFacts K)) : FnOk P w K mg base CX0 2 f fd ["self"] (spFactsP K C) := by
  refine F.ok sc_Promise_facts (fun vs H Q E h => ?_) (fun cdv A outer s H vs Q E hr h => ?_)
  · obtain ⟨a, ns, rfl, _⟩ := h
    rfl
  · obtain ⟨a, ns, rfl, ⟨dx, p, xs, ha, hs, hN, ho⟩, hl, q⟩ := h
    refine ⟨_, (pss_one (ps_ret (pe_call C_facts_of.G hr (by rfl) C_facts_of.m C_facts_of.k C_facts_of.b .nil pass0 (pa_cons (pe_fld (pv 0) rfl) pa_nil)))), ?_⟩
    exact ⟨_, rfl, a, C, dx, _, .ref p, rfl, ha, PC.cl, PC.nn, rfl, p, xs, ns, rfl, hs, hN, fun n hn => (ho n hn).1, by rw [hN.length]; exact hl, q⟩
def spChoicesP (K : PySem.W.Frag) (C : Addr) : Sp := fun vs H Q _ => ∃ a ns, vs = [.ref a] ∧ PrOk K C H a ns ∧ ns.length < 1000 ∧ ∀ H', Same H H' → Q (.int (countIn choiceKinds ns)) H'
theorem ok_choicesP {C fI fL fT f : Addr} {fdT fd : FuncData} (F : Fun K "choices" "Promise.choices" s_Promise_choices f fd) (PC : PromC K mg C fI fL) (C_choices_of : Cal P w K mg base 1 "choices_of" fT fdT ["nodes"] (spChoices K)) : FnOk P w K mg base CX0 2 f fd ["self"] (spChoicesP K C) := by
  refine F.ok sc_Promise_choices (fun vs H Q E h => ?_) (fun cdv A outer s H vs Q E hr h => ?_)
  · obtain ⟨a, ns, rfl, _⟩ := h
    rfl
  · obtain ⟨a, ns, rfl, ⟨dx, p, xs, ha, hs, hN, ho⟩, hl, q⟩ := h
    refine ⟨_, (pss_one (ps_ret (pe_call C_choices_of.G hr (by rfl) C_choices_of.m C_choices_of.k C_choices_of.b .nil pass0 (pa_cons (pe_fld (pv 0) rfl) pa_nil)))), ?_⟩
    exact ⟨_, rfl, a, C, dx, _, .ref p, rfl, ha, PC.cl, PC.nn, rfl, p, xs, ns, rfl, hs, hN, by rw [hN.length]; exact hl, q⟩
/-! turned -/
def turnK (k : Str) : Str := if k = "all" then "some" else if k = "fact" then "not" else if k = "mine" then "yours" else if k = "no" then "yes" else if k = "not" then "fact" else if k = "some" then "all" else if k = "yes" then "no" else "mine"
def turnN (ns : List (Str × V)) : List (Str × V) := ns.map fun n => (turnK n.1, n.2)
structure TurnAt (K : PySem.W.Frag) (w : World) (mg : Str → Option Value) (p : Addr) : Prop where
  g : mg "TURNED" = some (.ref p)
  v : ∀ k t, nodeAB k t = true → KDct K w p k (.str (turnK k))
def spTurned (K : PySem.W.Frag) : Sp := fun vs H Q _ => ∃ p xs ns, vs = [.ref p] ∧ SqT K H p xs ∧ NdsAt K H xs ns ∧ GoodN ns ∧ xs.length < 1000 ∧ ∀ r ys H', Same H H' → H r = none → H' r = some (.tup ys) → NdsAt K H' ys (turnN ns) → Q (.ref r) H'
theorem ok_turned {p0 f : Addr} {fd : FuncData} (F : Fun K "turned" "turned" s_turned f fd) (T : Txt mg) (S : TurnAt K w mg p0) : FnOk P w K mg base CX0 1 f fd ["nodes"] (spTurned K) := by
  refine F.ok sc_turned (fun vs H Q E h => ?_) (fun cdv A outer s H vs Q E hr h => ?_)
  · obtain ⟨p, xs, ns, rfl, _⟩ := h
    rfl
  · obtain ⟨p, xs, ns, rfl, hS, hN, hg, hlen, q⟩ := h
    refine ⟨_, (pss_one (ps_ret (pe_callTy call_tuple_of (by rfl) T.tuple_ (by decide +kernel) (pa_cons (pe_lc (own := [("kind", 1), ("told", 2)]) (g := gTup K 2 (gCons (gName 1) (gCons (gName 2) gNil))) (by rfl) sc_turned.nd (pi_tup (pv 0)) (blkOk_by (by kernel_rfl)) (fun _ _ _ _ _ => (pgT (K := K) rfl (by rfl) (pgs_cons (pg_name (i := 1) sc_turned.nd rfl (.inl rfl)) (pgs_cons (pg_name (i := 2) sc_turned.nd rfl (.inl rfl)) pgs_nil)))) (fun _ _ _ _ _ => pts_nil) (fun _ _ _ _ _ => (pe_tup (pa_cons (pe_ix (ixKd (K := K) (w := w) rfl rfl) (pe_glob (v := .ref p0) rfl S.g rfl) (pv 1) (fun _ _ => rfl)) (pa_cons (pv 2) pa_nil))))) pa_nil)))), ?_⟩
    have hxn := hN.length
    refine ⟨_, rfl, p, rfl, ⟨xs, hS⟩, fun D nD => ?_⟩
    have s1 : Same H (upd H D (.lst [])) := same_new nD
    have nDH : H D = none := nD
    refine lcTg (K := K) (a := p) (xs := xs) (fun j acc H2 => Same H H2 ∧ NdsAt K H2 acc (turnN (ns.take j))) ⟨s1, .nil⟩ (fun j ts H2 h => (stk h.1).seq hS) ?_ ?_
    · rintro j x acc H2 hx hl e ⟨s2, hm⟩
      obtain ⟨a, k, t, rfl, hk, ha⟩ := hN.get hx
      have hgn := hg _ (List.mem_of_getElem? hk)
      have hj : j < 1000 := by
        have := (List.getElem?_eq_some_iff.mp hx).1
        omega
      refine ⟨a, _, rfl, (stk s2).seq ha, rfl, _, _, rfl, _, _, rfl, rfl, rfl, ?_⟩
      refine yesT ⟨_, rfl, p0, k, _, rfl, rfl, S.v k t hgn, _, rfl, lenOk 2, fun t1 n1 => ?_⟩
      have s3 : Same H (upd H2 t1 (.tup [.str (turnK k), t])) := s2.trans (same_new n1)
      have e3 := same_new (o := .tup [.str (turnK k), t]) n1 _ _ e
      refine LcK.mk hl (by omega) e3 ⟨fun b o eb => ?_, ?_⟩
      · rw [upd_ne (ne_of_none eb nDH)]
        exact s3 b o eb
      · have et : turnN (ns.take (j + 1)) = turnN (ns.take j) ++ [(turnK k, t)] := by
          unfold turnN
          rw [take_succ' hk, List.map_append]
          rfl
        rw [et]
        have kp := Tk.put (ys := acc ++ [V.ref t1]) e3
        exact ((hm.tk (Tk.new n1)).tk kp).app (.cons (kp.seq (SqT.of upd_same)) .nil)
    · rintro acc H2 hl e ⟨s2, hm⟩
      rw [hxn, List.take_length] at hm
      refine ⟨D, acc, rfl, .inl ⟨SqL.of e, fun r nr => ?_⟩⟩
      exact q r acc _ (s2.trans (same_new nr)) (s2.free nr) upd_same (hm.tk (Tk.new nr))
end
end Eh

set_option Elab.async false
set_option linter.all false
set_option maxRecDepth 100000
set_option maxHeartbeats 2000000
namespace Eh
open PySem PySem.Spec PyProof.Rows L2
/-! ### the parts of a node, found in its nodes -/
mutual
/-- a tree in which each node is of a kind with parts, and each leaf is not -/
def plOk : Pl → Bool
  | .leaf k _ => !nodeKinds.contains k
  | .node k ps => nodeKinds.contains k && plsOk ps
def plsOk : List Pl → Bool
  | [] => true
  | p :: ps => plOk p && plsOk ps
end
mutual
theorem At.plOk {K : PySem.W.Frag} {H : Hp} : ∀ {v : V} {p : Pl}, At K H v p → plOk p = true
  | _, _, .leaf (k := k) h o => by
    rw [Eh.plOk]
    cases e : nodeKinds.contains k with
    | false => rfl
    | true =>
      have h1 := leaf_kind o
      rw [node_kind e] at h1
      cases h1
  | _, _, .node (k := k) h1 h2 o a b r => by
    rw [Eh.plOk, show nodeKinds.contains k = true from o, AtAll.plsOk r]
    rfl
theorem AtAll.plsOk {K : PySem.W.Frag} {H : Hp} : ∀ {vs : List V} {ps : List Pl}, AtAll K H vs ps → plsOk ps = true
  | _, _, .nil => by rw [Eh.plsOk]
  | _, _, .cons h r => by
    rw [Eh.plsOk, At.plOk h, AtAll.plsOk r]
    rfl
end
theorem plsOk_app : ∀ (ps qs : List Pl), plsOk (ps ++ qs) = (plsOk ps && plsOk qs)
  | [], qs => by rw [List.nil_append, plsOk, Bool.true_and]
  | p :: ps, qs => by rw [List.cons_append, plsOk, plsOk, plsOk_app ps qs, Bool.and_assoc]
section
variable {P : Program} {w : World} {K : PySem.W.Frag} {mg : Str → Option Value} {base : Heap}
def spEnd (K : PySem.W.Frag) : Sp := fun vs H Q _ => ∃ p xs ns st pl rest, vs = [.ref p, .int (st : Nat)] ∧ SqT K H p xs ∧ NdsAt K H xs ns ∧ xs.length < 1000 ∧ ns.drop st = nodesOf pl ++ rest ∧ plOk pl = true ∧ Q (.int ((st + (nodesOf pl).length : Nat) : Int)) H
theorem ok_end_of {p0 f : Addr} {fd : FuncData} (F : Fun K "end_of" "end_of" s_end_of f fd) (T : Txt mg) (S : SignsAt K w mg p0) : FnOk P w K mg base CX0 1 f fd ["nodes", "start"] (spEnd K) := by
  refine F.ok sc_end_of (fun vs H Q E h => ?_) (fun cdv A outer s H vs Q E hr h => ?_)
  · obtain ⟨p, xs, ns, st, pl, rest, rfl, _⟩ := h
    rfl
  · obtain ⟨p, xs, ns, st, pl, rest, rfl, hS, hN, hlen, hd, hok, q⟩ := h
    refine ⟨_, (pss_cons (ps_set (i := 2) sc_end_of.nd rfl (.inl rfl) pe_int)
  (pss_cons (ps_set (i := 3) sc_end_of.nd rfl (.inl rfl) (pv 1))
  (pss_cons (ps_while PassesOwn.never (pt_cmpR op_gt (pv 2) pe_int (nomark _))
  (pss_cons (ps_asg (pe_ix (ixT (K := K) rfl) (pv 0) (pv 3) (fun _ _ => rfl)) (pg_tup (by rfl) (pgs_cons (pg_name (i := 4) sc_end_of.nd rfl (.inl rfl)) (pgs_cons (pg_name (i := 5) sc_end_of.nd rfl (.inl rfl)) pgs_nil))))
  (pss_cons (ps_set (i := 2) sc_end_of.nd rfl (.inl rfl) (pe_op op_add (pe_op op_sub (pv 2) pe_int) (pe_ifExp (pt_cmpR (inKd S rfl rfl) (pv 4) (pe_glob (v := .ref p0) rfl S.g rfl) (by rfl)) (pv 5) pe_int)))
  (pss_one (ps_set (i := 3) sc_end_of.nd rfl (.inl rfl) (pe_op op_add (pv 3) pe_int))))))
  (pss_one (ps_ret (pv 3)))))), ?_⟩
    have hxn := hN.length
    refine ⟨_, rfl, ?_⟩
    refine ⟨fun m σ H2 => ∃ (qs : List Pl) (e : Nat) (x4 x5 : Option V), m = (nodesAll qs).length ∧ σ = [some (.ref p), some (.int (st : Int)), some (.int (qs.length : Int)), some (.int (e : Int)), x4, x5] ∧ H2 = H ∧ ns.drop e = nodesAll qs ++ rest ∧ plsOk qs = true ∧ e + (nodesAll qs).length = st + (nodesOf pl).length, ⟨_, [pl], st, none, none, rfl, rfl, rfl, ?_, ?_, ?_⟩, ?_⟩
    · rw [nodesAll, nodesAll, List.append_nil]
      exact hd
    · rw [plsOk, plsOk, hok]
      rfl
    · rw [nodesAll, nodesAll, List.append_nil]
    · rintro m σ H2 ⟨qs, e, x4, x5, rfl, rfl, rfl, hdq, hok2, he⟩
      refine ⟨_, rfl, _, _, rfl, rfl, _, rfl, ?_⟩
      match qs, hdq, hok2, he with
      | [], hdq, hok2, he =>
        refine iteF' (by decide) ⟨_, rfl, ?_⟩
        rw [nodesAll] at he
        have : e = st + (nodesOf pl).length := he
        rw [this]
        exact q
      | t :: qs, hdq, hok2, he =>
        refine iteT' (decide_eq_true (by rw [List.length_cons]; omega)) ⟨_, fun σ' H' h => h, ?_⟩
        rw [plsOk, Bool.and_eq_true] at hok2
        -- the next node
        obtain ⟨k, u, more, hcons, hq2, hcount⟩ : ∃ k u, ∃ more : List Pl, nodesAll (t :: qs) = (k, u) :: nodesAll more ∧ plsOk more = true ∧ (more.length : Int) = (qs.length : Int) + (if nodeKinds.contains k = true then intOf u else 0) ∧ (nodeKinds.contains k = true → ∃ i, u = .int i) := by
          cases t with
          | leaf k u =>
            have hk : nodeKinds.contains k = false := by
              have := hok2.1
              rw [plOk] at this
              simpa using this
            refine ⟨k, u, qs, by rw [nodesAll, nodesOf]; rfl, hok2.2, by rw [if_neg (by rw [hk]; exact Bool.false_ne_true)]; omega, fun h => ?_⟩
            rw [hk] at h
            cases h
          | node k ps =>
            have hk := hok2.1
            rw [plOk, Bool.and_eq_true] at hk
            refine ⟨k, .int (ps.length : Int), ps ++ qs, by rw [nodesAll, nodesOf, List.cons_append, nodesAll_append], by rw [plsOk_app, hk.2, hok2.2]; rfl, ?_, fun _ => ⟨_, rfl⟩⟩
            rw [if_pos hk.1, List.length_append]
            show ((ps.length + qs.length : Nat) : Int) = (qs.length : Int) + (ps.length : Int)
            omega
        obtain ⟨hcount, hint⟩ := hcount
        rw [hcons] at hdq he
        have hke : ns[e]? = some (k, u) := by
          have h0 : (ns.drop e)[0]? = some (k, u) := by rw [hdq]; rfl
          rw [List.getElem?_drop] at h0
          exact h0
        have hel : e < ns.length := (List.getElem?_eq_some_iff.mp hke).1
        obtain ⟨a, k', u', ex, hk', ha⟩ := hN.get (List.getElem?_eq_getElem (show e < xs.length by omega))
        rw [hke] at hk'
        cases hk'
        have hdrop : ns.drop (e + 1) = nodesAll more ++ rest := by
          have d1 := drop_at hke
          rw [hdq] at d1
          injection d1 with _ d2
          exact d2.symm
        refine ⟨_, rfl, _, rfl, p, xs, _, .ref a, rfl, rfl, hS, atI_nat (by rw [← ex]; exact List.getElem?_eq_getElem (show e < xs.length by omega)), ?_⟩
        refine ⟨a, _, rfl, ha, rfl, _, _, rfl, _, _, rfl, rfl, ?_⟩
        refine ⟨_, rfl, _, _, rfl, rfl, _, rfl, k, rfl, rfl, _, rfl, ?_⟩
        have hm : (nodesAll more).length < (nodesAll (t :: qs)).length := by rw [hcons]; exact Nat.lt_succ_self _
        cases ek : nodeKinds.contains k with
        | true =>
          obtain ⟨i, rfl⟩ := hint ek
          rw [if_pos ek] at hcount
          refine iteT ⟨_, rfl, _, _, rfl, rfl, _, rfl, _, _, rfl, rfl, ?_⟩
          refine ⟨_, hm, more, e + 1, some (.str k), some (.int i), rfl, ?_, rfl, hdrop, hq2, by rw [List.length_cons] at he; omega⟩
          have e1 : ((t :: qs).length : Int) - 1 + i = (more.length : Int) := by
            rw [List.length_cons]
            have : intOf (.int i) = i := rfl
            rw [this] at hcount
            omega
          rw [← e1]
          rfl
        | false =>
          rw [if_neg (by rw [ek]; exact Bool.false_ne_true)] at hcount
          refine iteF ⟨_, _, rfl, rfl, _, rfl, _, _, rfl, rfl, ?_⟩
          refine ⟨_, hm, more, e + 1, some (.str k), some u, rfl, ?_, rfl, hdrop, hq2, by rw [List.length_cons] at he; omega⟩
          have e1 : ((t :: qs).length : Int) - 1 + 0 = (more.length : Int) := by
            rw [List.length_cons]
            omega
          rw [← e1]
          rfl
end
end Eh

set_option Elab.async false
set_option linter.all false
set_option maxRecDepth 100000
set_option maxHeartbeats 2000000
namespace Eh
open PySem PySem.Spec PyProof.Rows L2
def partsPl : Pl → List Pl
  | .leaf _ _ => []
  | .node _ ps => ps
/-- each stands as the tuple of its nodes -/
inductive PartsAt (K : PySem.W.Frag) (H : Hp) : List V → List Pl → Prop
  | nil : PartsAt K H [] []
  | cons {a : Addr} {ys vs : List V} {p : Pl} {ps : List Pl} : SqT K H a ys → NdsAt K H ys (nodesOf p) → PartsAt K H vs ps → PartsAt K H (.ref a :: vs) (p :: ps)
theorem PartsAt.tk {K : PySem.W.Frag} {H H' : Hp} (t : Tk H H') : ∀ {vs : List V} {ps : List Pl}, PartsAt K H vs ps → PartsAt K H' vs ps
  | _, _, .nil => .nil
  | _, _, .cons h n r => .cons (t.seq h) (n.tk t) (r.tk t)
theorem PartsAt.snoc {K : PySem.W.Frag} {H : Hp} {a : Addr} {ys : List V} {p : Pl} (h : SqT K H a ys) (n : NdsAt K H ys (nodesOf p)) : ∀ {vs : List V} {ps : List Pl}, PartsAt K H vs ps → PartsAt K H (vs ++ [.ref a]) (ps ++ [p])
  | _, _, .nil => .cons h n .nil
  | _, _, .cons h' n' r => .cons h' n' (PartsAt.snoc h n r)
theorem PartsAt.length {K : PySem.W.Frag} {H : Hp} : ∀ {vs : List V} {ps : List Pl}, PartsAt K H vs ps → vs.length = ps.length
  | _, _, .nil => rfl
  | _, _, .cons _ _ r => by rw [List.length_cons, List.length_cons, r.length]
theorem NdsAt.drop {K : PySem.W.Frag} {H : Hp} : ∀ {vs : List V} {ns : List (Str × V)}, NdsAt K H vs ns → ∀ i, NdsAt K H (vs.drop i) (ns.drop i)
  | _, _, h, 0 => h
  | _, _, .nil, i + 1 => .nil
  | _, _, .cons h r, i + 1 => r.drop i
theorem NdsAt.take {K : PySem.W.Frag} {H : Hp} : ∀ {vs : List V} {ns : List (Str × V)}, NdsAt K H vs ns → ∀ i, NdsAt K H (vs.take i) (ns.take i)
  | _, _, h, 0 => .nil
  | _, _, .nil, i + 1 => .nil
  | _, _, .cons h r, i + 1 => .cons h (r.take i)
theorem cutC (xs : List V) (a b : Nat) (h : a ≤ xs.length) (h2 : b ≤ xs.length) : cutV xs (some (a : Int)) (some (b : Int)) = (xs.drop a).take (b - a) := by
  unfold cutV
  rw [HT.sIx_nat, HT.sIx_nat, Nat.min_eq_left h, Nat.min_eq_left h2]
theorem nodes_ge : ∀ ps : List Pl, ps.length ≤ (nodesAll ps).length
  | [] => Nat.zero_le _
  | p :: ps => by
    have h1 := nodesOf_pos p
    have h2 := nodes_ge ps
    rw [nodesAll, List.length_append, List.length_cons]
    omega
section
variable {P : Program} {w : World} {K : PySem.W.Frag} {mg : Str → Option Value} {base : Heap}
def spPartsOf (K : PySem.W.Frag) : Sp := fun vs H Q _ => ∃ p xs pl, vs = [.ref p] ∧ SqT K H p xs ∧ NdsAt K H xs (nodesOf pl) ∧ plOk pl = true ∧ xs.length < 1000 ∧ ∀ l us H', Same H H' → H l = none → H' l = some (.lst us) → PartsAt K H' us (partsPl pl) → Q (.ref l) H'
theorem ok_parts_of {fE f : Addr} {fdE fd : FuncData} (F : Fun K "parts_of" "parts_of" s_parts_of f fd) (T : Txt mg) (C_end_of : Cal P w K mg base 1 "end_of" fE fdE ["nodes", "start"] (spEnd K)) : FnOk P w K mg base CX0 2 f fd ["nodes"] (spPartsOf K) := by
  refine F.ok sc_parts_of (fun vs H Q E h => ?_) (fun cdv A outer s H vs Q E hr h => ?_)
  · obtain ⟨p, xs, pl, rfl, _⟩ := h
    rfl
  · obtain ⟨p, xs, pl, rfl, hS, hN, hok, hlen, q⟩ := h
    refine ⟨_, (pss_cons (ps_set (i := 1) sc_parts_of.nd rfl (.inl rfl) (pe_lst pa_nil))
  (pss_cons (ps_set (i := 2) sc_parts_of.nd rfl (.inl rfl) pe_int)
  (pss_cons (ps_while PassesOwn.never (pt_cmpR op_lt (pv 2) (pe_callB (lenQ (K := K) rfl) (by rfl) T.len_ (by decide +kernel) (pa_cons (pv 0) pa_nil)) (nomark _))
  (pss_cons (ps_set (i := 3) sc_parts_of.nd rfl (.inl rfl) (pe_call C_end_of.G hr (by rfl) C_end_of.m C_end_of.k C_end_of.b .nil pass0 (pa_cons (pv 0) (pa_cons (pv 2) pa_nil))))
  (pss_cons (ps_expr (bmK (K := K) rfl (pe_bm PySem.F.plainAttrs_list PySem.F.slot_list_append PySem.F.type_list_append mt_append (pv 1) (pa_cons (pe_slice sl_tup (pv 0) (po_some (pv 2)) (po_some (pv 3))) pa_nil))))
  (pss_one (ps_set (i := 2) sc_parts_of.nd rfl (.inl rfl) (pv 3))))))
  (pss_one (ps_ret (pv 1)))))), ?_⟩
    have hxn := hN.length
    have hpos := nodesOf_pos pl
    obtain ⟨n0, hn0, hok2⟩ : ∃ n0, nodesOf pl = n0 :: nodesAll (partsPl pl) ∧ plsOk (partsPl pl) = true := by
      cases pl with
      | leaf k t =>
        refine ⟨(k, t), ?_, ?_⟩
        · rw [nodesOf, partsPl, nodesAll]
        · rw [partsPl, plsOk]
      | node k ps =>
        refine ⟨(k, .int (ps.length : Int)), ?_, ?_⟩
        · rw [nodesOf, partsPl]
        · rw [plOk, Bool.and_eq_true] at hok
          rw [partsPl]
          exact hok.2
    have hn1 : (nodesAll (partsPl pl)).length + 1 = xs.length := by rw [hxn, hn0, List.length_cons]
    refine ⟨Nat.zero_le _, fun l nl => ?_⟩
    have nH : H l = none := nl
    have s1 : Same H (upd H l (.lst [])) := same_new nl
    refine ⟨fun m σ H2 => ∃ (d qs : List Pl) (us : List V) (x3 : Option V), m = qs.length ∧ partsPl pl = d ++ qs ∧ σ = [some (.ref p), some (.ref l), some (.int ((1 + (nodesAll d).length : Nat) : Int)), x3] ∧ Same H H2 ∧ H2 l = some (.lst us) ∧ PartsAt K H2 us d, ⟨_, [], partsPl pl, [], none, rfl, rfl, ?_, s1, upd_same, .nil⟩, ?_⟩
    · rw [nodesAll]
      rfl
    · rintro m σ H2 ⟨d, qs, us, x3, rfl, hdq, rfl, s2, e2, hp⟩
      have hall : (nodesAll (partsPl pl)).length = (nodesAll d).length + (nodesAll qs).length := by rw [hdq, nodesAll_append, List.length_append]
      refine ⟨_, rfl, _, rfl, .inl ⟨p, xs, rfl, .inr ((stk s2).seq hS), _, _, rfl, rfl, _, rfl, ?_⟩⟩
      cases qs with
      | nil =>
        rw [nodesAll] at hall
        have hall : (nodesAll (partsPl pl)).length = (nodesAll d).length := hall
        refine iteF' (decide_eq_false (by omega)) ⟨_, rfl, ?_⟩
        rw [List.append_nil] at hdq
        refine q l us H2 s2 nH e2 ?_
        rw [hdq]
        exact hp
      | cons t qs =>
        have ht := nodesOf_pos t
        have hall : (nodesAll (partsPl pl)).length = (nodesAll d).length + ((nodesOf t).length + (nodesAll qs).length) := by
          rw [hall, nodesAll, List.length_append]
        refine iteT' (decide_eq_true (by omega)) ⟨_, fun σ' H' h => h, ?_⟩
        have hokt : plOk t = true := by
          rw [hdq, plsOk_app, Bool.and_eq_true] at hok2
          have := hok2.2
          rw [plsOk, Bool.and_eq_true] at this
          exact this.1
        have hdrop : (nodesOf pl).drop (1 + (nodesAll d).length) = nodesOf t ++ nodesAll qs := by
          rw [hn0, Nat.add_comm, List.drop_succ_cons, hdq, nodesAll_append, List.drop_left, nodesAll]
        refine ⟨_, rfl, _, rfl, p, xs, nodesOf pl, 1 + (nodesAll d).length, t, nodesAll qs, rfl, (stk s2).seq hS, hN.tk (stk s2), hlen, hdrop, hokt, ?_⟩
        refine ⟨_, rfl, .inl ⟨rfl, _, SqL.of e2⟩, _, rfl, _, rfl, _, rfl, _, rfl, _, rfl, p, xs, rfl, (stk s2).seq hS, ?_, fun r nr => ?_⟩
        · intro h
          have h := h.1
          rw [HT.sIx_nat] at h
          omega
        rw [cutC xs _ _ (by omega) (by omega)]
        have s3 := s2.trans (same_new (o := .tup ((xs.drop (1 + (nodesAll d).length)).take (1 + (nodesAll d).length + (nodesOf t).length - (1 + (nodesAll d).length)))) nr)
        have e3 := same_new (o := .tup ((xs.drop (1 + (nodesAll d).length)).take (1 + (nodesAll d).length + (nodesOf t).length - (1 + (nodesAll d).length)))) nr _ _ e2
        have hul := hp.length
        have hdl : d.length ≤ (nodesAll d).length := nodes_ge d
        refine ⟨l, us, .ref r, rfl, rfl, e3, small (by omega), ?_⟩
        have kp := Tk.put (ys := us ++ [V.ref r]) e3
        refine ⟨_, rfl, _, Nat.lt_succ_self _, d ++ [t], qs, us ++ [.ref r], some (.int ((1 + (nodesAll d).length + (nodesOf t).length : Nat) : Int)), rfl, by rw [hdq, List.append_assoc]; rfl, ?_, fun b o eb => ?_, upd_same, ?_⟩
        · have e5 : (1 + (nodesAll (d ++ [t])).length : Nat) = 1 + (nodesAll d).length + (nodesOf t).length := by
            rw [nodesAll_append, nodesAll, nodesAll, List.append_nil, List.length_append]
            omega
          rw [e5]
          rfl
        · rw [upd_ne (ne_of_none eb nH)]
          exact s3 b o eb
        · refine PartsAt.snoc (kp.seq (SqT.of upd_same)) ?_ ((hp.tk (Tk.new nr)).tk kp)
          have hnd := ((hN.tk (stk s3)).tk kp).drop (1 + (nodesAll d).length)
          have htk := hnd.take (1 + (nodesAll d).length + (nodesOf t).length - (1 + (nodesAll d).length))
          rw [hdrop, Nat.add_sub_cancel_left, List.take_left] at htk
          rw [Nat.add_sub_cancel_left]
          exact htk
end
end Eh

set_option Elab.async false
set_option linter.all false
set_option maxRecDepth 100000
set_option maxHeartbeats 2000000
/-! a list takes in a tuple of any kind -/
namespace Eh
open PySem PySem.AutoSeq1
theorem extAny (l b : Addr) (xs ys : Array Value) (n m : Nat) (dd : Option Addr) (sl : Array (Option Value)) (long : ¬(!xs.isEmpty && Builtin.List.listTooLong (xs.size + ys.size)) = true) (h1 : xs.size ≤ sizeLine) (h2 : xs.size + ys.size ≤ sizeLine + 1) :
    Meets (Builtin.«list.extend» ⟨[.ref l, .ref b], []⟩) (fun _ R s => s.heap.get? l = some { cls := .type "list", dict := none, data := .seq xs n, slots := #[] } ∧ s.heap.get? b = some { cls := .type "tuple", dict := dd, data := .seq ys m, slots := sl } ∧
      R (.ok (.ret Value.none)) { s with heap := s.heap.update l (Obj.mapSeq fun x => x ++ ys), toks := s.toks }) :=
  .of_wp fun prog w A R s h => by
    obtain ⟨hp, g, d, tk, os⟩ := s
    obtain ⟨hl, hb, h⟩ := h
    have f4 := sub_tuple_list
    have f2 := sub_tuple_tuple
    have hz : (xs ++ ys).size ≤ sizeLine + 1 := by
      rw [Array.size_append]
      exact h2
    wp_walk using (wpAny_updateSeq hl rfl (hz := h1) (_hz' := hz)), wpAny_loadPart' hl, wpAny_loadPart' hb
    exact ⟨_, rfl, h⟩
end Eh
namespace Eh
open PySem PySem.Spec PyProof.Rows L2
def rExtT (K : PySem.W.Frag) : V → List V → Hp → VK → Prop := fun x vs H Q => ∃ l b xs zs, x = .ref l ∧ vs = [.ref b] ∧ H l = some (.lst xs) ∧ SqT K H b zs ∧ xs.length + zs.length ≤ sizeLine ∧ Q .non (upd H l (.lst (xs ++ zs)))
theorem mtExtT {X : Cx} {K : PySem.W.Frag} (hK : X.K = K) : MtM X "list.extend" (rExtT K) := by
  subst hK
  intro pins s σ H x vs v us Q I rx rv h
  obtain ⟨l, b, xs, zs, rfl, rfl, hH, hB, hz, q⟩ := h
  cases rx
  obtain ⟨u, rfl, ru⟩ := rv.one
  cases ru
  obtain ⟨z, its, n, r, hl, e⟩ := I.lstM hH
  obtain ⟨its2, r2, ⟨o, ho, hc, m, hd⟩, _⟩ := I.tuple hB
  obtain ⟨cls, dd, dat, sl⟩ := o
  simp only at hc hd
  subst hc hd
  have hl2 := r2.length
  have hs : its.toArray.size + its2.toArray.size ≤ sizeLine := by
    rw [List.size_toArray, List.size_toArray]
    omega
  refine call_meets PySem.F.slot_list_extend ⟨_, e, rfl⟩ PySem.F.entry_list_extend (PySem.F.args_list_extend_2 _ _)
    (extAny l b its.toArray its2.toArray n m dd sl (by rw [notLongL hs, Bool.and_false]; exact Bool.false_ne_true) (by rw [List.size_toArray]; omega) (by omega)) ⟨e, ho, ?_⟩
  exact ⟨.non, _, I.lset (its' := its ++ its2) hH e (by simp) (r.append r2) (by rw [List.length_append]; omega), rfl, q⟩
end Eh

set_option Elab.async false
set_option linter.all false
set_option maxRecDepth 100000
set_option maxHeartbeats 2000000
namespace Eh
open PySem PySem.Spec PyProof.Rows L2
theorem PartsAt.get {K : PySem.W.Frag} {H : Hp} : ∀ {vs : List V} {ps : List Pl}, PartsAt K H vs ps → ∀ {i : Nat} {v : V}, vs[i]? = some v → ∃ a ys p, v = .ref a ∧ ps[i]? = some p ∧ SqT K H a ys ∧ NdsAt K H ys (nodesOf p)
  | _, _, .nil, i, v, h => by simp at h
  | _, _, .cons (a := a) (ys := ys) (p := p) h n r, 0, v, hv => by
    cases (show some (V.ref a) = some v from hv)
    exact ⟨a, ys, p, rfl, rfl, h, n⟩
  | _, _, .cons h n r, i + 1, v, hv => r.get (i := i) hv
theorem nodesAll_take_le (ps : List Pl) (i : Nat) : (nodesAll (ps.take i)).length ≤ (nodesAll ps).length := by
  have := congrArg List.length (nodesAll_append (ps.take i) (ps.drop i))
  rw [List.take_append_drop, List.length_append] at this
  omega
section
variable {P : Program} {w : World} {K : PySem.W.Frag} {mg : Str → Option Value} {base : Heap}
def spJoined (K : PySem.W.Frag) : Sp := fun vs H Q _ => ∃ k p us ps, vs = [.str k, .ref p] ∧ SqL K H p us ∧ PartsAt K H us ps ∧ (nodesAll ps).length < 900 ∧ ∀ r ys H', Same H H' → H r = none → H' r = some (.tup ys) → NdsAt K H' ys (nodesOf (.node k ps)) → Q (.ref r) H'
theorem ok_joined {f : Addr} {fd : FuncData} (F : Fun K "joined" "joined" s_joined f fd) (T : Txt mg) : FnOk P w K mg base CX0 1 f fd ["kind", "parts"] (spJoined K) := by
  refine F.ok sc_joined (fun vs H Q E h => ?_) (fun cdv A outer s H vs Q E hr h => ?_)
  · obtain ⟨k, p, us, ps, rfl, _⟩ := h
    rfl
  · obtain ⟨k, p, us, ps, rfl, hS, hP, hl, q⟩ := h
    refine ⟨_, (pss_cons (ps_set (i := 2) sc_joined.nd rfl (.inl rfl) (pe_lst (pa_cons (pe_tup (pa_cons (pv 0) (pa_cons (pe_callB (lenQ (K := K) rfl) (by rfl) T.len_ (by decide +kernel) (pa_cons (pv 1) pa_nil)) pa_nil))) pa_nil)))
  (pss_cons (ps_for PassesOwn.never (by rfl) (piL (K := K) rfl (pv 1)) (pg_name (i := 3) sc_joined.nd rfl (.inl rfl))
  (pss_one (ps_expr (bmK (K := K) rfl (pe_bm PySem.F.plainAttrs_list PySem.F.slot_list_extend PySem.F.type_list_extend (mtExtT (K := K) rfl) (pv 2) (pa_cons (pv 3) pa_nil))))))
  (pss_one (ps_ret (pe_callTy call_tuple_of (by rfl) T.tuple_ (by decide +kernel) (pa_cons (pv 2) pa_nil)))))), ?_⟩
    have hul := hP.length
    refine ⟨_, rfl, _, rfl, .inl ⟨p, us, rfl, .inl hS, lenOk 2, fun t nt => ⟨lenOk 1, fun l nl => ?_⟩⟩⟩
    have s1 : Same H (upd H t (.tup [.str k, .int (us.length : Int)])) := same_new nt
    have s2 := s1.trans (same_new (o := .lst [V.ref t]) nl)
    have nH : H l = none := s1.free nl
    have ntl : t ≠ l := ne_of_none upd_same nl
    refine ⟨_, rfl, p, rfl, ⟨us, s2.seq hS⟩, for_list (K := K) (a := p) (xs := us) (fun i σ H2 => ∃ (ys : List V) (x3 : Option V), σ = [some (.str k), some (.ref p), some (.ref l), x3] ∧ Same H H2 ∧ H2 l = some (.lst ys) ∧ NdsAt K H2 ys ((k, .int (ps.length : Int)) :: nodesAll (ps.take i))) ?_ (fun i σ H2 _ h => ?_) ?_ ?_⟩
    · refine ⟨[.ref t], none, rfl, s2, upd_same, ?_⟩
      have e0 : nodesAll (ps.take 0) = [] := by rw [List.take_zero, nodesAll]
      rw [e0, ← hul]
      exact .cons (SqT.of (by rw [upd_ne ntl]; exact upd_same)) .nil
    · obtain ⟨ys, x3, _, s3, _⟩ := h
      exact s3.seq hS
    · rintro i v σ H2 hi ⟨ys, x3, rfl, s3, e3, N3⟩
      obtain ⟨a, zs, p2, rfl, hp2, ha, hn⟩ := hP.get hi
      have b1 := N3.length
      have b2 := (hn.tk (stk s3)).length
      have b3 := nodesOf_get hp2
      have b4 := nodesAll_take_le ps i
      rw [List.length_cons] at b1
      refine ⟨_, rfl, .inl ⟨rfl, _, SqL.of e3⟩, _, rfl, l, a, ys, zs, rfl, rfl, e3, (stk s3).seq ha, Nat.le_of_lt (small (by omega)), ?_⟩
      have kp := Tk.put (ys := ys ++ zs) e3
      refine ⟨ys ++ zs, _, rfl, fun b o eb => ?_, upd_same, ?_⟩
      · rw [upd_ne (ne_of_none eb nH)]
        exact s3 b o eb
      · rw [nodesAll_take hp2, ← List.cons_append]
        exact (N3.tk kp).app ((hn.tk (stk s3)).tk kp)
    · rintro σ H2 ⟨ys, x3, rfl, s3, e3, N3⟩
      refine ⟨_, rfl, l, ys, rfl, .inl ⟨SqL.of e3, fun r nr => ?_⟩⟩
      refine q r ys _ (s3.trans (same_new nr)) (s3.free nr) upd_same ?_
      rw [nodesOf]
      rw [hul, List.take_length] at N3
      exact N3.tk (Tk.new nr)
end
end Eh

set_option Elab.async false
set_option linter.all false
set_option maxRecDepth 100000
set_option maxHeartbeats 2000000
namespace Eh
open PySem PySem.Spec PyProof.Rows L2
mutual
theorem pl_due : ∀ {p : Pl}, plOk p = true → ∀ l rest, dueGo (l + 1) (nodesOf p ++ rest) = dueGo l rest
  | .leaf k t, h, l, rest => by
    rw [plOk] at h
    rw [nodesOf]
    show dueGo (l + partsN (k, t)) rest = _
    have e : partsN (k, t) = 0 := by
      unfold partsN
      rw [if_neg (fun z => by rw [show nodeKinds.contains k = true from z] at h; cases h)]
    rw [e]
    rfl
  | .node k ps, h, l, rest => by
    rw [plOk, Bool.and_eq_true] at h
    rw [nodesOf]
    show dueGo (l + partsN (k, .int (ps.length : Int))) (nodesAll ps ++ rest) = _
    have e : partsN (k, .int (ps.length : Int)) = ps.length := by
      unfold partsN
      rw [if_pos h.1]
      exact Int.toNat_natCast _
    rw [e]
    exact pls_due h.2 l rest
theorem pls_due : ∀ {ps : List Pl}, plsOk ps = true → ∀ l rest, dueGo (l + ps.length) (nodesAll ps ++ rest) = dueGo l rest
  | [], _, l, rest => by
    rw [nodesAll]
    rfl
  | p :: ps, h, l, rest => by
    rw [plsOk, Bool.and_eq_true] at h
    rw [nodesAll, List.append_assoc, List.length_cons, show l + (ps.length + 1) = (l + ps.length) + 1 from rfl, pl_due h.1, pls_due h.2]
end
theorem PrOk.same {K : PySem.W.Frag} {C a : Addr} {H H' : Hp} {ns : List (Str × V)} (h : PrOk K C H a ns) (s : Same H H') : PrOk K C H' a ns := by
  obtain ⟨dx, p, xs, e, hs, hN, ho⟩ := h
  exact ⟨dx, p, xs, s _ _ e, (stk s).seq hs, hN.tk (stk s), ho⟩
theorem PrOk.put {K : PySem.W.Frag} {C a l : Addr} {H : Hp} {ns : List (Str × V)} {us vs : List V} (h : PrOk K C H a ns) (e : H l = some (.lst us)) : PrOk K C (upd H l (.lst vs)) a ns := by
  obtain ⟨dx, p, xs, e1, hs, hN, ho⟩ := h
  have n : a ≠ l := fun z => by rw [z, e] at e1; cases e1
  exact ⟨dx, p, xs, by rw [upd_ne n]; exact e1, (Tk.put e).seq hs, hN.tk (Tk.put e), ho⟩
/-- promises in a row -/
inductive PrsAt (K : PySem.W.Frag) (C : Addr) (H : Hp) : List V → List Pl → Prop
  | nil : PrsAt K C H [] []
  | cons {a : Addr} {vs : List V} {p : Pl} {ps : List Pl} : PrOk K C H a (nodesOf p) → PrsAt K C H vs ps → PrsAt K C H (.ref a :: vs) (p :: ps)
theorem PrsAt.same {K : PySem.W.Frag} {C : Addr} {H H' : Hp} (s : Same H H') : ∀ {vs : List V} {ps : List Pl}, PrsAt K C H vs ps → PrsAt K C H' vs ps
  | _, _, .nil => .nil
  | _, _, .cons h r => .cons (h.same s) (PrsAt.same s r)
theorem PrsAt.put {K : PySem.W.Frag} {C l : Addr} {H : Hp} {us ws : List V} (e : H l = some (.lst us)) : ∀ {vs : List V} {ps : List Pl}, PrsAt K C H vs ps → PrsAt K C (upd H l (.lst ws)) vs ps
  | _, _, .nil => .nil
  | _, _, .cons h r => .cons (h.put e) (PrsAt.put e r)
theorem PrsAt.snoc {K : PySem.W.Frag} {C a : Addr} {H : Hp} {p : Pl} (h : PrOk K C H a (nodesOf p)) : ∀ {vs : List V} {ps : List Pl}, PrsAt K C H vs ps → PrsAt K C H (vs ++ [.ref a]) (ps ++ [p])
  | _, _, .nil => .cons h .nil
  | _, _, .cons h' r => .cons h' (PrsAt.snoc h r)
theorem plsOk_get : ∀ {ps : List Pl} {i : Nat} {p : Pl}, plsOk ps = true → ps[i]? = some p → plOk p = true
  | [], _, _, _, h => by simp at h
  | q :: ps, 0, p, o, h => by
    cases (show some q = some p from h)
    rw [plsOk, Bool.and_eq_true] at o
    exact o.1
  | q :: ps, i + 1, p, o, h => by
    rw [plsOk, Bool.and_eq_true] at o
    exact plsOk_get (ps := ps) (i := i) o.2 h
section
variable {P : Program} {w : World} {K : PySem.W.Frag} {mg : Str → Option Value} {base : Heap}
/-- good nodes make a promise: what __init__ wants -/
theorem good_nodes {H : Hp} {p : Addr} {ys : List V} {ns : List (Str × V)} (hs : SqT K H p ys) (hN : NdsAt K H ys ns) (ho : ∀ n ∈ ns, NOk n) (hd : dueGo 1 ns = true) (hl : ns.length ≤ 15) : NodesV K H (.ref p) (ns.map some) true ∧ Few (ns.map some) true := by
  have g : GoodN ns := fun n hn => (ho n hn).1
  have w : InW uni6 ns := fun k z hz => (ho _ hz).2 z rfl
  have ok : okNs (ns.map some) = true := by rw [not_due_of rfl]; exact hd
  have nv := NodesV.tup hs (nds_all hN g w)
  have fw := few_of (nds := ns.map some) (fact_some w) (by rw [List.length_map]; exact hl)
  rw [ok] at nv fw
  exact ⟨nv, fw⟩
def spPartsP (K : PySem.W.Frag) (C : Addr) : Sp := fun vs H Q _ => ∃ a pl, vs = [.ref a] ∧ PrOk K C H a (nodesOf pl) ∧ plOk pl = true ∧ (nodesOf pl).length ≤ 15 ∧ ∀ r us H', Same H H' → H r = none → H' r = some (.tup us) → PrsAt K C H' us (partsPl pl) → Q (.ref r) H'
theorem ok_partsP {C CE fI fL fO f : Addr} {fdI fdO fd : FuncData} (F : Fun K "parts" "Promise.parts" s_Promise_parts f fd) (T : Txt mg) (PC : PromC K mg C fI fL) (C_parts_of : Cal P w K mg base 2 "parts_of" fO fdO ["nodes"] (spPartsOf K))
    (GI : FnOk P w K mg base (L2.CX P w) 4 fI fdI ["self", "nodes"] (spInit K C CE)) (bI : Binds K fdI ["self", "nodes"] []) : FnOk P w K mg base CX0 6 f fd ["self"] (spPartsP K C) := by
  refine F.ok sc_Promise_parts (fun vs H Q E h => ?_) (fun cdv A outer s H vs Q E hr h => ?_)
  · obtain ⟨a, pl, rfl, _⟩ := h
    rfl
  · obtain ⟨a, pl, rfl, ⟨dx0, p, xs, ha, hs, hN, ho⟩, hok, hl, q⟩ := h
    have hr2 := hr.mono (j := 2) (by omega)
    refine ⟨_, (pss_one (ps_ret (pe_callTy call_tuple_of (by rfl) T.tuple_ (by decide +kernel) (pa_cons (pe_lc (own := [("nodes", 1)]) (g := gName 1) (by rfl) sc_Promise_parts.nd (piL (K := K) rfl (pe_call C_parts_of.G hr2 (by rfl) C_parts_of.m C_parts_of.k C_parts_of.b .nil pass0 (pa_cons (pe_fld (pv 0) rfl) pa_nil))) (blkOk_by (by kernel_rfl)) (fun _ _ _ _ _ => (pg_name (i := 1) sc_Promise_parts.nd rfl (.inl rfl))) (fun _ _ _ _ _ => pts_nil) (fun _ _ _ _ _ => (pe_make PC.mkC GI hr (by rfl) PC.g bI .nil passL (pa_cons (pv 1) pa_nil)))) pa_nil)))), ?_⟩
    have hxn := hN.length
    refine ⟨_, rfl, a, C, dx0, _, .ref p, rfl, ha, PC.cl, PC.nn, rfl, p, xs, pl, rfl, hs, hN, hok, by omega, fun l us H1 s1 n1 e1 P1 => ?_⟩
    refine ⟨l, rfl, ⟨us, SqL.of e1⟩, fun D nD => ?_⟩
    have hok2 : plsOk (partsPl pl) = true := by
      cases pl with
      | leaf k t => rw [partsPl, plsOk]
      | node k ps =>
        rw [plOk, Bool.and_eq_true] at hok
        rw [partsPl]
        exact hok.2
    have hsub : ∀ {i : Nat} {t : Pl}, (partsPl pl)[i]? = some t → (∀ n ∈ nodesOf t, n ∈ nodesOf pl) ∧ (nodesOf t).length ≤ (nodesOf pl).length := fun {i t} h => by
      cases pl with
      | leaf k u =>
        rw [partsPl] at h
        simp at h
      | node k ps =>
        rw [partsPl] at h
        rw [nodesOf]
        exact ⟨fun n hn => List.mem_cons_of_mem _ (nodes_sub h n hn), Nat.le_succ_of_le (nodesOf_get h)⟩
    have nDH : H D = none := s1.free nD
    have nlD : l ≠ D := ne_of_none e1 nD
    have u0 := same_new (o := .lst []) nD
    refine lcL (K := K) (a := l) (xs := us) (fun j acc H2 => Same H H2 ∧ Same H1 H2 ∧ PrsAt K C H2 acc ((partsPl pl).take j)) ⟨s1.trans u0, u0, .nil⟩ (fun j acc H2 h => SqL.of (h.2.1 _ _ e1)) ?_ ?_
    · rintro j x acc H2 hx hl2 e ⟨s2, u2, hp⟩
      obtain ⟨b, ys, t, rfl, ht, hb, hn⟩ := P1.get hx
      have hul := P1.length
      have hj : j < 1000000 := by
        have h1 := (List.getElem?_eq_some_iff.mp hx).1
        have h2 := nodes_ge (partsPl pl)
        have h3 : (nodesAll (partsPl pl)).length ≤ (nodesOf pl).length := by
          cases pl with
          | leaf k u => rw [partsPl, nodesAll]; exact Nat.zero_le _
          | node k ps => rw [partsPl, nodesOf, List.length_cons]; exact Nat.le_succ _
        omega
      obtain ⟨hs1, hs2⟩ := hsub ht
      refine yesT ⟨_, rfl, fun x dx nx nd ne => ?_⟩
      have u3 : Same H2 (upd (upd H2 dx (.own x)) x (.ins C dx [])) := fun b' o' eb => by
        rw [upd_ne (ne_of_none eb nx), upd_ne (ne_of_none eb nd)]
        exact eb
      have t3 := stk (u2.trans u3)
      have hdt : dueGo 1 (nodesOf t) = true := by
        have := pl_due (plsOk_get hok2 ht) 0 []
        rw [List.append_nil] at this
        exact this
      have hot : ∀ n ∈ nodesOf t, NOk n := fun n hn' => ho n (hs1 n hn')
      obtain ⟨nv, fw⟩ := good_nodes (K := K) (t3.seq hb) (hn.tk t3) hot hdt (by omega)
      refine ⟨x, dx, .ref b, _, true, rfl, upd_same, nv, fw, fun _ H4 bt e4 => ⟨rfl, ?_⟩, fun z => nomatch z⟩
      have nx2 : H2 x = none := nx
      have s4 : Same H2 H4 := fun b' o' eb => bt b' o' (ne_of_none eb nx2) (u3 b' o' eb)
      have pr : PrOk K C H4 x (nodesOf t) := ⟨dx, b, ys, e4, (stk (u2.trans s4)).seq hb, hn.tk (stk (u2.trans s4)), hot⟩
      have nD1 : H1 D = none := nD
      refine LcK.mk hl2 hj (s4 _ _ e) ⟨fun b' o' eb => ?_, fun b' o' eb => ?_, ?_⟩
      · rw [upd_ne (ne_of_none eb nDH)]
        exact s4 _ _ (s2 b' o' eb)
      · rw [upd_ne (ne_of_none eb nD1)]
        exact s4 _ _ (u2 b' o' eb)
      · rw [take_succ' ht]
        exact PrsAt.snoc (pr.put (s4 _ _ e)) ((hp.same s4).put (s4 _ _ e))
    · rintro acc H2 hl2 e ⟨s2, u2, hp⟩
      have hul := P1.length
      rw [hul, List.take_length] at hp
      refine ⟨D, acc, rfl, .inl ⟨SqL.of e, fun r nr => ?_⟩⟩
      exact q r acc _ (s2.trans (same_new nr)) (s2.free nr) upd_same (hp.same (same_new nr))
end
end Eh

set_option Elab.async false
set_option linter.all false
set_option maxRecDepth 100000
set_option maxHeartbeats 2000000
namespace Eh
open PySem PySem.Spec PyProof.Rows L2
/-! ### how deep nodes are, just as the program finds it -/
def popz : List Int → List Int
  | [] => []
  | x :: r => if x = 0 then popz r else x :: r
theorem popz_ne {x : Int} {r : List Int} (h : x ≠ 0) : popz (x :: r) = x :: r := by
  rw [popz, if_neg h]
/-- what is missing at the end, and the greatest depth met -/
def runD : List Int → Int → List (Str × V) → Int × Int
  | st, d, [] => (st.sum, d)
  | st, d, n :: ns => match popz st with
    | [] => (1, 0)
    | x :: r => if nodeKinds.contains n.1 = true then runD (intOf n.2 :: (x - 1) :: r) (max d ((r.length : Int) + 1)) ns else runD ((x - 1) :: r) (max d ((r.length : Int) + 1)) ns
def depthN (ns : List (Str × V)) : Int := if (runD [1] 0 ns).1 = 0 then (runD [1] 0 ns).2 else 0
theorem run_none {st : List Int} {d : Int} {n : Str × V} {ns : List (Str × V)} (h : popz st = []) : runD st d (n :: ns) = (1, 0) := by
  rw [runD, h]
theorem run_step {st : List Int} {d x : Int} {r : List Int} {n : Str × V} {ns : List (Str × V)} (h : popz st = x :: r) :
    runD st d (n :: ns) = if nodeKinds.contains n.1 = true then runD (intOf n.2 :: (x - 1) :: r) (max d ((r.length : Int) + 1)) ns else runD ((x - 1) :: r) (max d ((r.length : Int) + 1)) ns := by
  rw [runD, h]
theorem sum_rev (st : List Int) : st.reverse.sum = st.sum := by
  induction st with
  | nil => rfl
  | cons a r ih => rw [List.reverse_cons, List.sum_append, ih, List.sum_cons, List.sum_cons, List.sum_nil]; omega
section
variable {P : Program} {w : World} {K : PySem.W.Frag} {mg : Str → Option Value} {base : Heap}
def spDepthE (K : PySem.W.Frag) : Sp := fun vs H Q _ => ∃ p xs ns, vs = [.ref p] ∧ SqT K H p xs ∧ NdsAt K H xs ns ∧ GoodN ns ∧ xs.length < 1000 ∧
  ∀ (dd : Int) H', Same H H' → (1 ≤ dd ↔ dueGo 1 ns = true) → dd ≤ 1 + countIn nodeKinds ns → dd = depthN ns → Q (.int dd) H'
theorem ok_depth_ofE {p0 f : Addr} {fd : FuncData} (F : Fun K "depth_of" "depth_of" s_depth_of f fd) (T : Txt mg) (S : SignsAt K w mg p0) : FnOk P w K mg base CX0 1 f fd ["nodes"] (spDepthE K) := by
  refine F.ok sc_depth_of (fun vs H Q E h => ?_) (fun cdv A outer s H vs Q E hr h => ?_)
  · obtain ⟨p, xs, ns, rfl, _⟩ := h
    rfl
  · obtain ⟨p, xs, ns, rfl, hS, hN, hg, hlen, q⟩ := h
    refine ⟨_, (pss_cons (ps_set (i := 1) sc_depth_of.nd rfl (.inl rfl) (pe_lst (pa_cons pe_int pa_nil)))
  (pss_cons (ps_set (i := 2) sc_depth_of.nd rfl (.inl rfl) pe_int)
  (pss_cons (ps_for PassesOwn.never (by rfl) (pi_tup (pv 0)) (pg_tup (by rfl) (pgs_cons (pg_name (i := 3) sc_depth_of.nd rfl (.inl rfl)) (pgs_cons (pg_name (i := 4) sc_depth_of.nd rfl (.inl rfl)) pgs_nil)))
  (pss_cons (ps_while PassesOwn.never (PW.pt (pw_and (pt_truth (pv 1) (by intro _; rfl)) (pw_and1 (pt_cmpR op_eq (pe_ix (ixL (K := K) rfl) (pv 1) (pe_un un_neg pe_int) (fun _ _ => rfl)) pe_int (nomark _)))))
  (pss_one (ps_expr (bm0K (K := K) rfl (pe_bm0 PySem.F.plainAttrs_list PySem.F.slot_list_pop PySem.F.type_list_pop mt_pop (pv 1))))))
  (pss_cons (ps_if (pt_not (pt_truth (pv 1) (by intro _; rfl)))
  (pss_one (ps_ret pe_int))
  pss_nil)
  (pss_cons (ps_asg (pe_op op_sub (pe_ix (ixL (K := K) rfl) (pv 1) (pe_un un_neg pe_int) (fun _ _ => rfl)) pe_int) (pg_sub (pv 1) (pe_un un_neg pe_int) set_list))
  (pss_cons (ps_set (i := 2) sc_depth_of.nd rfl (.inl rfl) (pe_callB (call_max2 (by rfl)) (by rfl) T.max_ (by decide +kernel) (pa_cons (pv 2) (pa_cons (pe_callB (lenQ (K := K) rfl) (by rfl) T.len_ (by decide +kernel) (pa_cons (pv 1) pa_nil)) pa_nil))))
  (pss_one (ps_if (pt_cmpR (inKd S rfl rfl) (pv 3) (pe_glob (v := .ref p0) rfl S.g rfl) (by rfl))
  (pss_one (ps_expr (bmK (K := K) rfl (pe_bm PySem.F.plainAttrs_list PySem.F.slot_list_append PySem.F.type_list_append mt_append (pv 1) (pa_cons (pv 4) pa_nil)))))
  pss_nil)))))))
  (pss_one (ps_ret (pe_ifExp (pt_cmpR op_eq (pe_callB (cr_sum (by rfl)) (by rfl) T.sum_ (by decide +kernel) (pa_cons (pv 1) pa_nil)) pe_int (nomark _)) (pv 2) pe_int)))))), ?_⟩
    refine ⟨lenOk 1, fun l nl => ?_⟩
    have s1 : Same H (upd H l (.lst [.int 1])) := same_new nl
    have hxn := hN.length
    refine ⟨_, rfl, p, rfl, ⟨xs, (stk s1).seq hS⟩, for_tup (K := K) (a := p) (xs := xs) (fun i σ H2 => ∃ (st : List Int) (dp : Int) (x3 x4 : Option V), σ = [some (.ref p), some (.ref l), some (.int dp), x3, x4] ∧ Same H H2 ∧ H2 l = some (.lst (st.map V.int)) ∧ Stk st ∧
      dueGo 1 ns = dueGo st.sum.toNat (ns.drop i) ∧ (st.length : Int) ≤ 1 + countIn nodeKinds (ns.take i) ∧ dp ≤ 1 + countIn nodeKinds (ns.take i) ∧ (1 ≤ dp ∨ 0 < st.sum) ∧ st.length ≤ i + 1 ∧ (i = 0 → dp = 0) ∧ runD [1] 0 ns = runD st.reverse dp (ns.drop i)) ?_ (fun i σ H2 _ h => ?_) ?_ ?_⟩
    · refine ⟨[1], 0, none, none, rfl, s1, upd_same, ?_, rfl, ?_, ?_, .inr (by decide), Nat.le_refl _, fun _ => rfl, rfl⟩
      · intro x hx
        rw [List.mem_singleton.mp hx]
        decide
      · show (1 : Int) ≤ 1 + _
        omega
      · omega
    · obtain ⟨st, dp, x3, x4, _, s2, _⟩ := h
      exact (stk s2).seq hS
    · rintro i x σ H2 hi ⟨st, dp, x3, x4, rfl, s2, e2, hst, hdue, hsl, hdp, hor, hsi, _, hrun⟩
      obtain ⟨a, k, t, rfl, hk, ha⟩ := hN.get hi
      have hgn := hg _ (List.mem_of_getElem? hk)
      have hi9 : i < 1000 := by
        have := (List.getElem?_eq_some_iff.mp hi).1
        omega
      refine ⟨a, _, rfl, (stk s2).seq ha, rfl, _, _, rfl, _, _, rfl, rfl, ?_⟩
      refine ⟨fun m σ H3 => ∃ st' : List Int, m = st'.length ∧ σ = [some (.ref p), some (.ref l), some (.int dp), some (.str k), some t] ∧ Same H H3 ∧ H3 l = some (.lst (st'.map V.int)) ∧ Stk st' ∧ st'.sum = st.sum ∧ st'.length ≤ st.length ∧ popz st'.reverse = popz st.reverse, ⟨_, st, rfl, rfl, s2, e2, hst, rfl, Nat.le_refl _, rfl⟩, ?_⟩
      rintro m σ H3 ⟨st', rfl, rfl, s3, e3, hst', hsum, hl', hpz⟩
      have nH : H l = none := nl
      have keep : ∀ {H' : Hp} {o : HO}, Same H H' → Same H (upd H' l o) := fun {H' o} s b u eb => by
        rw [upd_ne (ne_of_none eb nH)]
        exact s b u eb
      have dr := drop_at hk
      rcases last_or (st := st') with rfl | ⟨pre, x, rfl⟩
      · -- nothing is missing any more
        refine ⟨_, rfl, false, .inl ⟨[], SqL.of e3, rfl⟩, ?_⟩
        refine iteF ?_
        refine ⟨_, rfl, false, .inl ⟨[], SqL.of e3, rfl⟩, ?_⟩
        refine iteT ?_
        refine q 0 H3 s3 ⟨fun z => by omega, fun z => ?_⟩ (by omega) ?_
        · rw [hdue, ← hsum, dr] at z
          cases z
        · rw [dr, run_none hpz.symm] at hrun
          unfold depthN
          rw [hrun]
          rfl
      · rw [map_last] at e3
        have hx0 : 0 ≤ x := hst' x (List.mem_append_right _ List.mem_cons_self)
        have hpre : Stk pre := fun y hy => hst' y (List.mem_append_left _ hy)
        have hsum : pre.sum + x = st.sum := by rw [← hsum, sum_set]
        have hl' : pre.length + 1 ≤ st.length := by rw [List.length_append] at hl'; exact hl'
        refine ⟨_, rfl, true, .inl ⟨_, SqL.of e3, by simp⟩, iteT ⟨_, rfl, _, rfl, l, _, (-1), .int x, rfl, rfl, SqL.of e3, atI_last, rfl, _, rfl, ?_⟩⟩
        by_cases hx : V.int x = V.int 0
        · rw [decide_eq_true hx]
          have hx : x = 0 := by injection hx
          refine iteT ⟨_, fun σ' H' h => h, ?_⟩
          refine ⟨_, rfl, .inl ⟨rfl, _, SqL.of e3⟩, l, _, .int x, rfl, rfl, e3, ?_, ?_⟩
          · rw [List.length_append, List.length_singleton, Nat.add_sub_cancel]
            exact List.getElem?_concat_length
          · rw [List.dropLast_concat]
            exact ⟨pre.length, by rw [List.length_append]; exact Nat.lt_succ_self _, pre, rfl, rfl, keep s3, upd_same, hpre, by omega, by omega, by rw [← hpz, List.reverse_append]; show _ = popz (x :: pre.reverse); rw [hx]; rfl⟩
        · rw [decide_eq_false hx]
          have hx : x ≠ 0 := fun e => hx (by rw [e])
          refine iteF ?_
          refine ⟨_, rfl, true, .inl ⟨_, SqL.of e3, by simp⟩, iteF ?_⟩
          refine ⟨_, rfl, _, rfl, l, _, (-1), .int x, rfl, rfl, SqL.of e3, atI_last, _, _, rfl, rfl, ?_⟩
          refine ⟨_, rfl, _, rfl, l, _, (-1), pre.length, rfl, rfl, e3, ?_, ?_⟩
          · rw [List.length_append, List.length_map]
            exact ixN_last _
          rw [set_last]
          have s4 : Same H (upd H3 l (.lst ((pre ++ [x - 1]).map V.int))) := keep s3
          have hst4 : Stk (pre ++ [x - 1]) := fun y hy => by
            rcases List.mem_append.mp hy with h | h
            · exact hpre y h
            · rw [List.mem_singleton.mp h]
              omega
          have hps := hpre.sum
          refine ⟨_, rfl, _, rfl, .inl ⟨l, _, rfl, .inl (SqL.of upd_same), _, _, rfl, ?_⟩⟩
          obtain ⟨d2, ed, hd1, hd2⟩ : ∃ d2 : Int, (if (((pre ++ [x - 1]).map V.int).length : Int) > dp then (((pre ++ [x - 1]).map V.int).length : Int) else dp) = d2 ∧ 1 ≤ d2 ∧ d2 ≤ 1 + countIn nodeKinds (ns.take i) := by
            refine ⟨_, rfl, ?_⟩
            rw [List.length_map, List.length_append, List.length_singleton]
            split <;> omega
          rw [ed]
          have hrs := run_step (d := dp) (n := (k, t)) (ns := ns.drop (i + 1)) (show popz st.reverse = x :: pre.reverse from by rw [← hpz, List.reverse_append]; exact popz_ne hx)
          rw [dr] at hrun
          rw [hrs] at hrun
          have ed2 : d2 = max dp ((pre.reverse.length : Int) + 1) := by
            rw [← ed, List.length_map, List.length_append, List.length_singleton, List.length_reverse]
            show (if ((pre.length + 1 : Nat) : Int) > dp then ((pre.length + 1 : Nat) : Int) else dp) = _
            rw [Int.max_def]
            split <;> split <;> omega
          have ct : countIn nodeKinds (ns.take (i + 1)) = countIn nodeKinds (ns.take i) + countIn nodeKinds [(k, t)] := by rw [take_succ' hk, countIn_app]
          refine ⟨_, rfl, k, rfl, rfl, _, rfl, ?_⟩
          cases ek : nodeKinds.contains k with
          | true =>
            obtain ⟨ti, rfl, ht2, ht4⟩ := good_int hgn ek
            rw [countIn_one, if_pos ek] at ct
            refine iteT ⟨_, rfl, .inl ⟨rfl, _, SqL.of upd_same⟩, _, rfl, l, _, .int ti, rfl, rfl, upd_same, small (by rw [List.length_map, List.length_append, List.length_singleton]; omega), ?_⟩
            rw [← map_last]
            refine ⟨(pre ++ [x - 1]) ++ [ti], d2, _, _, rfl, keep s4, upd_same, ?_, ?_, ?_, ?_, ?_, ?_, (fun e => by omega), ?_⟩
            · intro y hy
              rcases List.mem_append.mp hy with h | h
              · exact hst4 y h
              · rw [List.mem_singleton.mp h]
                omega
            · rw [hdue, dr, ← hsum, due_step (by omega), sum_set, sum_set]
              congr 2
              unfold partsN
              rw [if_pos ek]
              show pre.sum + x - 1 + ((ti.toNat : Nat) : Int) = _
              omega
            · rw [List.length_append, List.length_append, List.length_singleton, List.length_singleton]
              omega
            · omega
            · exact .inl hd1
            · rw [List.length_append, List.length_append, List.length_singleton, List.length_singleton]
              omega
            · rw [hrun, if_pos (show nodeKinds.contains (k, V.int ti).1 = true from ek), ← ed2, List.reverse_append, List.reverse_append]
              rfl
          | false =>
            rw [countIn_one, if_neg (by rw [ek]; exact Bool.false_ne_true)] at ct
            refine iteF ⟨pre ++ [x - 1], d2, _, _, rfl, s4, upd_same, hst4, ?_, ?_, ?_, ?_, ?_, (fun e => by omega), ?_⟩
            · rw [hdue, dr, ← hsum, due_step (by omega), sum_set]
              congr 2
              unfold partsN
              rw [if_neg (by rw [ek]; exact Bool.false_ne_true)]
              show pre.sum + x - 1 + 0 = _
              omega
            · rw [List.length_append, List.length_singleton]
              omega
            · omega
            · exact .inl hd1
            · rw [List.length_append, List.length_singleton]
              omega
            · rw [hrun, if_neg (show ¬ nodeKinds.contains (k, t).1 = true by rw [show nodeKinds.contains (k, t).1 = false from ek]; exact Bool.false_ne_true), ← ed2, List.reverse_append]
              rfl
    · rintro σ H2 ⟨st, dp, x3, x4, rfl, s2, e2, hst, hdue, hsl, hdp, hor, hsi, h0, hrun⟩
      refine ⟨_, rfl, l, st, rfl, SqL.of e2, rfl, _, rfl, ?_⟩
      rw [hxn, List.drop_length] at hdue
      rw [hxn, List.take_length] at hsl hdp
      have hs := hst.sum
      have hd : dueGo 1 ns = decide (st.sum.toNat = 0) := hdue
      rw [hxn, List.drop_length] at hrun
      have hrun : runD [1] 0 ns = (st.reverse.sum, dp) := hrun
      rw [sum_rev] at hrun
      refine ite2 (fun h => ?_) (fun h => ?_)
      · have h : V.int st.sum = V.int 0 := of_decide_eq_true h
        have h : st.sum = 0 := by injection h
        refine ⟨_, rfl, q dp H2 s2 ⟨fun _ => by rw [hd]; exact decide_eq_true (by omega), fun _ => by omega⟩ hdp (by unfold depthN; rw [hrun, if_pos h])⟩
      · have h : st.sum ≠ 0 := fun e => h (decide_eq_true (by rw [e]))
        exact q 0 H2 s2 ⟨fun z => by omega, fun z => by rw [hd] at z; have := of_decide_eq_true z; omega⟩ (by omega) (by unfold depthN; rw [hrun, if_neg h])
end
end Eh

set_option Elab.async false
set_option linter.all false
set_option maxRecDepth 100000
set_option maxHeartbeats 2000000
namespace Eh
open PySem PySem.Spec PyProof.Rows L2
/-! ### the depth of a tree is what the program finds -/
theorem run_pop {st st' : List Int} {d : Int} {ns : List (Str × V)} (h : popz st = popz st') (hs : st.sum = st'.sum) : runD st d ns = runD st' d ns := by
  cases ns with
  | nil => rw [runD, runD, hs]
  | cons n ns => rw [runD, runD, h]
mutual
/-- a tree in which each inner node has a part -/
def plFull : Pl → Bool
  | .leaf _ _ => true
  | .node _ ps => !ps.isEmpty && plsFull ps
def plsFull : List Pl → Bool
  | [] => true
  | p :: ps => plFull p && plsFull ps
end
mutual
theorem run_tree : ∀ {p : Pl}, plOk p = true → plFull p = true → ∀ (x : Int) (r : List Int) (d : Int) (rest : List (Str × V)), 1 ≤ x →
    runD (x :: r) d (nodesOf p ++ rest) = runD ((x - 1) :: r) (max d ((r.length : Int) + depthOf p)) rest
  | .leaf k t, h, _, x, r, d, rest, hx => by
    rw [plOk] at h
    rw [nodesOf, depthOf]
    show runD (x :: r) d ((k, t) :: rest) = _
    rw [run_step (popz_ne (by omega)), if_neg (fun z => by rw [show nodeKinds.contains k = true from z] at h; cases h)]
    rfl
  | .node k ps, h, f, x, r, d, rest, hx => by
    rw [plOk, Bool.and_eq_true] at h
    rw [plFull, Bool.and_eq_true] at f
    rw [nodesOf, depthOf]
    show runD (x :: r) d ((k, .int (ps.length : Int)) :: (nodesAll ps ++ rest)) = _
    rw [run_step (popz_ne (by omega)), if_pos h.1]
    show runD ((ps.length : Int) :: (x - 1) :: r) _ _ = _
    have hne : ps.isEmpty = false := by simpa using f.1
    rw [run_trees h.2 f.2 ((x - 1) :: r) _ rest, hne, if_neg Bool.false_ne_true]
    have e : max (max d ((r.length : Int) + 1)) ((((x - 1) :: r).length : Int) + depthAll ps) = max d ((r.length : Int) + ((1 + depthAll ps : Nat) : Int)) := by
      rw [List.length_cons]
      omega
    rw [e]
    refine run_pop ?_ ?_
    · show popz (0 :: (x - 1) :: r) = _
      rw [popz, if_pos rfl]
    · rw [List.sum_cons]
      omega
theorem run_trees : ∀ {ps : List Pl}, plsOk ps = true → plsFull ps = true → ∀ (r : List Int) (d : Int) (rest : List (Str × V)),
    runD ((ps.length : Int) :: r) d (nodesAll ps ++ rest) = runD (0 :: r) (max d (if ps.isEmpty = true then d else (r.length : Int) + depthAll ps)) rest
  | [], _, _, r, d, rest => by
    rw [nodesAll]
    show runD (0 :: r) d rest = runD (0 :: r) (max d (if true = true then d else _)) rest
    rw [if_pos rfl, Int.max_self]
  | p :: ps, h, f, r, d, rest => by
    rw [plsOk, Bool.and_eq_true] at h
    rw [plsFull, Bool.and_eq_true] at f
    rw [nodesAll, List.append_assoc, run_tree h.1 f.1 _ r d _ (by rw [List.length_cons]; omega)]
    have e1 : (((p :: ps).length : Int) - 1) = (ps.length : Int) := by
      rw [List.length_cons]
      omega
    rw [e1, run_trees h.2 f.2 r _ rest, depthAll]
    congr 1
    cases ps with
    | nil =>
      show max _ (if true = true then _ else _) = max d (if false = true then _ else _)
      rw [if_pos rfl, if_neg Bool.false_ne_true, depthAll]
      omega
    | cons q qs =>
      show max _ (if false = true then _ else _) = max d (if false = true then _ else _)
      rw [if_neg Bool.false_ne_true, if_neg Bool.false_ne_true]
      omega
end
theorem depth_tree {p : Pl} (h : plOk p = true) (f : plFull p = true) : depthN (nodesOf p) = depthOf p := by
  have e := run_tree h f 1 [] 0 [] (by decide)
  rw [List.append_nil] at e
  unfold depthN
  rw [e]
  show (if (([(1 : Int) - 1]).sum) = 0 then max 0 ((0 : Int) + depthOf p) else 0) = _
  rw [if_pos (by decide)]
  omega
mutual
theorem At.full {K : PySem.W.Frag} {H : Hp} : ∀ {v : V} {p : Pl}, At K H v p → plFull p = true
  | _, _, .leaf h o => by rw [plFull]
  | _, _, .node (ps := ps) h1 h2 o a b r => by
    rw [plFull, AtAll.full r]
    cases ps with
    | nil => exact absurd a (by decide)
    | cons _ _ => rfl
theorem AtAll.full {K : PySem.W.Frag} {H : Hp} : ∀ {vs : List V} {ps : List Pl}, AtAll K H vs ps → plsFull ps = true
  | _, _, .nil => by rw [plsFull]
  | _, _, .cons h r => by
    rw [plsFull, At.full h, AtAll.full r]
    rfl
end
end Eh

set_option Elab.async false
set_option linter.all false
set_option maxRecDepth 100000
set_option maxHeartbeats 2000000
namespace Eh
open PySem PySem.Spec PyProof.Rows L2
/-! ### the nodes of a promise within the bounds, just as the program judges them -/
/-- each text once -/
def nubS (zs : List Str) : List Str := zs.foldl (fun acc z => put z acc) []
theorem nub_fold : ∀ (zs acc : List Str), acc.Nodup → (zs.foldl (fun acc z => put z acc) acc).Nodup ∧ ∀ x, x ∈ zs.foldl (fun acc z => put z acc) acc ↔ x ∈ acc ∨ x ∈ zs
  | [], acc, h => ⟨h, fun x => by simp⟩
  | z :: zs, acc, h => by
    obtain ⟨a, b⟩ := nub_fold zs (put z acc) (nodup_put h)
    refine ⟨a, fun x => ?_⟩
    rw [List.foldl_cons, b x, mem_put, List.mem_cons]
    constructor
    · rintro ((h | h) | h)
      · exact .inr (.inl h)
      · exact .inl h
      · exact .inr (.inr h)
    · rintro (h | h | h)
      · exact .inl (.inr h)
      · exact .inl (.inl h)
      · exact .inr h
theorem nub_len {ys zs : List Str} (nd : ys.Nodup) (h : ∀ z, z ∈ ys ↔ z ∈ zs) : ys.length = (nubS zs).length := by
  obtain ⟨a, b⟩ := nub_fold zs [] List.nodup_nil
  have m : ∀ x, x ∈ nubS zs ↔ x ∈ zs := fun x => by
    unfold nubS
    rw [b x]
    simp
  have u1 := nodup_le nd (us := nubS zs) fun z hz => (m z).mpr ((h z).mp hz)
  have u2 := nodup_le a (us := ys) fun z hz => (h z).mpr ((m z).mp hz)
  have u2 : (nubS zs).length ≤ ys.length := u2
  omega
def boundB (ns : List (Str × V)) : Bool := decide ((nubS (factsN ns)).length ≤ 6) && decide (countIn choiceKinds ns ≤ 10) && (decide (1 ≤ depthN ns) && decide (depthN ns ≤ 8))
def areB (nds : List (Option (Str × V))) : Bool := decide (nds.length ≤ 40) && (nds.all Option.isSome && boundB (nds.filterMap id))
inductive NodesW (K : PySem.W.Frag) (H : Hp) : V → Bool → Prop
  | other {v : V} : NoT H v → NodesW K H v false
  | tup {p : Addr} {xs : List V} {nds : List (Option (Str × V))} : SqT K H p xs → NdAll K H xs nds → NodesW K H (.ref p) (areB nds)
section
variable {P : Program} {w : World} {K : PySem.W.Frag} {mg : Str → Option Value} {base : Heap}
def spAreE (K : PySem.W.Frag) : Sp := fun vs H Q _ => ∃ v b, vs = [v] ∧ NodesW K H v b ∧ ∀ H', Same H H' → Q (.bl b) H'
theorem ok_are_nodesE {fN fF fC fD f : Addr} {fdN fdF fdC fdD fd : FuncData} (F : Fun K "_are_nodes" "_are_nodes" s__are_nodes f fd) (T : Txt mg)
    (c40 : ∃ t, mg "MAX_NODES" = some (.int 40 t)) (c6 : ∃ t, mg "MAX_FACTS" = some (.int 6 t)) (c10 : ∃ t, mg "MAX_CHOICES" = some (.int 10 t)) (c8 : ∃ t, mg "MAX_DEPTH" = some (.int 8 t))
    (C_is_node : Cal P w K mg base 2 "is_node" fN fdN ["value"] (spIsNode K)) (C_facts_of : Cal P w K mg base 1 "facts_of" fF fdF ["nodes"] (spFacts K)) (C_choices_of : Cal P w K mg base 1 "choices_of" fC fdC ["nodes"] (spChoices K)) (C_depth_of : Cal P w K mg base 1 "depth_of" fD fdD ["nodes"] (spDepthE K)) :
    FnOk P w K mg base CX0 3 f fd ["value"] (spAreE K) := by
  obtain ⟨t40, e40⟩ := c40
  obtain ⟨t6, e6⟩ := c6
  obtain ⟨t10, e10⟩ := c10
  obtain ⟨t8, e8⟩ := c8
  refine F.ok sc__are_nodes (fun vs H Q E h => ?_) (fun cdv A outer s H vs Q E hr h => ?_)
  · obtain ⟨v, b, rfl, _⟩ := h
    rfl
  · obtain ⟨v, b, rfl, hv, q⟩ := h
    have hr1 := hr.mono (j := 1) (by omega)
    refine ⟨_, (pss_cons (ps_if (PW.pt (pw_or (pt_not (pt_val (pe_callB (isiQ (K := K) rfl) (by rfl) T.isinstance_ (by decide +kernel) (pa_cons (pv 0) (pa_cons (pe_bltn (v := .ty "tuple") (by rfl) T.tuple_ (by decide +kernel) rfl) pa_nil))))) (pw_or1 (pt_cmpR op_gt (pe_callB (lenQ (K := K) rfl) (by rfl) T.len_ (by decide +kernel) (pa_cons (pv 0) pa_nil)) (pe_glob (v := .int 40) rfl e40 ⟨_, rfl⟩) (nomark _)))))
  (pss_one (ps_ret pe_bl))
  pss_nil)
  (pss_cons (ps_if (pt_not (pt_val (pe_callB (allQ (K := K) rfl (by rfl)) (by rfl) T.all_ (by decide +kernel) (pa_cons (pe_lc (own := [("node", 1)]) (g := gName 1) (by rfl) sc__are_nodes.nd (pi_tup (pv 0)) (blkOk_by (by kernel_rfl)) (fun _ _ _ _ _ => (pg_name (i := 1) sc__are_nodes.nd rfl (.inl rfl))) (fun _ _ _ _ _ => pts_nil) (fun _ _ _ _ _ => (pe_call C_is_node.G hr (by rfl) C_is_node.m C_is_node.k C_is_node.b .nil pass0 (pa_cons (pv 1) pa_nil)))) pa_nil))))
  (pss_one (ps_ret pe_bl))
  pss_nil)
  (pss_cons (ps_if (PW.pt (pw_or (pt_cmpR op_gt (pe_callB (lenQ (K := K) rfl) (by rfl) T.len_ (by decide +kernel) (pa_cons (pe_call C_facts_of.G hr1 (by rfl) C_facts_of.m C_facts_of.k C_facts_of.b .nil pass0 (pa_cons (pv 0) pa_nil)) pa_nil)) (pe_glob (v := .int 6) rfl e6 ⟨_, rfl⟩) (nomark _)) (pw_or1 (pt_cmpR op_gt (pe_call C_choices_of.G hr1 (by rfl) C_choices_of.m C_choices_of.k C_choices_of.b .nil pass0 (pa_cons (pv 0) pa_nil)) (pe_glob (v := .int 10) rfl e10 ⟨_, rfl⟩) (nomark _)))))
  (pss_one (ps_ret pe_bl))
  pss_nil)
  (pss_one (ps_ret (pe_chain op_le op_le pe_int (pe_call C_depth_of.G hr1 (by rfl) C_depth_of.m C_depth_of.k C_depth_of.b .nil pass0 (pa_cons (pv 0) pa_nil)) (pe_glob (v := .int 8) rfl e8 ⟨_, rfl⟩))))))), ?_⟩
    cases hv with
    | other hno =>
      obtain ⟨u, ty, hk⟩ := hno.ty (K := K)
      exact ⟨_, rfl, v, .ty "tuple", _, .type "tuple", false, rfl, .ty _, ty, hk, _, rfl, iteT (q _ (Same.refl H))⟩
    | tup hs hn =>
      rename_i p xs nds
      have hlen := hn.length
      refine ⟨_, rfl, .ref p, .ty "tuple", _, .type "tuple", true, rfl, .ty _, ty_tup hs, kitTT, _, rfl, iteF ⟨_, rfl, .inl ⟨p, xs, rfl, .inr hs, _, 40, rfl, rfl, _, rfl, ite2 (fun h => ?_) (fun h => ?_)⟩⟩⟩
      · have h : (40 : Int) < xs.length := of_decide_eq_true h
        have eb : areB nds = false := by
          unfold areB
          rw [decide_eq_false (show ¬ nds.length ≤ 40 by omega)]
          rfl
        have q' := q _ (Same.refl H)
        rw [eb] at q'
        exact q'
      have hx40 : xs.length ≤ 40 := by
        have : ¬ (40 : Int) < xs.length := fun z => h (decide_eq_true z)
        omega
      have q : ∀ H', Same H H' → Q (.bl (nds.all Option.isSome && boundB (nds.filterMap id))) H' := fun H' s => by
        have q' := q H' s
        unfold areB at q'
        rw [decide_eq_true (show nds.length ≤ 40 by omega), Bool.true_and] at q'
        exact q'
      refine ⟨_, rfl, p, rfl, ⟨xs, hs⟩, fun D nD => ?_⟩
      have s1 : Same H (upd H D (.lst [])) := same_new nD
      refine lcT (K := K) (a := p) (xs := xs) (fun j acc H2 => Same H H2 ∧ acc = ((nds.take j).map Option.isSome).map V.bl) ⟨s1, rfl⟩ (fun j acc H2 h => (stk h.1).seq hs) ?_ ?_
      · rintro j x acc H2 hx hl e ⟨s2, ea⟩
        obtain ⟨n, en, hnd⟩ := hn.get hx
        have hj : j < 60 := by
          have := (List.getElem?_eq_some_iff.mp hx).1
          omega
        refine yesT ⟨_, rfl, x, n, rfl, hnd.ku (ku_same s2), fun H3 s3 => ?_⟩
        refine LcK.mk hl (by omega) (s3 _ _ e) ⟨fun b o eb => ?_, ?_⟩
        · rw [upd_ne (ne_of_none eb nD)]
          exact s3 _ _ (s2 b o eb)
        · rw [ea, take_succ' en, List.map_append, List.map_append]
          rfl
      · rintro acc H2 hl e ⟨s2, ea⟩
        refine ⟨D, _, rfl, SqL.of (e.trans (by rw [ea])), ?_⟩
        rw [hlen, List.take_length, List.all_map]
        cases ha : nds.all (id ∘ Option.isSome) with
        | false =>
          refine ⟨_, rfl, iteT ?_⟩
          have q' := q _ s2
          rw [show nds.all Option.isSome = false from ha, Bool.false_and] at q'
          exact q'
        | true =>
          obtain ⟨ns, en⟩ := all_some ha
          subst en
          obtain ⟨N, hg⟩ := hn.nds
          have hnl := N.length
          have q : ∀ H', Same H H' → Q (.bl (boundB ns)) H' := fun H' s => by
            have q' := q H' s
            rw [filterMap_some, show (ns.map some).all Option.isSome = true from ha, Bool.true_and] at q'
            exact q'
          refine ⟨_, rfl, iteF ?_⟩
          refine ⟨_, rfl, p, xs, ns, rfl, (stk s2).seq hs, N.tk (stk s2), hg, by omega, fun ys p3 H3 s3 n3 e3 nd so mem => ?_⟩
          have hys : ys.length = (nubS (factsN ns)).length := nub_len nd mem
          have s4 := s2.trans s3
          refine .inl ⟨p3, _, rfl, .inr (SqT.of e3), _, 6, rfl, rfl, _, rfl, ?_⟩
          rw [List.length_map, hys]
          by_cases h6 : (nubS (factsN ns)).length ≤ 6
          · rw [decide_eq_false (by omega)]
            refine iteF ?_
            refine ⟨_, rfl, p, xs, ns, rfl, (stk s4).seq hs, N.tk (stk s4), by omega, fun H5 s5 => ?_⟩
            have s6 := s4.trans s5
            refine ⟨_, 10, rfl, rfl, _, rfl, ?_⟩
            by_cases h10 : countIn choiceKinds ns ≤ 10
            · rw [decide_eq_false (by omega)]
              refine iteF ?_
              refine ⟨_, rfl, p, xs, ns, rfl, (stk s6).seq hs, N.tk (stk s6), hg, by omega, fun dd H7 s7 d1 d2 d3 => ?_⟩
              have q' := q _ (s6.trans s7)
              unfold boundB at q'
              rw [decide_eq_true h6, decide_eq_true h10, Bool.true_and, Bool.true_and, ← d3] at q'
              refine ⟨1, dd, rfl, rfl, _, rfl, ?_⟩
              cases e1 : decide ((1 : Int) ≤ dd) with
              | false =>
                rw [e1, Bool.false_and] at q'
                exact iteF q'
              | true =>
                rw [e1, Bool.true_and] at q'
                exact iteT ⟨dd, 8, rfl, rfl, q'⟩
            · rw [decide_eq_true (by omega)]
              refine iteT ?_
              have q' := q _ s6
              unfold boundB at q'
              rw [decide_eq_false h10, Bool.and_false, Bool.false_and] at q'
              exact q'
          · rw [decide_eq_true (by omega)]
            refine iteT ?_
            have q' := q _ s4
            unfold boundB at q'
            rw [decide_eq_false h6, Bool.false_and, Bool.false_and] at q'
            exact q'
end
end Eh

set_option Elab.async false
set_option linter.all false
set_option maxRecDepth 100000
set_option maxHeartbeats 2000000
namespace Eh
open PySem PySem.Spec PyProof.Rows L2
/-! ### promises of any good nodes, made or refused -/
theorem asc_fact {z : Str} (h : factS z = true) : Asc z := by
  unfold factS at h
  simp only [Bool.and_eq_true] at h
  have h8 := (of_decide_eq_true h.1.1.1).2
  refine ⟨by omega, fun c hc => ?_⟩
  have := List.all_eq_true.mp h.2 c hc
  unfold low at this
  have := of_decide_eq_true this
  omega
theorem good_eltG {K : PySem.W.Frag} {H : Hp} {k : Str} {t : V} (h : nodeAB k t = true) : Elt K H (.str k) ∧ Elt K H t := by
  refine ⟨eltS k (asc_kind h), ?_⟩
  cases t with
  | str z => exact .inl ⟨z, rfl, asc_fact (node_str h)⟩
  | int i => exact eltI i
  | bl b => exact eltB b
  | non => exact eltN
  | _ =>
    exfalso
    unfold nodeAB at h
    split at h
    · cases h
    · split at h
      · cases h
      · rw [Bool.and_eq_true] at h
        cases h.2
theorem nds_allG {K : PySem.W.Frag} {H : Hp} : ∀ {xs : List V} {ns : List (Str × V)}, NdsAt K H xs ns → GoodN ns → NdAll K H xs (ns.map some)
  | _, _, .nil, _ => .nil
  | _, _, .cons (k := k) (t := t) (ns := ns) h r, g => by
    have hg := g _ List.mem_cons_self
    obtain ⟨e1, e2⟩ := good_eltG (K := K) (H := H) hg
    have e : pairNd (.str k) t = some (k, t) := by
      show (if nodeAB k t = true then some (k, t) else none) = _
      rw [if_pos hg]
    have p := NdV.pair h e1 e2
    rw [e] at p
    exact .cons p (nds_allG r fun n hn => g n (List.mem_cons_of_mem _ hn))
theorem NodesW.ku {K : PySem.W.Frag} {H H' : Hp} {v : V} {b : Bool} (h : NodesW K H v b) (k : Ku H H') : NodesW K H' v b := by
  cases h with
  | other t => exact .other (t.ku k)
  | tup h n => exact .tup (k.tk.seq h) (n.ku k)
/-- whether good nodes are those of a promise -/
def okB (ns : List (Str × V)) : Bool := decide (ns.length ≤ 40) && boundB ns
theorem are_some (ns : List (Str × V)) : areB (ns.map some) = okB ns := by
  unfold areB okB
  rw [List.length_map, filterMap_some, show (ns.map some).all Option.isSome = true from by rw [List.all_map]; exact List.all_eq_true.mpr fun _ _ => rfl, Bool.true_and]
theorem good_W {K : PySem.W.Frag} {H : Hp} {p : Addr} {ys : List V} {ns : List (Str × V)} (hs : SqT K H p ys) (hN : NdsAt K H ys ns) (g : GoodN ns) : NodesW K H (.ref p) (okB ns) := by
  have h := NodesW.tup hs (nds_allG hN g)
  rw [are_some] at h
  exact h
/-- a promise with good nodes -/
def PrG (K : PySem.W.Frag) (C : Addr) (H : Hp) (a : Addr) (ns : List (Str × V)) : Prop := ∃ dx p xs, H a = some (.ins C dx [(("_nodes" : Str), .ref p)]) ∧ SqT K H p xs ∧ NdsAt K H xs ns ∧ GoodN ns
section
variable {P : Program} {w : World} {K : PySem.W.Frag} {mg : Str → Option Value} {base : Heap}
def spInitE (K : PySem.W.Frag) (C CE : Addr) : Sp := fun vs H Q E => ∃ x dx v b, vs = [.ref x, v] ∧ H x = some (.ins C dx []) ∧ NodesW K H v b ∧
  (b = true → ∀ H', But x H H' → H' x = some (.ins C dx [(("_nodes" : Str), v)]) → Q .non H') ∧ (b = false → ∀ H', Same H H' → E (.ref CE) none H')
theorem ok_initE {C fL CE fA f : Addr} {fdA fd : FuncData} (F : Fun K "__init__" "Promise.__init__" s_Promise___init__ f fd) (T : Txt mg) (R : ErrC K mg "InvalidPromise" CE) (PC : PromC K mg C f fL)
    (C__are_nodes : Cal P w K mg base 3 "_are_nodes" fA fdA ["value"] (spAreE K)) : FnOk P w K mg base (L2.CX P w) 4 f fd ["self", "nodes"] (spInitE K C CE) := by
  refine F.okX sc_Promise___init__ (fun vs H Q E h => ?_) (fun cdv A outer s H vs Q E hr h => ?_)
  · obtain ⟨x, dx, v, b, rfl, _⟩ := h
    rfl
  · obtain ⟨x, dx, v, b, rfl, ex, hv, q1, q2⟩ := h
    refine ⟨_, (pss_cons (ps_if (pt_not (pt_val (pe_call C__are_nodes.G hr (by rfl) C__are_nodes.m C__are_nodes.k C__are_nodes.b .nil pass0 (pa_cons (pv 1) pa_nil))))
      (pss_one (ps_raise rfl (takes_of rfl rfl rfl rfl) (pmk_own PySem.F.excBase_ValueError R.q R.g R.k (raises_own R.b R.t) rfl))) pss_nil)
      (pss_one (ps_fld (pv 0) (pv 1) rfl))), ?_⟩
    refine ⟨_, rfl, v, b, rfl, hv, fun H1 s1 => ⟨_, rfl, ?_⟩⟩
    cases b with
    | false => exact iteT (q2 rfl H1 s1)
    | true =>
      refine iteF ?_
      refine ⟨_, rfl, _, rfl, x, C, dx, [], rfl, s1 _ _ ex, PC.cl, PC.nn, by decide, ?_⟩
      exact q1 rfl _ (fun b o n e => by rw [upd_ne n]; exact s1 b o e) upd_same
/-- what is laid by making, and what __init__ leaves -/
theorem made_steps {K : PySem.W.Frag} {C x dx p : Addr} {H H4 : Hp} {ys : List V} {ns : List (Str × V)} (nx : H x = none) (nd : H dx = none) (hs : SqT K H p ys) (hN : NdsAt K H ys ns) (g : GoodN ns)
    (bt : But x (upd (upd H dx (.own x)) x (.ins C dx [])) H4) (e4 : H4 x = some (.ins C dx [(("_nodes" : Str), .ref p)])) : Same H H4 ∧ PrG K C H4 x ns := by
  have s3 : Same H (upd (upd H dx (.own x)) x (.ins C dx [])) := fun b o e => by
    rw [upd_ne (ne_of_none e nx), upd_ne (ne_of_none e nd)]
    exact e
  have s4 : Same H H4 := fun b o e => bt b o (ne_of_none e nx) (s3 b o e)
  exact ⟨s4, dx, p, ys, e4, (stk s4).seq hs, hN.tk (stk s4), g⟩
def spMadeE (K : PySem.W.Frag) (C CE : Addr) (n : Nat) : Sp := fun vs H Q E => ∃ v pl, vs = [v] ∧ At K H v pl ∧ GoodN (nodesOf pl) ∧ (nodesOf pl).length ≤ n ∧ n < 1000 ∧
  (okB (nodesOf pl) = true → ∀ x H', Same H H' → H x = none → PrG K C H' x (nodesOf pl) → Q (.ref x) H') ∧ (okB (nodesOf pl) = false → ∀ H', Same H H' → E (.ref CE) none H')
end
end Eh

set_option Elab.async false
set_option linter.all false
set_option maxRecDepth 100000
set_option maxHeartbeats 2000000
namespace Eh
open PySem PySem.Spec PyProof.Rows L2
section
variable {P : Program} {w : World} {K : PySem.W.Frag} {mg : Str → Option Value} {base : Heap}
/-- the promise of a plain one, or the error where it is beyond a bound -/
theorem ok_madeE {n : Nat} {fN fI fL C CE f : Addr} {fdN fdI fd : FuncData} (F : Fun K "_law_made" "_law_made" s__law_made f fd) (T : Txt mg) (PC : PromC K mg C fI fL) (C__law_nodes : Cal P w K mg base (n + 1) "_law_nodes" fN fdN ["plain"] (spNodes K n))
    (GI : FnOk P w K mg base (L2.CX P w) 4 fI fdI ["self", "nodes"] (spInitE K C CE)) (bI : Binds K fdI ["self", "nodes"] []) : FnOk P w K mg base (L2.CX P w) (n + 6) f fd ["plain"] (spMadeE K C CE n) := by
  refine F.okX sc__law_made (fun vs H Q E h => ?_) (fun cdv A outer s H vs Q E hr h => ?_)
  · obtain ⟨v, pl, rfl, _⟩ := h
    rfl
  · obtain ⟨v, pl, rfl, hA, gd, hl, hn, q1, q2⟩ := h
    have hr1 := hr.mono (j := n + 1) (by omega)
    have hr5 := hr.mono (j := 5) (by omega)
    refine ⟨_, (pss_one (ps_ret (pe_makeS PC.mkC GI hr5 (by rfl) PC.g bI (fun σ => passAt (takes_of rfl rfl rfl rfl) σ) (pa_cons (pe_callTy call_tuple_of (by rfl) T.tuple_ (by decide +kernel) (pa_cons (pe_call C__law_nodes.G hr1 (by rfl) C__law_nodes.m C__law_nodes.k C__law_nodes.b .nil pass0 (pa_cons (pv 0) pa_nil)) pa_nil)) pa_nil)))), ?_⟩
    refine ⟨_, rfl, v, pl, rfl, hA, hl, by omega, fun xs l H1 s1 n1 e1 N1 => ?_⟩
    refine ⟨l, xs, rfl, .inl ⟨SqL.of e1, fun p np => fun x dx nx nd ne => ?_⟩⟩
    have s2 : Same H (upd H1 p (.tup xs)) := s1.trans (same_new np)
    have h2 : SqT K (upd H1 p (.tup xs)) p xs := SqT.of upd_same
    have N2 := N1.tk (Tk.new (o := .tup xs) np)
    generalize upd H1 p (.tup xs) = H2 at s2 h2 N2 nx nd ⊢
    have u3 : Same H2 (upd (upd H2 dx (.own x)) x (.ins C dx [])) := fun b' o' eb => by
      rw [upd_ne (ne_of_none eb nx), upd_ne (ne_of_none eb nd)]
      exact eb
    refine ⟨x, dx, .ref p, okB (nodesOf pl), rfl, upd_same, (good_W h2 N2 gd).ku (ku_same u3), fun eb H4 bt e4 => ⟨rfl, ?_⟩, fun eb H4 s4 => ?_⟩
    · obtain ⟨s5, pr⟩ := made_steps nx nd h2 N2 gd bt e4
      exact q1 eb x H4 (s2.trans s5) (s2.free nx) pr
    · exact q2 eb H4 (s2.trans (u3.trans s4))
end
end Eh

set_option Elab.async false
set_option linter.all false
set_option maxRecDepth 100000
set_option maxHeartbeats 2000000
namespace Eh
open PySem PySem.Spec PyProof.Rows L2
theorem goodAll_app {a b : List (Str × V)} (h : GoodN a) (k : GoodN b) : GoodN (a ++ b) := fun n hn => (List.mem_append.mp hn).elim (h n) (k n)
theorem good_two {k : Str} {p q : Pl} (hk : nodeOk k = true) (hp : GoodN (nodesOf p)) (hq : GoodN (nodesOf q)) : GoodN (nodesOf (.node k [p, q])) := by
  rw [nodesOf]
  intro n hn
  rcases List.mem_cons.mp hn with e | e
  · rw [e]
    unfold nodeAB
    have f := node_not_fact (k := k) hk
    rw [f.1, f.2, show nodeKinds.contains k = true from hk]
    rfl
  · rw [nodesAll, nodesAll, nodesAll, List.append_nil] at e
    exact goodAll_app hp hq n e
section
variable {P : Program} {w : World} {K : PySem.W.Frag} {mg : Str → Option Value} {base : Heap}
def spBoth (K : PySem.W.Frag) (C CE : Addr) : Sp := fun vs H Q E => ∃ k a b p q, vs = [.str k, .ref a, .ref b] ∧ nodeOk k = true ∧ PrG K C H a (nodesOf p) ∧ PrG K C H b (nodesOf q) ∧ (nodesOf p).length < 300 ∧ (nodesOf q).length < 300 ∧
  (okB (nodesOf (.node k [p, q])) = true → ∀ x H', Same H H' → H x = none → PrG K C H' x (nodesOf (.node k [p, q])) → Q (.ref x) H') ∧ (okB (nodesOf (.node k [p, q])) = false → ∀ H', Same H H' → E (.ref CE) none H')
theorem ok_of_both {fJ fI fL fN pN C CE CO f : Addr} {fdJ fdI fdN fd : FuncData} (F : Fun K "_of_both" "_of_both" s__of_both f fd) (T : Txt mg) (PC : PromC K mg C fI fL) (IC : IsC K C) (RO : ErrC K mg "InvalidOperation" CO) (C_joined : Cal P w K mg base 1 "joined" fJ fdJ ["kind", "parts"] (spJoined K))
    (GI : FnOk P w K mg base (L2.CX P w) 4 fI fdI ["self", "nodes"] (spInitE K C CE)) (bI : Binds K fdI ["self", "nodes"] []) (PN : PropOf K C "nodes" pN fN) (GN : FnOk P w K mg base CX0 1 fN fdN ["self"] (spNodesP K C)) (bN : Binds K fdN ["self"] []) :
    FnOk P w K mg base (L2.CX P w) 6 f fd ["kind", "one", "other"] (spBoth K C CE) := by
  refine F.okX sc__of_both (fun vs H Q E h => ?_) (fun cdv A outer s H vs Q E hr h => ?_)
  · obtain ⟨k, a, b, p, q, rfl, _⟩ := h
    rfl
  · obtain ⟨k, a, b, p, q, rfl, hk, ⟨dxa, pa, xa, ea, sa, Na, ga⟩, ⟨dxb, pb, xb, eb, sb, Nb, gb⟩, la, lb, q1, q2⟩ := h
    have hr1 := hr.mono (j := 1) (by omega)
    have hr2 := hr.mono (j := 2) (by omega)
    refine ⟨_, (pss_cons (ps_if (pt_not (pt_val (pe_callB (isiQ (K := K) rfl) (by rfl) T.isinstance_ (by decide +kernel) (pa_cons (pv 2) (pa_cons (pe_glob (v := .ref C) rfl PC.g rfl) pa_nil)))))
      (pss_one (ps_raise rfl (takes_of rfl rfl rfl rfl) (pmk_own PySem.F.excBase_ValueError RO.q RO.g RO.k (raises_own RO.b RO.t) rfl))) pss_nil)
      (pss_one (ps_ret (pe_makeS PC.mkC GI hr (by rfl) PC.g bI (fun σ => passAt (takes_of rfl rfl rfl rfl) σ) (pa_cons (pe_call C_joined.G hr1 (by rfl) C_joined.m C_joined.k C_joined.b .nil pass0 (pa_cons (pv 0) (pa_cons (pe_lst (pa_cons (pe_prop (pv 1) PC.cl PN GN hr2 bN .nil pass0 rfl) (pa_cons (pe_prop (pv 2) PC.cl PN GN hr2 bN .nil pass0 rfl) pa_nil))) pa_nil))) pa_nil))))), ?_⟩
    refine ⟨_, rfl, .ref b, .ref C, .ref C, .ref C, true, rfl, .own _, .base (.ins eb PC.cl IC.cls IC.sp IC.tk IC.mro), IC.self, _, rfl, iteF ?_⟩
    refine ⟨_, rfl, _, rfl, a, dxa, _, rfl, ea, a, dxa, _, pa, rfl, ea, rfl, ?_⟩
    refine ⟨_, rfl, b, dxb, _, rfl, eb, b, dxb, _, pb, rfl, eb, rfl, lenOk 2, fun l nl => ?_⟩
    have s1 : Same H (upd H l (.lst [.ref pa, .ref pb])) := same_new nl
    have t1 := stk s1
    refine ⟨k, l, _, [p, q], rfl, SqL.of upd_same, .cons (t1.seq sa) (Na.tk t1) (.cons (t1.seq sb) (Nb.tk t1) .nil), ?_, fun r ys H2 s2 n2 e2 N2 => ?_⟩
    · rw [nodesAll, nodesAll, nodesAll, List.append_nil, List.length_append]
      omega
    refine fun x dx nx nd ne => ?_
    have g2 := good_two hk ga gb
    have h2 : SqT K H2 r ys := SqT.of e2
    have s12 := s1.trans s2
    have u3 : Same H2 (upd (upd H2 dx (.own x)) x (.ins C dx [])) := fun b' o' eb => by
      rw [upd_ne (ne_of_none eb nx), upd_ne (ne_of_none eb nd)]
      exact eb
    refine ⟨x, dx, .ref r, okB (nodesOf (.node k [p, q])), rfl, upd_same, (good_W h2 N2 g2).ku (ku_same u3), fun eo H4 bt e4 => ⟨rfl, ?_⟩, fun eo H4 s4 => ?_⟩
    · obtain ⟨s5, pr⟩ := made_steps nx nd h2 N2 g2 bt e4
      exact q1 eo x H4 (s12.trans s5) (s12.free nx) pr
    · exact q2 eo H4 (s12.trans (u3.trans s4))
end
end Eh

set_option Elab.async false
set_option linter.all false
set_option maxRecDepth 100000
set_option maxHeartbeats 2000000
namespace Eh
open PySem PySem.Spec PyProof.Rows L2
/-! ### equality of any good nodes -/
def NGd (n : Str × V) : Prop := nodeAB n.1 n.2 = true
theorem told_casesG {n : Str × V} (h : NGd n) : (∃ z, n.2 = .str z ∧ factS z = true) ∨ ∃ i, n.2 = .int i := by
  obtain ⟨k, t⟩ := n
  have h : nodeAB k t = true := h
  cases t with
  | str z => exact .inl ⟨z, rfl, node_str h⟩
  | int i => exact .inr ⟨i, rfl⟩
  | _ =>
    exfalso
    have hg : nodeAB k _ = true := h
    unfold nodeAB at hg
    split at hg
    · cases hg
    · split at hg
      · cases hg
      · rw [Bool.and_eq_true] at hg
        cases hg.2
theorem dp_nodeG {K : PySem.W.Frag} {H : Hp} {a : Addr} {n : Str × V} (h : SqT K H a [.str n.1, n.2]) (o : NGd n) : Dp K H (.ref a) (nodeD n) := by
  refine .tup h (.cons (.str n.1) (.cons ?_ .nil))
  rcases told_casesG o with ⟨z, e, _⟩ | ⟨i, e⟩
  · rw [e]
    exact .str z
  · rw [e]
    exact .int i
theorem dp_nodesG {K : PySem.W.Frag} {H : Hp} : ∀ {xs : List V} {ns : List (Str × V)}, NdsAt K H xs ns → (∀ n ∈ ns, NGd n) → DpAll K H xs (ns.map nodeD)
  | _, _, .nil, _ => .nil
  | _, _, .cons (k := k) (t := t) h r, o => .cons (dp_nodeG (n := (k, t)) h (o _ List.mem_cons_self)) (dp_nodesG r fun n hn => o n (List.mem_cons_of_mem _ hn))
theorem told_eqvG {a b : Str × V} (ha : NGd a) (hb : NGd b) : PyData.eqv (toldD a.2) (toldD b.2) = decide (a.2 = b.2) := by
  rcases told_casesG ha with ⟨z, e, _⟩ | ⟨i, e⟩ <;> rcases told_casesG hb with ⟨y, e', _⟩ | ⟨j, e'⟩ <;> rw [e, e']
  · show (z == y) = _
    rw [sbeq]
    exact decide_eq_decide.mpr ⟨fun h => by rw [h], fun h => by injection h⟩
  · show false = _
    exact (decide_eq_false (fun h => by cases h)).symm
  · show false = _
    exact (decide_eq_false (fun h => by cases h)).symm
  · show (i == j) = _
    rw [show (i == j) = decide (i = j) from by rw [Bool.eq_iff_iff, beq_iff_eq, decide_eq_true_iff]]
    exact decide_eq_decide.mpr ⟨fun h => by rw [h], fun h => by injection h⟩
theorem node_eqvG {a b : Str × V} (ha : NGd a) (hb : NGd b) : PyData.eqv (nodeD a) (nodeD b) = decide (a = b) := by
  show ((a.1 == b.1) && (PyData.eqv (toldD a.2) (toldD b.2) && true)) = _
  rw [told_eqvG ha hb, Bool.and_true, sbeq, Bool.eq_iff_iff, Bool.and_eq_true, decide_eq_true_iff, decide_eq_true_iff, decide_eq_true_iff]
  exact ⟨fun h => Prod.ext h.1 h.2, fun h => by rw [h]; exact ⟨rfl, rfl⟩⟩
theorem nodes_eqvAllG : ∀ {ns ms : List (Str × V)}, (∀ n ∈ ns, NGd n) → (∀ n ∈ ms, NGd n) → PyData.eqvAll (ns.map nodeD) (ms.map nodeD) = decide (ns = ms)
  | [], [], _, _ => rfl
  | [], b :: ms, _, _ => rfl
  | a :: ns, [], _, _ => rfl
  | a :: ns, b :: ms, ha, hb => by
    have ih := nodes_eqvAllG (fun n hn => ha n (List.mem_cons_of_mem _ hn)) (fun n hn => hb n (List.mem_cons_of_mem _ hn)) (ns := ns) (ms := ms)
    show (PyData.eqv (nodeD a) (nodeD b) && PyData.eqvAll (ns.map nodeD) (ms.map nodeD)) = _
    rw [ih, node_eqvG (ha a List.mem_cons_self) (hb b List.mem_cons_self), Bool.eq_iff_iff, Bool.and_eq_true, decide_eq_true_iff, decide_eq_true_iff, decide_eq_true_iff]
    exact ⟨fun h => by rw [h.1, h.2], fun h => by injection h with h1 h2; exact ⟨h1, h2⟩⟩
theorem nodes_eqvG {ns ms : List (Str × V)} (ha : ∀ n ∈ ns, NGd n) (hb : ∀ n ∈ ms, NGd n) : PyData.eqv (nodesD ns) (nodesD ms) = decide (ns = ms) := nodes_eqvAllG ha hb
theorem told_layG {n : Str × V} (h : NGd n) : PyData.canLay0 (toldD n.2) = true ∧ PyData.depth (toldD n.2) = 0 := by
  rcases told_casesG h with ⟨z, e, hz⟩ | ⟨i, e⟩
  · rw [e]
    refine ⟨?_, rfl⟩
    have ha := asc_fact hz
    show (z.cps.all fun c => decide (c < 0x110000)) = true
    rw [← Array.all_toList]
    exact List.all_eq_true.mpr fun c hc => decide_eq_true (by have := ha.2 c hc; omega)
  · rw [e]
    exact ⟨rfl, rfl⟩
theorem nodes_layAllG : ∀ {ns : List (Str × V)}, (∀ n ∈ ns, NGd n) → PyData.canLayAll0 (ns.map nodeD) = true ∧ PyData.depthAll (ns.map nodeD) ≤ 1
  | [], _ => ⟨rfl, Nat.zero_le _⟩
  | a :: ns, h => by
    obtain ⟨i1, i2⟩ := nodes_layAllG (fun n hn => h n (List.mem_cons_of_mem _ hn) : ∀ n ∈ ns, NGd n)
    have ha := h a List.mem_cons_self
    obtain ⟨t1, t2⟩ := told_layG ha
    have d1 : PyData.depth (nodeD a) = 1 := by
      show max 0 (max (PyData.depth (toldD a.2)) 0) + 1 = 1
      rw [t2]
      rfl
    refine ⟨?_, ?_⟩
    · show ((PyData.canLay0 (.str a.1) && (PyData.canLay0 (toldD a.2) && true)) && PyData.canLayAll0 (ns.map nodeD)) = true
      rw [kind_lay ha, t1, i1]
      rfl
    · show max (PyData.depth (nodeD a)) (PyData.depthAll (ns.map nodeD)) ≤ 1
      rw [d1]
      omega
theorem nodes_shapedG {ns : List (Str × V)} (h : ∀ n ∈ ns, NGd n) : SeqAt.shaped (nodesD ns) = true := by
  obtain ⟨a, b⟩ := nodes_layAllG h
  unfold SeqAt.shaped
  rw [show PyData.canLay0 (nodesD ns) = true from a, Bool.true_and]
  refine decide_eq_true ?_
  show PyData.depthAll (ns.map nodeD) + 1 ≤ 64
  omega
section
variable {P : Program} {w : World} {K : PySem.W.Frag} {mg : Str → Option Value} {base : Heap}
def spEqG (K : PySem.W.Frag) (C : Addr) : Sp := fun vs H Q _ => ∃ a b ns ms, vs = [.ref a, .ref b] ∧ PrG K C H a ns ∧ PrG K C H b ms ∧ Q (.bl (decide (ns = ms))) H
theorem ok_eqG {C fI fL f : Addr} {fd : FuncData} (F : Fun K "__eq__" "Promise.__eq__" s_Promise___eq__ f fd) (T : Txt mg) (PC : PromC K mg C fI fL) (IC : IsC K C) : FnOk P w K mg base CX0 1 f fd ["self", "value"] (spEqG K C) := by
  refine F.ok sc_Promise___eq__ (fun vs H Q E h => ?_) (fun cdv A outer s H vs Q E hr h => ?_)
  · obtain ⟨a, b, ns, ms, rfl, _⟩ := h
    rfl
  · obtain ⟨a, b, ns, ms, rfl, ⟨dx, p, xs, ha, hs, hN, ho⟩, ⟨dy, r, ys, hb, hs2, hN2, ho2⟩, q⟩ := h
    refine ⟨_, (pss_one (ps_ret (pe_and (pe_callB (isiQ (K := K) rfl) (by rfl) T.isinstance_ (by decide +kernel) (pa_cons (pv 1) (pa_cons (pe_glob (v := .ref C) rfl PC.g rfl) pa_nil))) (pe_one (pe_cmpR (eqD (K := K) rfl (hu64e hr)) (pe_fld (pv 0) rfl) (pe_fld (pv 1) rfl) (nomark _)))))), ?_⟩
    refine ⟨_, rfl, .ref b, .ref C, .ref C, .ref C, true, rfl, .own _, .base (.ins hb PC.cl IC.cls IC.sp IC.tk IC.mro), IC.self, _, rfl, iteT ?_⟩
    refine ⟨_, rfl, a, C, dx, _, .ref p, rfl, ha, PC.cl, PC.nn, rfl, _, rfl, b, C, dy, _, .ref r, rfl, hb, PC.cl, PC.nn, rfl, ?_⟩
    refine ⟨nodesD ns, nodesD ms, .tup hs (dp_nodesG hN ho), .tup hs2 (dp_nodesG hN2 ho2), nodes_shapedG ho, nodes_shapedG ho2, ?_⟩
    rw [nodes_eqvG ho ho2]
    exact q
end
end Eh

set_option Elab.async false
set_option linter.all false
set_option maxRecDepth 100000
set_option maxHeartbeats 2000000
namespace Eh
open PySem PySem.Spec PyProof.Rows L2
/-! ### whether nodes stand within others -/
theorem slA {X : Cx} {K : PySem.W.Frag} (h : X.K = K) : SlR X (rSlA K) := by subst h; exact sl_tupA
theorem anyQ {X : Cx} {K : PySem.W.Frag} (h : X.K = K) (hc : X.calm = true) : CallR X (.builtin "any") (rAny K) := by subst h; exact cr_any hc
theorem cutD (xs : List V) (a b : Nat) (h : a ≤ xs.length) (h2 : a ≤ b) : cutV xs (some (a : Int)) (some (b : Int)) = (xs.drop a).take (b - a) := by
  unfold cutV
  rw [HT.sIx_nat, HT.sIx_nat, Nat.min_eq_left h]
  by_cases hb : b ≤ xs.length
  · rw [Nat.min_eq_left hb]
  · rw [Nat.min_eq_right (by omega), List.take_of_length_le (by rw [List.length_drop]; exact Nat.le_refl _), List.take_of_length_le (by rw [List.length_drop]; omega)]
def hasAt (ns ms : List (Str × V)) (i : Nat) : Bool := decide ((ns.drop i).take ms.length = ms)
def hasB (ns ms : List (Str × V)) : Bool := ((List.range ns.length).map (hasAt ns ms)).any id
section
variable {P : Program} {w : World} {K : PySem.W.Frag} {mg : Str → Option Value} {base : Heap}
def spHas (K : PySem.W.Frag) : Sp := fun vs H Q _ => ∃ p r xs ys ns ms, vs = [.ref p, .ref r] ∧ SqT K H p xs ∧ NdsAt K H xs ns ∧ GoodN ns ∧ SqT K H r ys ∧ NdsAt K H ys ms ∧ GoodN ms ∧ xs.length < 1000 ∧ ys.length < 1000 ∧ ∀ H', Same H H' → Q (.bl (hasB ns ms)) H'
theorem ok_has_part {f : Addr} {fd : FuncData} (F : Fun K "has_part" "has_part" s_has_part f fd) (T : Txt mg) : FnOk P w K mg base CX0 1 f fd ["nodes", "part"] (spHas K) := by
  refine F.ok sc_has_part (fun vs H Q E h => ?_) (fun cdv A outer s H vs Q E hr h => ?_)
  · obtain ⟨p, r, xs, ys, ns, ms, rfl, _⟩ := h
    rfl
  · obtain ⟨p, r, xs, ys, ns, ms, rfl, hs, hN, g, hs2, hM, g2, hl, hl2, q⟩ := h
    refine ⟨_, (pss_cons (ps_set (i := 2) sc_has_part.nd rfl (.inr rfl) (pe_callB (lenQ (K := K) rfl) (by rfl) T.len_ (by decide +kernel) (pa_cons (pv 1) pa_nil)))
  (pss_one (ps_ret (pe_callB (anyQ (K := K) rfl (by rfl)) (by rfl) T.any_ (by decide +kernel) (pa_cons (pe_lc (own := [("start", 3)]) (g := gName 3) (by rfl) sc_has_part.nd (pi_range1 (by rfl) T.range_ (pa_cons (pe_callB (lenQ (K := K) rfl) (by rfl) T.len_ (by decide +kernel) (pa_cons (pv 0) pa_nil)) pa_nil)) (blkOk_by (by kernel_rfl)) (fun _ _ _ _ _ => (pg_name (i := 3) sc_has_part.nd rfl (.inl rfl))) (fun _ _ _ _ _ => pts_nil) (fun _ _ _ _ _ => (pe_cmpR (eqD (K := K) rfl (hu64e hr)) (pe_slice (slA (K := K) rfl) (pv 0) (po_some (pv 3)) (po_some (pe_op op_add (pv 3) (pv 2)))) (pv 1) (nomark _)))) pa_nil))))), ?_⟩
    have hxn := hN.length
    have hym := hM.length
    refine ⟨_, rfl, .inl ⟨r, ys, rfl, .inr hs2, ?_⟩⟩
    refine ⟨_, rfl, .inl ⟨p, xs, rfl, .inr hs, xs.length, rfl, by omega, by omega, fun D nD => ?_⟩⟩
    have s1 : Same H (upd H D (.lst [])) := same_new nD
    have nDH : H D = none := nD
    refine lcR (fun j acc H2 => Same H H2 ∧ acc = ((List.range j).map (hasAt ns ms)).map V.bl) ⟨s1, rfl⟩ ?_ ?_
    · rintro j acc H2 hj hl3 e ⟨s2, ea⟩
      have hj' : j < xs.length := by
        have := hj
        omega
      have fin : ∀ z zs H3, Same H2 H3 → SqT K H3 z zs → NdsAt K H3 zs ((ns.drop j).take ms.length) → (∃ d e', Dp K H3 (.ref z) d ∧ Dp K H3 (.ref r) e' ∧ SeqAt.shaped d = true ∧ SeqAt.shaped e' = true ∧ LcK (fun j acc H2 => Same H H2 ∧ acc = ((List.range j).map (hasAt ns ms)).map V.bl) D j (.bl (PyData.eqv d e')) H3) := fun z zs H3 s3 hz hzN => by
        have gz : ∀ n ∈ (ns.drop j).take ms.length, NGd n := fun n hn => g n (List.mem_of_mem_drop (List.mem_of_mem_take hn))
        refine ⟨nodesD ((ns.drop j).take ms.length), nodesD ms, .tup hz (dp_nodesG hzN gz), .tup ((stk (s2.trans s3)).seq hs2) (dp_nodesG (hM.tk (stk (s2.trans s3))) g2), nodes_shapedG gz, nodes_shapedG g2, ?_⟩
        rw [nodes_eqvG gz g2]
        refine LcK.mk hl3 (by omega) (s3 _ _ e) ⟨fun b o eb => ?_, ?_⟩
        · rw [upd_ne (ne_of_none eb nDH)]
          exact s3 _ _ (s2 b o eb)
        · rw [ea, List.range_succ, List.map_append, List.map_append]
          rfl
      have ei : ((0 : Int) + (j : Int)) = (j : Int) := Int.zero_add _
      rw [ei]
      have ej : ((j : Int) + (ys.length : Int)) = ((j + ys.length : Nat) : Int) := rfl
      refine ⟨_, rfl, _, rfl, _, rfl, _, rfl, _, rfl, _, _, rfl, rfl, _, rfl, p, xs, rfl, (stk s2).seq hs, fun hw => ?_, fun _ z nz => ?_⟩
      · rw [ej, HT.sIx_nat, HT.sIx_nat] at hw
        have h0 : j = 0 := by omega
        subst h0
        have hn : xs.length ≤ ys.length := by omega
        refine ⟨_, rfl, fin p xs H2 (Same.refl _) ((stk s2).seq hs) ?_⟩
        rw [List.drop_zero, List.take_of_length_le (by omega)]
        exact hN.tk (stk s2)
      · rw [ej, cutD xs _ _ (by omega) (by omega), Nat.add_sub_cancel_left]
        have s3 := same_new (o := .tup ((xs.drop j).take ys.length)) nz
        refine ⟨_, rfl, fin z _ _ s3 (SqT.of upd_same) ?_⟩
        rw [← hym]
        exact ((hN.tk (stk (s2.trans s3))).drop j).take _
    · rintro acc H2 hl3 e ⟨s2, ea⟩
      refine ⟨D, _, rfl, SqL.of (e.trans (by rw [ea])), ?_⟩
      have q' := q _ s2
      unfold hasB at q'
      rw [← hxn] at q'
      exact q'
end
end Eh

set_option Elab.async false
set_option linter.all false
set_option maxRecDepth 100000
set_option maxHeartbeats 2000000
namespace Eh
open PySem PySem.Spec PyProof.Rows L2
/-! ### the nodes tell the tree -/
mutual
theorem nodes_inj : ∀ {p q : Pl} {r r' : List (Str × V)}, plOk p = true → plOk q = true → nodesOf p ++ r = nodesOf q ++ r' → p = q ∧ r = r'
  | .leaf k t, .leaf k' t', r, r', _, _, e => by
    rw [nodesOf, nodesOf] at e
    have e : (k, t) :: r = (k', t') :: r' := e
    injection e with e1 e2
    injection e1 with e3 e4
    exact ⟨by rw [e3, e4], e2⟩
  | .leaf k t, .node k' ps, r, r', h, h', e => by
    rw [nodesOf, nodesOf] at e
    have e : (k, t) :: r = (k', .int (ps.length : Int)) :: (nodesAll ps ++ r') := e
    injection e with e1 _
    injection e1 with e3 _
    rw [plOk] at h
    rw [plOk, Bool.and_eq_true] at h'
    rw [e3, h'.1] at h
    cases h
  | .node k ps, .leaf k' t', r, r', h, h', e => by
    rw [nodesOf, nodesOf] at e
    have e : (k, .int (ps.length : Int)) :: (nodesAll ps ++ r) = (k', t') :: r' := e
    injection e with e1 _
    injection e1 with e3 _
    rw [plOk] at h'
    rw [plOk, Bool.and_eq_true] at h
    rw [← e3, h.1] at h'
    cases h'
  | .node k ps, .node k' qs, r, r', h, h', e => by
    rw [nodesOf, nodesOf] at e
    have e : (k, V.int (ps.length : Int)) :: (nodesAll ps ++ r) = (k', V.int (qs.length : Int)) :: (nodesAll qs ++ r') := e
    injection e with e1 e2
    injection e1 with e3 e4
    injection e4 with e4
    rw [plOk, Bool.and_eq_true] at h h'
    obtain ⟨a, b⟩ := nodesAll_inj h.2 h'.2 (by omega) e2
    exact ⟨by rw [e3, a], b⟩
theorem nodesAll_inj : ∀ {ps qs : List Pl} {r r' : List (Str × V)}, plsOk ps = true → plsOk qs = true → ps.length = qs.length → nodesAll ps ++ r = nodesAll qs ++ r' → ps = qs ∧ r = r'
  | [], [], r, r', _, _, _, e => by
    rw [nodesAll] at e
    exact ⟨rfl, e⟩
  | [], q :: qs, _, _, _, _, l, _ => by cases l
  | p :: ps, [], _, _, _, _, l, _ => by cases l
  | p :: ps, q :: qs, r, r', h, h', l, e => by
    rw [plsOk, Bool.and_eq_true] at h h'
    rw [nodesAll, nodesAll, List.append_assoc, List.append_assoc] at e
    obtain ⟨a, b⟩ := nodes_inj h.1 h'.1 e
    obtain ⟨c, d⟩ := nodesAll_inj h.2 h'.2 (by injection l) b
    exact ⟨by rw [a, c], d⟩
end
theorem nodes_eq {p q : Pl} (h : plOk p = true) (h' : plOk q = true) : nodesOf p = nodesOf q ↔ p = q :=
  ⟨fun e => (nodes_inj (r := []) (r' := []) h h' (by rw [e])).1, fun e => by rw [e]⟩
/-! the tree as data -/
mutual
def dataOf : Pl → PyData
  | .leaf k t => .tuple [.str k, toldD t]
  | .node k ps => .tuple [.str k, .tuple (dataAll ps)]
def dataAll : List Pl → List PyData
  | [] => []
  | p :: ps => dataOf p :: dataAll ps
end
/-- a tree with good leaves -/
def LeafG : List (Str × V) → Prop := fun ns => ∀ n ∈ ns, NGd n
mutual
theorem dp_tree {K : PySem.W.Frag} {H : Hp} : ∀ {v : V} {p : Pl}, At K H v p → LeafG (nodesOf p) → Dp K H v (dataOf p)
  | _, _, .leaf (k := k) (t := t) h o, g => by
    rw [dataOf]
    rw [nodesOf] at g
    have hn := g (k, t) List.mem_cons_self
    refine .tup h (.cons (.str k) (.cons ?_ .nil))
    rcases told_casesG hn with ⟨z, e, _⟩ | ⟨i, e⟩
    · have e : t = .str z := e
      rw [e]
      exact .str z
    · have e : t = .int i := e
      rw [e]
      exact .int i
  | _, _, .node (k := k) h1 h2 o a b r, g => by
    rw [dataOf]
    rw [nodesOf] at g
    exact .tup h1 (.cons (.str k) (.cons (.tup h2 (dp_trees r fun n hn => g n (List.mem_cons_of_mem _ hn))) .nil))
theorem dp_trees {K : PySem.W.Frag} {H : Hp} : ∀ {vs : List V} {ps : List Pl}, AtAll K H vs ps → LeafG (nodesAll ps) → DpAll K H vs (dataAll ps)
  | _, _, .nil, _ => by
    rw [dataAll]
    exact .nil
  | _, _, .cons h r, g => by
    rw [dataAll]
    rw [nodesAll] at g
    exact .cons (dp_tree h fun n hn => g n (List.mem_append_left _ hn)) (dp_trees r fun n hn => g n (List.mem_append_right _ hn))
end
end Eh

set_option Elab.async false
set_option linter.all false
set_option maxRecDepth 100000
set_option maxHeartbeats 2000000
namespace Eh
open PySem PySem.Spec PyProof.Rows L2
/-! ### equality of plain promises -/
theorem told_tup {n : Str × V} (h : NGd n) (ds : List PyData) : PyData.eqv (toldD n.2) (.tuple ds) = false ∧ PyData.eqv (.tuple ds) (toldD n.2) = false := by
  rcases told_casesG h with ⟨z, e, _⟩ | ⟨i, e⟩
  · rw [e]
    exact ⟨rfl, rfl⟩
  · rw [e]
    exact ⟨rfl, rfl⟩
mutual
theorem tree_eqv : ∀ {p q : Pl}, LeafG (nodesOf p) → LeafG (nodesOf q) → (PyData.eqv (dataOf p) (dataOf q) = true ↔ p = q)
  | .leaf k t, .leaf k' t', g, g' => by
    rw [nodesOf] at g g'
    rw [dataOf, dataOf]
    show ((k == k') && (PyData.eqv (toldD t) (toldD t') && true)) = true ↔ _
    rw [told_eqvG (g (k, t) List.mem_cons_self) (g' (k', t') List.mem_cons_self), Bool.and_true, Bool.and_eq_true, beq_iff_eq, decide_eq_true_iff]
    exact ⟨fun h => by rw [h.1, show t = t' from h.2], fun h => by injection h with h1 h2; exact ⟨h1, h2⟩⟩
  | .leaf k t, .node k' qs, g, g' => by
    rw [nodesOf] at g
    rw [dataOf, dataOf]
    show ((k == k') && (PyData.eqv (toldD t) (.tuple (dataAll qs)) && true)) = true ↔ _
    rw [show PyData.eqv (toldD t) (.tuple (dataAll qs)) = false from (told_tup (g (k, t) List.mem_cons_self) _).1, Bool.false_and, Bool.and_false]
    exact ⟨(fun h => nomatch h), (fun h => nomatch h)⟩
  | .node k ps, .leaf k' t', g, g' => by
    rw [nodesOf] at g'
    rw [dataOf, dataOf]
    show ((k == k') && (PyData.eqv (.tuple (dataAll ps)) (toldD t') && true)) = true ↔ _
    rw [show PyData.eqv (.tuple (dataAll ps)) (toldD t') = false from (told_tup (g' (k', t') List.mem_cons_self) _).2, Bool.false_and, Bool.and_false]
    exact ⟨(fun h => nomatch h), (fun h => nomatch h)⟩
  | .node k ps, .node k' qs, g, g' => by
    rw [nodesOf] at g g'
    have ih := trees_eqv (fun n hn => g n (List.mem_cons_of_mem _ hn) : LeafG (nodesAll ps)) (fun n hn => g' n (List.mem_cons_of_mem _ hn) : LeafG (nodesAll qs))
    rw [dataOf, dataOf]
    show ((k == k') && (PyData.eqvAll (dataAll ps) (dataAll qs) && true)) = true ↔ _
    rw [Bool.and_true, Bool.and_eq_true, beq_iff_eq, ih]
    exact ⟨fun h => by rw [h.1, h.2], fun h => by injection h with h1 h2; exact ⟨h1, h2⟩⟩
theorem trees_eqv : ∀ {ps qs : List Pl}, LeafG (nodesAll ps) → LeafG (nodesAll qs) → (PyData.eqvAll (dataAll ps) (dataAll qs) = true ↔ ps = qs)
  | [], [], _, _ => by
    rw [dataAll]
    exact ⟨fun _ => rfl, fun _ => rfl⟩
  | [], q :: qs, _, _ => by
    rw [dataAll, dataAll]
    exact ⟨(fun h => nomatch h), (fun h => nomatch h)⟩
  | p :: ps, [], _, _ => by
    rw [dataAll, dataAll]
    exact ⟨(fun h => nomatch h), (fun h => nomatch h)⟩
  | p :: ps, q :: qs, g, g' => by
    rw [nodesAll] at g g'
    have i1 := tree_eqv (fun n hn => g n (List.mem_append_left _ hn) : LeafG (nodesOf p)) (fun n hn => g' n (List.mem_append_left _ hn) : LeafG (nodesOf q))
    have i2 := trees_eqv (fun n hn => g n (List.mem_append_right _ hn) : LeafG (nodesAll ps)) (fun n hn => g' n (List.mem_append_right _ hn) : LeafG (nodesAll qs))
    rw [dataAll, dataAll]
    show (PyData.eqv (dataOf p) (dataOf q) && PyData.eqvAll (dataAll ps) (dataAll qs)) = true ↔ _
    rw [Bool.and_eq_true, i1, i2]
    exact ⟨fun h => by rw [h.1, h.2], fun h => by injection h with h1 h2; exact ⟨h1, h2⟩⟩
end
mutual
theorem tree_lay : ∀ {p : Pl}, LeafG (nodesOf p) → PyData.canLay0 (dataOf p) = true ∧ PyData.depth (dataOf p) ≤ 2 * depthOf p
  | .leaf k t, g => by
    rw [nodesOf] at g
    have hn := g (k, t) List.mem_cons_self
    obtain ⟨t1, t2⟩ := told_layG hn
    rw [dataOf, depthOf]
    refine ⟨?_, ?_⟩
    · show (PyData.canLay0 (.str k) && (PyData.canLay0 (toldD t) && true)) = true
      rw [kind_lay (show nodeAB k t = true from hn), show PyData.canLay0 (toldD t) = true from t1]
      rfl
    · show max 0 (max (PyData.depth (toldD t)) 0) + 1 ≤ 2 * 1
      rw [show PyData.depth (toldD t) = 0 from t2]
      decide
  | .node k ps, g => by
    rw [nodesOf] at g
    have hn := g (k, .int (ps.length : Int)) List.mem_cons_self
    obtain ⟨i1, i2⟩ := trees_lay (fun n hn => g n (List.mem_cons_of_mem _ hn) : LeafG (nodesAll ps))
    rw [dataOf, depthOf]
    refine ⟨?_, ?_⟩
    · show (PyData.canLay0 (.str k) && (PyData.canLayAll0 (dataAll ps) && true)) = true
      rw [kind_lay (show nodeAB k (.int (ps.length : Int)) = true from hn), i1]
      rfl
    · show max 0 (max (PyData.depthAll (dataAll ps) + 1) 0) + 1 ≤ 2 * (1 + depthAll ps)
      omega
theorem trees_lay : ∀ {ps : List Pl}, LeafG (nodesAll ps) → PyData.canLayAll0 (dataAll ps) = true ∧ PyData.depthAll (dataAll ps) ≤ 2 * depthAll ps
  | [], _ => by
    rw [dataAll, depthAll]
    exact ⟨rfl, Nat.le_refl _⟩
  | p :: ps, g => by
    rw [nodesAll] at g
    obtain ⟨a1, a2⟩ := tree_lay (fun n hn => g n (List.mem_append_left _ hn) : LeafG (nodesOf p))
    obtain ⟨b1, b2⟩ := trees_lay (fun n hn => g n (List.mem_append_right _ hn) : LeafG (nodesAll ps))
    rw [dataAll, depthAll]
    refine ⟨?_, ?_⟩
    · show (PyData.canLay0 (dataOf p) && PyData.canLayAll0 (dataAll ps)) = true
      rw [a1, b1]
      rfl
    · show max (PyData.depth (dataOf p)) (PyData.depthAll (dataAll ps)) ≤ 2 * max (depthOf p) (depthAll ps)
      omega
end
theorem tree_shaped {p : Pl} (g : LeafG (nodesOf p)) (d : depthOf p ≤ 32) : SeqAt.shaped (dataOf p) = true := by
  obtain ⟨a, b⟩ := tree_lay g
  unfold SeqAt.shaped
  rw [a, Bool.true_and]
  exact decide_eq_true (by omega)
end Eh

set_option Elab.async false
set_option linter.all false
set_option maxRecDepth 100000
set_option maxHeartbeats 2000000
namespace Eh
open PySem PySem.Spec PyProof.Rows L2
/-! ### equal promises, for the rules of HandS.OwnEq (== of promises, and of lists of them, where it is true) -/
def SamePr (K : PySem.W.Frag) (C : Addr) : Addr → Addr → Hp → Prop := fun a b H => ∃ ns, PrG K C H a ns ∧ PrG K C H b ns
section
variable {P : Program} {w : World} {K : PySem.W.Frag} {mg : Str → Option Value} {base : Heap}
theorem ok_eqS {C f : Addr} {fd : FuncData} (G : FnOk P w K mg base CX0 1 f fd ["self", "value"] (spEqG K C)) : FnOk P w K mg base CX0 1 f fd ["self", "value"] (spEq (SamePr K C)) :=
  G.imp fun vs H Q E h => by
    obtain ⟨a, b, rfl, ⟨ns, ha, hb⟩, q⟩ := h
    refine ⟨a, b, ns, ns, rfl, ha, hb, ?_⟩
    rw [decide_eq_true rfl]
    exact q H Ext.rfl'
theorem same_ext {C a b : Addr} {H H' : Hp} (e : Ext H H') (h : SamePr K C a b H) : SamePr K C a b H' := by
  obtain ⟨ns, ⟨dx, p, xs, e1, hs, hN, g⟩, ⟨dy, r, ys, e2, hs2, hN2, g2⟩⟩ := h
  have s : Same H H' := e
  exact ⟨ns, ⟨dx, p, xs, s _ _ e1, (stk s).seq hs, hN.tk (stk s), g⟩, ⟨dy, r, ys, s _ _ e2, (stk s).seq hs2, hN2.tk (stk s), g2⟩⟩
end
end Eh

set_option Elab.async false
set_option linter.all false
set_option maxRecDepth 100000
set_option maxHeartbeats 4000000
/-! _copied of a plain value; an own error's __init__ that keeps a field; such an error raised -/
namespace Eh
open PySem PySem.Spec PyProof.Rows L2
open NdefX (NF NScope startF envF ncx nscope_by)
def FlatK (v : V) : Prop := v = .non ∨ (∃ b, v = .bl b) ∨ (∃ i, v = .int i) ∨ ∃ z, v = .str z
theorem flat_ty {K : PySem.W.Frag} {H : Hp} {v : V} (h : FlatK v) : ∃ t : String, TyX K H v (.type t) ∧ PySem.W.kitOne K (.type t) (.type "list") = some false ∧ PySem.W.kitOne K (.type t) (.type "tuple") = some false ∧ PySem.W.kitOne K (.type t) (.type "dict") = some false := by
  rcases h with rfl | ⟨b, rfl⟩ | ⟨i, rfl⟩ | ⟨z, rfl⟩
  · exact ⟨_, .base .non, kit_ty (by decide +kernel), kit_ty (by decide +kernel), kit_ty (by decide +kernel)⟩
  · exact ⟨_, .base (.bl b), kit_ty (by decide +kernel), kit_ty (by decide +kernel), kit_ty (by decide +kernel)⟩
  · exact ⟨_, .base (.int i), kit_ty (by decide +kernel), kit_ty (by decide +kernel), kit_ty (by decide +kernel)⟩
  · exact ⟨_, .base (.str z), kit_ty (by decide +kernel), kit_ty (by decide +kernel), kit_ty (by decide +kernel)⟩
section
variable {P : Program} {w : World} {K : PySem.W.Frag} {mg : Str → Option Value} {base : Heap}
def spCopied1 : Sp := fun vs H Q _ => ∃ v, vs = [v] ∧ FlatK v ∧ Q v H
theorem ok_copied1 {f : Addr} {fd : FuncData} (F : Fun K "_copied" "_copied" s__copied f fd) (T : Txt mg) : FnOk P w K mg base CX0 1 f fd ["value"] spCopied1 := by
  refine F.ok sc__copied (fun vs H Q E h => ?_) (fun cdv A outer s H vs Q E hr h => ?_)
  · obtain ⟨v, rfl, _⟩ := h
    rfl
  · obtain ⟨v, rfl, hv, q⟩ := h
    obtain ⟨t, ty, t1, t2, t3⟩ := flat_ty (K := K) (H := H) hv
    refine ⟨_, (pss_cons (ps_if (pt_val (pe_callB (isiQ (K := K) rfl) (by rfl) T.isinstance_ (by decide +kernel) (pa_cons (pv 0) (pa_cons (pe_bltn (v := .ty "list") (by rfl) T.list_ (by decide +kernel) rfl) pa_nil)))) (pss_one ps_never) pss_nil)
      (pss_cons (ps_if (pt_val (pe_callB (isiQ (K := K) rfl) (by rfl) T.isinstance_ (by decide +kernel) (pa_cons (pv 0) (pa_cons (pe_bltn (v := .ty "tuple") (by rfl) T.tuple_ (by decide +kernel) rfl) pa_nil)))) (pss_one ps_never) pss_nil)
      (pss_cons (ps_if (pt_val (pe_callB (isiQ (K := K) rfl) (by rfl) T.isinstance_ (by decide +kernel) (pa_cons (pv 0) (pa_cons (pe_bltn (v := .ty "dict") (by rfl) T.dict_ (by decide +kernel) rfl) pa_nil)))) (pss_one ps_never) pss_nil)
      (pss_one (ps_ret (pv 0)))))), ?_⟩
    refine ⟨_, rfl, v, .ty "list", .type t, .type "list", false, rfl, .ty _, ty, t1, _, rfl, iteF ?_⟩
    refine ⟨_, rfl, v, .ty "tuple", .type t, .type "tuple", false, rfl, .ty _, ty, t2, _, rfl, iteF ?_⟩
    refine ⟨_, rfl, v, .ty "dict", .type t, .type "dict", false, rfl, .ty _, ty, t3, _, rfl, iteF ?_⟩
    exact ⟨_, rfl, q⟩
def spKeep1 (C : Addr) (f : Str) : Sp := fun vs H Q _ => ∃ a v, vs = [.ref a, v] ∧ H a = some (exo a C none) ∧ FlatK v ∧ ∀ dx, H dx = none → dx ≠ a → Q .non (upd (upd H dx (exd dx [(f, v)])) a (exo a C (some dx)))
theorem ok_keep1 {F : NF} {f fC C : Addr} {fd fdC : FuncData} {B newId initId : String} {bmB : List Value} {x fld msg : Str} {ar : Arg} {j : Nat} {p0 p1 p2 p3 p4 p5 q0 q1 q2 q3 q4 q5 : Pos} {pl : Env → Sem Bool} (BF : BaseF B newId initId bmB) (T : OexB K C B newId initId bmB) (hm : mg "super" = none) (I0 : InitE P K C f F fd)
    (S : NScope ["self", x, "__class__"] ["self", x] ["__class__"] F.scope)
    (hbody : F.body = [.Expr (.Call (.Attribute (.Call (.Name "super" p0) [] [] p1) "__init__" p2) [.Constant (.str msg) j p3] [] p4) p5, .Assign [.Attribute (.Name "self" q0) fld q1] (.Call (.Name "_copied" q2) [.Name x q3] [] q4) q5])
    (hp : (F.params.posonlyargs ++ F.params.args).head? = some ar) (ha : ar.arg = "self") (hks : F.scope.names.lookup ("super" : Str) = some .globalImplicit) (hkc : F.scope.names.lookup ("__class__" : Str) = some .free) (hcg : F.scope.names.lookup ("_copied" : Str) = some .globalImplicit) (hlen : msg.length ≤ 1000)
    (hx1 : (x == ("__debug__" : Str)) = false) (hx2 : (x == ("__classdict__" : Str)) = false) (hno : PySem.W.takerIn K C fld = some none)
    (hc : ∀ env : Env, eval (.Call (.Attribute (.Call (.Name "super" p0) [] [] p1) "__init__" p2) [.Constant (.str msg) j p3] [] p4) env = (do
      let ov ← attributeBase (.Call (.Name "super" p0) [] [] p1) "__init__" env (eval (.Call (.Name "super" p0) [] [] p1) env)
      standAt p2.atName
      let (f, first) ← holding [ov] (getMethod ov "__init__" (pl env))
      callWith p4 f first (backTo p4 (starEach [.Constant (.str msg) j p3] env)) []))
    (C__copied : Cal P w K mg base 1 "_copied" fC fdC ["value"] spCopied1) : FnOk P w K mg base CX0 2 f fd ["self", x] (spKeep1 C fld) := by
  refine fn_init BF T hm I0 S hbody hp (by rw [ha]; rfl) hks hkc hlen hc (fun vs H Q E h => ?_) (fun vs H Q E h => ?_) fun A outer s H vs Q E hr h => ?_
  · obtain ⟨a, v, rfl, _⟩ := h
    rfl
  · obtain ⟨a, v, rfl, ea, _⟩ := h
    exact ⟨a, _, rfl, ea⟩
  · obtain ⟨a, v, rfl, ea, hv, q⟩ := h
    have vs_ : Vis F.scope "self" := .inl (S.par _ (by simp))
    have vx : Vis F.scope x := .inl (S.par _ (by simp))
    refine ⟨_, pss_one (ps_keep (X := ncx CX0 P w K mg base ["self", x, "__class__"] F f A outer s H E) BF T hno (pe_var (i := 0) rfl vs_ (by decide) (by decide)) (pe_call C__copied.G hr hcg C__copied.m C__copied.k C__copied.b .nil pass0 (pa_cons (pe_var (i := 1) rfl vx hx1 hx2) pa_nil))), ?_⟩
    exact ⟨_, rfl, v, rfl, hv, _, rfl, a, rfl, ea, fun dx nd ne => q dx nd ne⟩
end
theorem keep_end {H : Hp} {a dx C : Addr} {f : Str} {v : V} (na : H a = none) (nd : (upd H a (exo a C none)) dx = none) (ne : dx ≠ a) :
    Same H (upd (del (upd (upd (upd H a (exo a C none)) dx (exd dx [(f, v)])) a (exo a C (some dx))) a) dx (.xd [(f, v)])) := fun b o e => by
  have n1 : b ≠ a := ne_of_none e na
  have n2 : b ≠ dx := fun z => by
    rw [← z, upd_ne n1, e] at nd
    cases nd
  rw [upd_ne n2, del_ne n1, upd_ne n1, upd_ne n2, upd_ne n1]
  exact e
/-- C(v): what the raise leaves -/
theorem mk_keep {C : Addr} {f : Str} {v : V} {H : Hp} {Q : XK} (hv : FlatK v) (q : ∀ d H', Same H H' → H d = none → H' d = some (.xd [(f, v)]) → Q (.ref C) (some d) H') :
    ∀ a, H a = none → spKeep1 C f [.ref a, v] (upd H a (exo a C none)) (fun w H2 => w = .non ∧ ∃ (d : Addr) (fs : List (Str × V)), H2 a = some (exo a C (some d)) ∧ H2 d = some (exd d fs) ∧ H d = none ∧ Q (.ref C) (some d) (upd (del H2 a) d (.xd fs))) (fun _ _ _ => False) := fun a na =>
  ⟨a, v, rfl, upd_same, hv, fun dx nd ne => ⟨rfl, dx, _, upd_same, (upd_ne ne).trans upd_same, (by rw [upd_ne ne] at nd; exact nd), q dx _ (keep_end na nd ne) (by rw [upd_ne ne] at nd; exact nd) upd_same⟩⟩
theorem repr_none {X : Cx} : CallR X (.builtin "repr") (fun xs H Q => xs = [.non] ∧ Q (.str "None") H) := by
  intro pins s σ H xs us Q I r h
  obtain ⟨rfl, q⟩ := h
  cases r with
  | cons r1 r2 =>
    cases r2
    cases r1
    exact PySem.P.repr_of_none ⟨.str _, H, I.tok _, ⟨_, rfl⟩, q⟩
end Eh

set_option Elab.async false
set_option linter.all false
set_option maxRecDepth 100000
set_option maxHeartbeats 2000000
/-! own operators of a class: in, not in, subscripts, ==, !=, str, what a walk asks of __iter__ -/
namespace Eh
open PySem PySem.Spec PyProof.Rows L2
section
variable {X : Cx} {pins : List (Addr × Obj)} {σ : L2.St} {H : Hp} {s : Shared} {n : Nat} {f C : Addr} {fd : FuncData} {ps : List Str} {sp : Sp} {CX : CXT} {E : XK}
/-- a call of an own def somewhere below -/
theorem run_own {A : Around} {us : List Value} {vs : List V} {Q : VK} (F : FnOk X.prog X.w X.K X.mg X.base CX n f fd ps sp) (hb : Binds X.K fd ps []) (hx : Passes CX X E) (sb : Sub X n A) (I : Inv X pins σ H s) (r : Vals vs us) (hsp : sp vs H Q E) :
    wpAny (model X.prog X.w) A (call (.ref f) us) (EP X pins σ Q) X.xe s := by
  have e0 : Env0 X.prog X.w X.K X.mg X.base A X.stack s H := by
    have e := I.env0
    exact ⟨by rw [sb.fr]; exact e.frames, e.mod, e.bs, e.bsz, e.funs, e.frf, e.hok, e.bare⟩
  have hl := F.len _ _ _ _ hsp
  have hu : us.length = ps.length := by rw [← r.length]; exact hl
  have b := hb s us I.kIn (by rw [List.append_nil]; exact hu)
  rw [List.append_nil] at b
  refine wpAny_call (codeAny_mono (F.run A X.stack s H ⟨us, []⟩ us vs Q E sb.room e0 b r hsp) fun r s' hq => ?_)
  cases r with
  | error e => exact hx pins σ H s e s' I hq
  | ok fl =>
    cases fl with
    | ret u => exact I.after hq
    | next => exact False.elim hq
    | brk => exact False.elim hq
    | cont => exact False.elim hq
/-! x in o, x not in o -/
def rInOwn (C : Addr) (sp : Sp) (neg : Bool) (E : XK) : R2 := fun x y H Q => ∃ a dx fs, y = .ref a ∧ H a = some (.ins C dx fs) ∧ sp [.ref a, x] H (fun v H' => ∃ b, v = .bl b ∧ Q (.bl (b != neg)) H') E
theorem inOwn (F : FnOk X.prog X.w X.K X.mg X.base CX n f fd ps sp) (hr : Room n X.A) (hs : PySem.W.findIn X.K (.ref C) "__contains__" = some (some (.ref f))) (hf : PySem.W.isFn X.K (.ref f) = true) (hb : Binds X.K fd ps []) (hx : Passes CX X E) :
    OpR X (compareOp .In) (rInOwn C sp false E) := by
  intro pins s σ H x y v u Q I rx ry h
  obtain ⟨a, dx, fs, rfl, ha, q⟩ := h
  cases ry
  obtain ⟨mA, J, _⟩ := ins_get I.hok ha
  obtain ⟨od, J, _⟩ := J.look
  obtain ⟨m, hF⟩ := I.fr
  refine PySem.W.in_K hF I.ok.mod.kin J hs hf (wpAny_mono (run_own (us := [.ref a, v]) (vs := [.ref a, x]) F hb hx ⟨hr, rfl⟩ I (.cons rfl (.cons rx .nil)) q) (fun r s' z => ?_) fun _ _ e => e)
  obtain ⟨z, H', I', rz, b, rfl, q'⟩ := z
  cases rz
  refine wpAny_truthy_bool ⟨.bl b, H', I', rfl, ?_⟩
  rw [show (b != false) = b from by cases b <;> rfl] at q'
  exact q'
theorem niOwn (F : FnOk X.prog X.w X.K X.mg X.base CX n f fd ps sp) (hr : Room n X.A) (hs : PySem.W.findIn X.K (.ref C) "__contains__" = some (some (.ref f))) (hf : PySem.W.isFn X.K (.ref f) = true) (hb : Binds X.K fd ps []) (hx : Passes CX X E) :
    OpR X (compareOp .NotIn) (rInOwn C sp true E) := by
  intro pins s σ H x y v u Q I rx ry h
  obtain ⟨a, dx, fs, rfl, ha, q⟩ := h
  cases ry
  obtain ⟨mA, J, _⟩ := ins_get I.hok ha
  obtain ⟨od, J, _⟩ := J.look
  obtain ⟨m, hF⟩ := I.fr
  refine PySem.W.notIn_K hF I.ok.mod.kin J hs hf (wpAny_mono (run_own (us := [.ref a, v]) (vs := [.ref a, x]) F hb hx ⟨hr, rfl⟩ I (.cons rfl (.cons rx .nil)) q) (fun r s' z => ?_) fun _ _ e => e)
  obtain ⟨z, H', I', rz, b, rfl, q'⟩ := z
  cases rz
  refine wpAny_truthy_bool ⟨.bl (!b), H', I', rfl, ?_⟩
  rw [show (b != true) = !b from by cases b <;> rfl] at q'
  exact q'
/-! o[i] -/
def rIxOwn (C : Addr) (sp : Sp) (E : XK) : R2 := fun x y H Q => ∃ a dx fs, x = .ref a ∧ H a = some (.ins C dx fs) ∧ sp [.ref a, y] H Q E
theorem pe_ixOwn {a b : Expr} {ta tb : TE} {pos : Pos} (F : FnOk X.prog X.w X.K X.mg X.base CX n f fd ps sp) (hr : Room (n + 1) X.A) (hs : PySem.W.findIn X.K (.ref C) "__getitem__" = some (some (.ref f))) (hf : PySem.W.isFn X.K (.ref f) = true) (hk : PySem.W.fnIn X.K f = true) (hb : Binds X.K fd ps []) (hx : Passes CX X E)
    (ha : PE X a ta) (hi : PE X b tb) (hsl : ∀ (x : Addr) (i : Value), subscripted b true (.ref x) i = runValue (.builtin "lifetime.subscript" ⟨[.ref x, i], []⟩) := by intro _ _; with_unfolding_all rfl) : PE X (.Subscript a b pos) (tOp (rIxOwn C sp E) ta tb) := by
  refine ⟨fun pins s σ H Q I h => ?_⟩
  refine Subscript_ (binT ha hi I h fun v u s2 x y H2 I2 rx ry q => ?_)
  obtain ⟨o, dx, fs, rfl, ho, q⟩ := q
  cases rx
  obtain ⟨mA, J, _⟩ := ins_get I2.hok ho
  obtain ⟨od, J, _⟩ := J.look
  obtain ⟨m, hF⟩ := I2.fr
  exact PySem.W.sub_K hF I2.ok.mod.kin J hs hk hf (run_own (us := [.ref o, u]) (vs := [.ref o, y]) F hb hx ⟨hr.in1, rfl⟩ I2 (.cons rfl (.cons ry .nil)) q) (hsl _ _)
/-! o == x, both of the class -/
def rEqOwn (C : Addr) (sp : Sp) (E : XK) : R2 := fun x y H Q => ∃ a b dx dy fs gs, x = .ref a ∧ y = .ref b ∧ H a = some (.ins C dx fs) ∧ H b = some (.ins C dy gs) ∧ sp [.ref a, .ref b] H (fun v H' => ∃ k, v = .bl k ∧ Q (.bl k) H') E
theorem eqOwn (F : FnOk X.prog X.w X.K X.mg X.base CX n f fd ps sp) (hr : Room n X.A) (hs : PySem.W.findIn X.K (.ref C) "__eq__" = some (some (.ref f))) (hf : PySem.W.isFn X.K (.ref f) = true) (hb : Binds X.K fd ps []) (hx : Passes CX X E) :
    OpR X (compareOp .Eq) (rEqOwn C sp E) := by
  intro pins s σ H x y v u Q I rx ry h
  obtain ⟨a, b, dx, dy, fs, gs, rfl, rfl, ha, hb', q⟩ := h
  cases rx
  cases ry
  obtain ⟨mA, J, _⟩ := ins_get I.hok ha
  obtain ⟨mB, J', _⟩ := ins_get I.hok hb'
  obtain ⟨od, J, _⟩ := J.look
  obtain ⟨od', J', _⟩ := J'.look
  obtain ⟨m, hF⟩ := I.fr
  show wpAny _ _ (richCompare .Eq _ _) _ _ _
  refine PySem.W.cmp_K (op := .Eq) (tb := .ref C) hr.units0 hF I.ok.mod.kin J J'.type (by simp [PySem.W.notFirst]) hs hf (wpAny_mono (run_own (us := [.ref a, .ref b]) (vs := [.ref a, .ref b]) F hb hx ⟨hr, rfl⟩ I (.cons rfl (.cons rfl .nil)) q) (fun r s' z => ?_) fun _ _ e => e)
  obtain ⟨z, H', I', rz, k, rfl, q'⟩ := z
  cases rz
  exact ⟨.bl k, H', I', rfl, q'⟩
end
end Eh

set_option Elab.async false
set_option linter.all false
set_option maxRecDepth 100000
set_option maxHeartbeats 4000000
/-! set(a list of texts) -/
namespace Eh
open PySem PySem.Spec PyProof.Rows L2
def puts (xs : List Str) : List Str := xs.foldl (fun ts x => put x ts) []
theorem puts_succ {xs : List Str} {i : Nat} {x : Str} (h : xs[i]? = some x) : puts (xs.take (i + 1)) = put x (puts (xs.take i)) := by
  have e : xs.take (i + 1) = xs.take i ++ [x] := take_succ' h
  rw [e]
  unfold puts
  rw [List.foldl_append]
  rfl
theorem put_mem (x z : Str) (ts : List Str) : z ∈ put x ts ↔ z = x ∨ z ∈ ts := by
  unfold put
  split
  · exact ⟨.inr, fun h => h.elim (fun e => by rw [e]; assumption) id⟩
  · exact List.mem_cons
theorem put_nodup {x : Str} {ts : List Str} (h : ts.Nodup) : (put x ts).Nodup := by
  unfold put
  split
  · exact h
  · exact List.nodup_cons.mpr ⟨by assumption, h⟩
theorem foldl_put_mem : ∀ (xs ts : List Str) (z : Str), z ∈ xs.foldl (fun ts x => put x ts) ts ↔ z ∈ xs ∨ z ∈ ts
  | [], ts, z => by simp
  | x :: xs, ts, z => by
    rw [List.foldl_cons, foldl_put_mem xs (put x ts) z, put_mem, List.mem_cons]
    constructor
    · rintro (h | h | h)
      · exact .inl (.inr h)
      · exact .inl (.inl h)
      · exact .inr h
    · rintro ((h | h) | h)
      · exact .inr (.inl h)
      · exact .inl h
      · exact .inr (.inr h)
theorem foldl_put_nodup : ∀ (xs ts : List Str), ts.Nodup → (xs.foldl (fun ts x => put x ts) ts).Nodup
  | [], ts, h => h
  | x :: xs, ts, h => foldl_put_nodup xs _ (put_nodup h)
theorem foldl_put_len : ∀ (xs ts : List Str), (xs.foldl (fun ts x => put x ts) ts).length ≤ ts.length + xs.length
  | [], ts => Nat.le_refl _
  | x :: xs, ts => by
    have h1 := foldl_put_len xs (put x ts)
    have h2 := put_len x ts
    rw [List.foldl_cons, List.length_cons]
    omega
theorem puts_mem (xs : List Str) (z : Str) : z ∈ puts xs ↔ z ∈ xs := by
  unfold puts
  rw [foldl_put_mem]
  exact ⟨fun h => h.elim id (fun h => nomatch h), .inl⟩
theorem puts_nodup (xs : List Str) : (puts xs).Nodup := foldl_put_nodup xs [] List.nodup_nil
theorem puts_len (xs : List Str) : (puts xs).length ≤ xs.length := by
  have := foldl_put_len xs []
  rwa [List.length_nil, Nat.zero_add] at this
section
variable {prog : Program} {w : World} {A : Around} {R : Result → Shared → Prop} {I : Addr} {fp wr : List Addr} {G : Array GenState → Array GenState → Prop} {n : Nat} {P : Nat → Value → Prop} {St : Nat → Shared → Prop}
theorem setT_moved {s s' : Shared} {S : Addr} {ts : List Str} (R : SetT w s.heap S ts) (h : ∀ o, s.heap.get? S = some o → s'.heap.get? S = some o) : SetT w s'.heap S ts := R.at h
theorem loopT (W : WalksS prog w A.in1 I fp wr G n P St) (S : Addr) (hSf : S ∉ fp) (xs : List Str) (hn : n = xs.length) (hval : ∀ i v, P i v → ∃ x t, xs[i]? = some x ∧ v = .str x t) (hb : n + 1 < scanBound) :
    ∀ (k i : Nat) (s : Shared), n - i = k → i ≤ n → St i s → SetT w s.heap S (puts (xs.take i)) →
      (∀ s', Moved (S :: wr) G s s' → SetT w s'.heap S (puts xs) → R (.ok (.ret .none)) s') →
      codeAny (model prog w) A (.builtin "set.update.loop" ⟨[.ref S, .ref I], []⟩) R s := by
  have hSw : S ∉ wr := fun h => hSf (W.sub _ h)
  have hsub : ∀ b ∈ wr, b ∈ S :: wr := fun b hb => List.mem_cons_of_mem _ hb
  intro k
  induction k with
  | zero =>
    intro i s hk hi hst hS hR
    have hin : i = n := by omega
    subst hin
    refine codeAny_builtin PyProof.Rows.F.entry_set_update_loop ?_
    rw [Around.under_plainId PyProof.Rows.F.plain_set_update_loop _]
    show wpAny _ A.in1 (pyNext (.ref I) >>= _) _ _ s
    refine wpAny_bind (W.done s _ _ hst fun s' hm => ?_)
    show wpAny _ A.in1 (ret Value.none) _ _ s'
    refine wpAny_pure (hR s' (hm.mono hsub) ?_)
    rw [hn, List.take_length] at hS
    exact hS.at fun o ho => hm.heap S _ hSw ho
  | succ k ih =>
    intro i s hk hi hst hS hR
    have hlt : i < n := by omega
    refine codeAny_builtin PyProof.Rows.F.entry_set_update_loop ?_
    rw [Around.under_plainId PyProof.Rows.F.plain_set_update_loop _]
    show wpAny _ A.in1 (pyNext (.ref I) >>= _) _ _ s
    refine wpAny_bind (W.item i s _ _ hlt hst fun v s' hP hst' hm => ?_)
    obtain ⟨x, t, hx, rfl⟩ := hval i v hP
    have hS' : SetT w s'.heap S (puts (xs.take i)) := hS.at fun o ho => hm.heap S _ hSw ho
    show wpAny _ A.in1 (holding [Value.str x t] (setAdd S (.str x t)) >>= _) _ _ s'
    refine wpAny_bind (wpAny_holding ?_)
    unfold setAdd
    refine wpAny_holding ?_
    have hl := puts_len (xs.take i)
    have hl2 := List.length_take_le i xs
    refine wpAny_bind ((PySem.strKind prog w).pyHash (k := x) (strKind_is _ _ _ _) ?_)
    refine setT_hashed (s := { s' with toks := s'.toks + 1 }) hS' (by omega) fun r h' hsb hS2 => ?_
    rw [← puts_succ hx] at hS2
    refine wpAny_pure ⟨plainId_quiet PyProof.Rows.F.plain_set_update_loop _, ih (i + 1) _ (by omega) hlt (W.frame _ s' _ _ hst' (Nat.le_succ _) fun b hb o e => ?_) hS2 fun s'' hm'' hS'' => ?_⟩
    · rw [hsb.2 b (fun h : b = S => hSf (by rw [← h]; exact hb))]; exact e
    · refine hR s'' (Moved.trans W.gtrans ((hm.mono hsub).then_heap (Nat.le_succ _) fun b o hb e => ?_) hm'') hS''
      rw [hsb.2 b (fun h : b = S => hb (by rw [h]; exact List.mem_cons_self))]; exact e
end
section
variable {prog : Program} {w : World} {A : Around} {E : Value → Shared → Prop} {s : Shared}
theorem code_set_new_led (a : Value) {Q₁ : Value → Shared → Prop}
    (h : Q₁ (.ref s.heap.objs.size) { s with heap := s.heap.push { cls := .type "set", dict := none, data := .set #[] 0 (.fresh 0 0 (!w.params.followText "set-order")) } }) :
    codeAny (model prog w) A (.call (.builtin "set.__new__") ⟨[.type "set", a], []⟩) (wants Q₁ E) s := by
  refine codeAny_of_tree ?_
  show wpAny _ A.in1 (do checkBuiltinCall "set.__new__" ⟨[.type "set", a], []⟩; again (.builtin "set.__new__" ⟨[.type "set", a], []⟩)) _ _ s
  refine wpAny_bind (wpAny_of_eq (PySem.F.newCall_set_1 a) (wpAny_pure ⟨plainId_quiet PySem.F.plain_set_new _, codeAny_builtin PySem.F.entry_set_new ?_⟩))
  rw [Around.under_plainId PySem.F.plain_set_new _]
  unfold Builtin.«set.__new__» Builtin.Frozenset.newClass
  have hsub := sub_set_self
  obtain ⟨hp, g, d, tk, os⟩ := s
  dsimp only
  wp_walk
  refine wpAny_askSetting (wpAny_pure ?_)
  dsimp only
  simp only [newObj]
  refine wpAny_bind (wpAny_alloc (wpAny_pure ?_))
  exact wpAny_pure h
theorem strs_at' : ∀ {vs : List Value} {xs : List Str}, StrsAre vs xs → ∀ (i : Nat) (v : Value), vs[i]? = some v → ∃ x t, xs[i]? = some x ∧ v = .str x t
  | _, _, .nil, i, v, h => by simp at h
  | _, _, .cons n t hr, 0, v, h => by simp at h; exact ⟨n, t, rfl, by rw [← h]⟩
  | _, _, .cons n t hr, i + 1, v, h => by
    simp only [List.getElem?_cons_succ] at h
    obtain ⟨x, t', e0, e⟩ := strs_at' hr i v h
    exact ⟨x, t', by simpa using e0, e⟩
theorem call_set_txt {l : Addr} {items : Array Value} {xs : List Str} {Q : Value → Shared → Prop} (hh : A.handled = none) (hl : s.heap.IsList l items) (hi : StrsAre items.toList xs) (hb : xs.length + 1 < scanBound)
    (h : ∀ (h' : Heap) (tk : Nat), SetT w h' s.heap.objs.size (puts xs) → (∀ b o, b < s.heap.objs.size → s.heap.get? b = some o → h'.get? b = some o) → Q (.ref s.heap.objs.size) { s with heap := h', toks := tk }) :
    wpAny (model prog w) A (call (.type "set") [.ref l]) Q E s := by
  obtain ⟨c, tl, hmro⟩ := PySem.F.called_set.mro
  have hmade := PySem.F.called_set.made
  have hsub := PySem.F.called_set.sub
  refine wpAny_call (codeAny_of_tree ?_)
  show wpAny _ _ (callAny (.type "set") _) _ _ _
  refine wpAny_pure ⟨Code.quiet_builtin _ (by decide +kernel), codeAny_builtin PySem.F.entry_type_call ?_⟩
  rw [Around.under_plain (weight_type_call_type "set" [.ref l] []) rfl]
  have h1 := PySem.F.called_set.notType
  have h2 := PySem.F.called_set.canCreate
  have hct := PySem.F.typeCall_set_1 (.ref l)
  repeat (any_goals (first | assumption | wp_step))
  refine codeAny_mono (code_set_new_led (.ref l) (E := E) (Q₁ := fun obj s₁ => ∃ led : Bool, led = (!w.params.followText "set-order") ∧ obj = .ref s.heap.objs.size ∧ s₁ = { s with heap := s.heap.push { cls := .type "set", dict := none, data := .set #[] 0 (.fresh 0 0 led) } }) ⟨_, rfl, rfl, rfl⟩) fun r s₁ hr => ?_
  cases r with
  | error e => exact hr
  | ok fl =>
    cases fl with
    | ret obj =>
      obtain ⟨led, hled, rfl, rfl⟩ := hr
      have hS : (s.heap.push { cls := .type "set", dict := none, data := .set #[] 0 (.fresh 0 0 led) }).get? s.heap.objs.size = some { cls := .type "set", dict := none, data := .set #[] 0 (.fresh 0 0 led) } := Heap.get?_push_size _ rfl
      have hT : Shared.TypeIs { s with heap := s.heap.push { cls := .type "set", dict := none, data := .set #[] 0 (.fresh 0 0 led) } } (.ref s.heap.objs.size) "set" := ⟨_, hS, rfl⟩
      have hli := PySem.F.called_set.init.lookup
      have hbi := PySem.F.called_set.init.bind (.ref s.heap.objs.size)
      repeat (any_goals (first | assumption | wp_step))
      refine codeAny_mono (codeAny_call_builtin (R := wants (fun r s₂ => r = .none ∧ ∃ h' tk, s₂ = { s with heap := h', toks := tk } ∧
          SetT w h' s.heap.objs.size (puts xs) ∧ (∀ b o, b < s.heap.objs.size → s.heap.get? b = some o → h'.get? b = some o)) E) PySem.F.called_set.init.plain PySem.F.entry_set_init (check_set_init_1 hT ?_)) fun r₂ s₂ hr₂ => ?_
      · obtain ⟨ol, hol, hcl, nl, hdl⟩ := hl
        obtain ⟨ocls, odict, odata, oslots⟩ := ol
        simp only at hcl hdl
        subst hcl; subst hdl
        have hol' : (s.heap.push { cls := .type "set", dict := none, data := .set #[] 0 (.fresh 0 0 led) }).get? l = some { cls := .type "list", dict := odict, data := .seq items nl, slots := oslots } := Heap.get?_push_of_some _ hol
        have hsls := PySem.F.sub_list_set
        have hslf := PySem.F.sub_list_frozenset
        have hne : (Value.type "list" == Value.type "dict") = false := by decide
        have hl1 : (s.heap.push { cls := .type "set", dict := none, data := .set #[] 0 (.fresh 0 0 led) }).IsList l items := ⟨_, hol', rfl, nl, rfl⟩
        unfold Builtin.«set.__init__» noKeywords Builtin.Frozenset.updateFrom
        generalize hPI : pyIter = PI
        wp_walk
        subst hPI
        refine wpAny_pyIter_list hl1 ?_
        refine wpAny_bind (wpAny_runValue ?_)
        have hlS : l < s.heap.objs.size := Heap.lt_size hol
        have hh3 : A.in1.in1.in1.handled = none := by simp [hh]
        have hneI : l ≠ (s.heap.push { cls := .type "set", dict := none, data := .set #[] 0 (.fresh 0 0 led) }).objs.size := by
          rw [Heap.size_push]; exact Nat.ne_of_lt (Nat.lt_succ_of_lt hlS)
        have hSf : s.heap.objs.size ∉ [(s.heap.push { cls := .type "set", dict := none, data := .set #[] 0 (.fresh 0 0 led) }).objs.size, l] := by
          rw [Heap.size_push]; simp only [List.mem_cons, List.mem_singleton, List.not_mem_nil, or_false, not_or]
          exact ⟨Nat.ne_of_lt (Nat.lt_succ_self _), Nat.ne_of_gt hlS⟩
        have hsz : items.size = xs.length := by rw [← StrsAre.len_eq hi, Array.length_toList]
        have hval : ∀ (i : Nat) (v : Value), items[i]? = some v → ∃ x t, xs[i]? = some x ∧ v = .str x t := fun i v hv => strs_at' hi i v (by rw [Array.getElem?_toList]; exact hv)
        refine loopT ((Walks.list hh3 _ l hneI items).toS) s.heap.objs.size
          hSf xs hsz hval (by rw [hsz]; exact hb) (items.size - 0) 0 _ (by omega) (Nat.zero_le _)
          ⟨⟨_, Heap.get?_push_size _ rfl, rfl, rfl⟩, (hl1.push _)⟩ ?hS0 ?hR
        case hS0 =>
          have hT0 : SetT w (s.heap.push { cls := .type "set", dict := none, data := .set #[] 0 (.fresh 0 0 led) }) s.heap.objs.size [] := by
            rw [hled]
            exact setT_empty w s.heap
          exact hT0.at fun o e => Heap.get?_push_of_some _ e
        case hR =>
          intro s' hm hS'
          obtain ⟨h', g', d', tk', os'⟩ := s'
          have eg : g' = s.gens := hm.gens
          have ed : d' = s.drawn := hm.drawn
          have eo : os' = s.os := hm.os
          subst eg; subst ed; subst eo
          show wpAny _ _ _ _ _ _
          refine wpAny_pure ?_
          show wpAny _ _ (ret Value.none) _ _ _
          refine wpAny_pure ⟨rfl, h', tk', rfl, hS', fun b o hb e => ?_⟩
          have hb1 : b ≠ s.heap.objs.size := Nat.ne_of_lt hb
          have hb2 : b ≠ (s.heap.push { cls := .type "set", dict := none, data := .set #[] 0 (.fresh 0 0 led) }).objs.size := by
            rw [Heap.size_push]; exact Nat.ne_of_lt (Nat.lt_succ_of_lt hb)
          exact hm.heap b o (by simp only [List.mem_cons, List.mem_singleton, List.not_mem_nil, or_false, not_or]; exact ⟨hb1, hb2⟩) (Heap.get?_push_of_some _ (Heap.get?_push_of_some _ e))
      · cases r₂ with
        | error e => exact hr₂
        | ok fl₂ =>
          cases fl₂ with
          | ret r =>
            obtain ⟨rfl, h', tk, rfl, hS', hk'⟩ := hr₂
            repeat (any_goals (first | assumption | wp_step))
            exact h _ _ hS' hk'
          | _ => exact hr₂.elim
    | _ => exact hr.elim
end
section
variable {X : Cx}
def rSetL (K : PySem.W.Frag) (w : World) : List V → Hp → VK → Prop := fun vs H Q => ∃ (l : Addr) (xs : List Str), vs = [.ref l] ∧ SqL K H l (xs.map V.str) ∧ xs.length < 1000 ∧ ∀ p, H p = none → Q (.ref p) (upd H p (SetX w p (puts xs)))
theorem strs_of_vals' : ∀ {xs : List Str} {vs : List Value}, Vals (xs.map V.str) vs → StrsAre vs xs
  | [], _, .nil => .nil
  | x :: xs, _, .cons r rs => by
    obtain ⟨t, rfl⟩ := r
    exact .cons x t (strs_of_vals' rs)
theorem setL (hc : X.calm = true) : CallR X (.type "set") (rSetL X.K X.w) := by
  intro pins s σ H vs us Q I r h
  obtain ⟨l, xs, rfl, hl, hn, q⟩ := h
  rw [Vals.ref1 r]
  obtain ⟨its, rv, pl, hz⟩ := I.list hl
  refine call_set_txt (I.ok.hd hc) pl.isList (by simpa using strs_of_vals' rv) (Nat.lt_trans (by omega : xs.length + 1 < 1002) (by decide)) fun h' tk R k => ?_
  have hn' : H s.heap.objs.size = none := I.hok.fresh (Nat.le_refl _)
  refine ⟨.ref s.heap.objs.size, _, I.laid (t' := tk) (fun b o e => k b o (Heap.lt_size e) e) (Nat.le_refl _) (setX_ok R), rfl, q _ hn'⟩
end
end Eh

set_option Elab.async false
set_option linter.all false
set_option maxRecDepth 100000
set_option maxHeartbeats 2000000
/-! own operators: str(o), -o, o + x; what is no instance == an instance; != of lists of equal things -/
namespace Eh
open PySem PySem.Spec PyProof.Rows L2
section
variable {X : Cx} {pins : List (Addr × Obj)} {σ : L2.St} {H : Hp} {s : Shared} {n : Nat} {f C : Addr} {fd : FuncData} {ps : List Str} {sp : Sp} {CX : CXT} {E : XK}
/-! str(o) -/
def rStrOwn (C : Addr) (sp : Sp) (E : XK) : List V → Hp → VK → Prop := fun xs H Q => ∃ a dx fs, xs = [.ref a] ∧ H a = some (.ins C dx fs) ∧ sp [.ref a] H (fun v H' => ∃ z, v = .str z ∧ Q (.str z) H') E
theorem strOwn (F : FnOk X.prog X.w X.K X.mg X.base CX n f fd ps sp) (hr : Room (n + 2) X.A) (hs : PySem.W.findIn X.K (.ref C) "__str__" = some (some (.ref f))) (hf : PySem.W.isFn X.K (.ref f) = true) (hb : Binds X.K fd ps []) (hx : Passes CX X E) :
    CallR X (.type "str") (rStrOwn C sp E) := by
  intro pins s σ H xs us Q I r h
  obtain ⟨a, dx, fs, rfl, ha, q⟩ := h
  rw [Vals.ref1 r]
  obtain ⟨mA, J, _⟩ := ins_get I.hok ha
  obtain ⟨od, J, _⟩ := J.look
  refine PySem.W.kso_call hr.in1.in1.units0 I.kIn J hs hf (wpAny_mono (run_own (us := [.ref a]) (vs := [.ref a]) F hb hx ⟨hr.in1.in1, rfl⟩ I (.cons rfl .nil) q) (fun u s' z => ?_) fun _ _ e => e)
  obtain ⟨v, H', I', rz, y, rfl, q'⟩ := z
  obtain ⟨t, rfl⟩ := rz
  exact ⟨.str y, H', I', ⟨t, rfl⟩, q'⟩
/-! -o -/
def rNegOwn (C : Addr) (sp : Sp) (E : XK) : V → Hp → VK → Prop := fun x H Q => ∃ a dx fs, x = .ref a ∧ H a = some (.ins C dx fs) ∧ sp [.ref a] H Q E
theorem negOwn (F : FnOk X.prog X.w X.K X.mg X.base CX n f fd ps sp) (hr : Room n X.A) (hs : PySem.W.findIn X.K (.ref C) "__neg__" = some (some (.ref f))) (hf : PySem.W.isFn X.K (.ref f) = true) (hb : Binds X.K fd ps []) (hx : Passes CX X E) :
    UnR X (unaryOp .USub) (rNegOwn C sp E) := by
  intro pins s σ H x u Q I r h
  obtain ⟨a, dx, fs, rfl, ha, q⟩ := h
  cases r
  obtain ⟨mA, J, _⟩ := ins_get I.hok ha
  obtain ⟨od, J, _⟩ := J.look
  obtain ⟨m, hF⟩ := I.fr
  exact PySem.W.ksp_neg hF I.ok.mod.kin J hs hf (run_own (us := [.ref a]) (vs := [.ref a]) F hb hx ⟨hr, rfl⟩ I (.cons rfl .nil) q)
end
/-! what is no instance == an instance: the left one declines, the right one's own == answers -/
section
variable {prog : Program} {w : World} {A : Around} {E : Value → Shared → Prop} {s : Shared} {K : PySem.W.Frag} {x C f : Addr} {ox : Obj} {od : Option Obj}
theorem rc_right {v : Value} {T id : String} {Q : Value → Shared → Prop} (hu : A.units < cLine) (hT : s.TypeIs v T) (hth : oneThing? .Eq v (.ref x) = none) (X : K.In s.heap) (I : PySem.W.InstAt s.heap x ox C od) (hsub : PySem.W.subIn K (.ref C) (.type T) = some false)
    (hsl : Slot T "__eq__" id) (hd : ∀ (E' : Value → Shared → Prop) (R : Value → Shared → Prop), R .notImplemented s → wpAny (model prog w) A (call (.builtin id) [v, .ref x]) R E' s)
    (hs : PySem.W.findIn K (.ref C) "__eq__" = some (some (.ref f))) (hf : PySem.W.isFn K (.ref f) = true) (h : wpAny (model prog w) A (call (.ref f) [.ref x, v]) (PySem.W.CmpBack Q) E s) :
    wpAny (model prog w) A (richCompare .Eq v (.ref x)) Q E s := by
  have two : wpAny (model prog w) A (tryCompare (.ref x) "__eq__" v) (fun r s' => ∃ z, r = some z ∧ Q z s') E s := by
    unfold tryCompare
    refine wpAny_bind (PySem.W.ifBound_K X I hs hf (wpAny_mono h (fun z s' hv => ?_) fun _ _ e => e))
    cases z <;> first | exact hv.elim | exact wpAny_pure ⟨_, rfl, hv⟩
  have one : wpAny (model prog w) A (tryCompare v "__eq__" (.ref x)) (fun r s' => r = none ∧ s' = s) E s :=
    wpAny_tryCompare_declines hT hsl (hd _ _ ⟨rfl, rfl, rfl⟩)
  simp only [richCompare, cmpInfo_Eq, hth]
  refine wpAny_holding (wpAny_bind (wpAny_cRoomFor hu ?_))
  refine wpAny_bind (wpAny_typeOf hT ?_)
  refine wpAny_bind (I.type.here ?_)
  split
  · refine wpAny_bind ((PySem.W.looks_subIn X hsub).here ?_)
    simp only [Bool.false_eq_true, if_false, Bool.not_false, if_true]
    refine wpAny_bind (m := tryCompare v _ (.ref x)) (wpAny_mono one (fun r s1 z => ?_) fun _ _ e => e)
    obtain ⟨z1, z2⟩ := z
    subst z1
    subst z2
    refine wpAny_bind (m := tryCompare (.ref x) _ v) (wpAny_mono two (fun r s2 z => ?_) fun _ _ e => e)
    obtain ⟨y, rfl, hq⟩ := z
    exact wpAny_pure hq
  · rename_i q
    exact absurd (by simp) q
end
end Eh

set_option Elab.async false
set_option linter.all false
set_option maxRecDepth 100000
set_option maxHeartbeats 2000000
/-! a walk over an own object whose __iter__ returns iter(a tuple) -/
namespace Eh
open PySem PySem.Spec PyProof.Rows L2
/-- promises of defs that are told how many objects there are when they are called -/
structure FnN (P : Program) (w : World) (K : PySem.W.Frag) (mg : Str → Option Value) (base : Heap) (k : Nat) (f : Addr) (fd : FuncData) (ps : List Str) (sp : Nat → Sp) : Prop where
  len : ∀ n vs H Q E, sp n vs H Q E → vs.length = ps.length
  run : ∀ (A : Around) (outer : List Env) (s : Shared) (H : Hp) (args : Args) (us : List Value) (vs : List V) (Q : VK) (E : XK), Room k A → Env0 P w K mg base A outer s H →
    BindsTo s fd args (ps.zip us) → Vals vs us → sp s.heap.objs.size vs H Q E → codeAny (model P w) A (.call (.ref f) args) (CR CX0 outer P w H s Q E) s
/-- the iterator of the tuple at l, at it -/
def ItT (l it : Addr) : HO := .ext fun h => h.IsTupleIter it l 0
theorem itT_ok {P : Program} {w : World} {H : Hp} {h : Heap} {l it : Addr} (e : h.IsTupleIter it l 0) : ObjOk P w H h it (ItT l it) := by
  obtain ⟨o, ho, r⟩ := id e
  exact ⟨e, ⟨_, ho⟩, fun h1 h2 q k => q.at k⟩
section
variable {P : Program} {w : World} {K : PySem.W.Frag} {mg : Str → Option Value} {base : Heap}
theorem funN {x qual : Str} {st : Stmt} {f : Addr} {fd : FuncData} {N ps : List Str} {k : Nat} {sp : Nat → Sp} (F : Fun K x qual st f fd) (S : FnScope N ps (defScope st)) (len : ∀ n vs H Q E, sp n vs H Q E → vs.length = ps.length)
    (body : ∀ (cdv : Value) (A : Around) (outer : List Env) (s : Shared) (H : Hp) (vs : List V) (Q : VK) (E : XK),
      Room k (A.deeper (envOfC qual (defScope st) s.heap.objs.size f cdv)) → sp s.heap.objs.size vs H Q E →
      ∃ t, PSs (cxOf CX0 P w K mg base N qual (defScope st) f cdv A outer s H E).nox (defBody st) t ∧ t { nx := fun _ H' => Q .non H', rt := Q } (start N vs) H) : FnN P w K mg base (k + 1) f fd ps sp where
  len := len
  run A outer s H args us vs Q E hr e0 hb r hsp := by
    obtain ⟨oc, od, kV, doc, pm, an, cdv, ct, osl, rfl, lk, hcd⟩ := F.ex
    have old := fun b o e => (e0.bs b o e).1
    have KX := e0.mod.kin.keeps old
    have ok := fun (y : Str × Value) (hy : y ∈ ps.zip us) => S.par y.1 (List.of_mem_zip (a := y.1) (b := y.2) hy).1
    refine codeAny_call_function hr.depth (KX _ _ lk) rfl S.co S.gen rfl (PySem.W.codeRec_of KX hcd) (hb _ _ _ _ ?_)
    refine wpAny_newFunctionEnv_cells S.kind (fun y hy => (ok y hy).imp id fun q => ⟨q, PySem.W.cellsFrom_some _ _ _ (.inl q)⟩) fun env he s1 x => ?_
    cases he
    obtain ⟨t, ht, hq⟩ := body cdv A outer s H vs Q E (hr.deeper _) hsp
    refine ⟨(e0.mod.nolimit.keeps old).keeps x.toInCall.keep, codeAny_func ?_⟩
    have I := inv_start (CX := CX0) (E := E) S hr.hd e0 (len _ _ _ _ _ hsp) r x
    refine wpAny_mono (ht.nox.run [] s1 (start N vs) H _ I hq) (fun fl s' hs => ?_) fun _ _ h => h
    have fin {σ' : L2.St} {H' : Hp} {v : V} {u : Value} (J : Inv (cxOf CX0 P w K mg base N qual (defScope st) f cdv A outer s H E) [] σ' H' s') (rv : RelV v u) (q : Q v H') : CE outer P w H s Q u s' := ⟨v, H', J.os, J.bare, J.base, J.hok, rv, q⟩
    match fl, hs with
    | .ret u, ⟨v, _, _, J, rv, q⟩ => exact fin J rv q
    | .next, ⟨_, _, J, q⟩ => exact fin (v := V.non) J rfl q
    | .brk, ⟨_, _, _, q⟩ => exact q.elim
    | .cont, ⟨_, _, _, q⟩ => exact q.elim
end
section
variable {prog : Program} {w : World} {A : Around} {E : Value → Shared → Prop} {s : Shared} {l : Addr} {items : Array Value}
theorem call_iterTup {Q : Value → Shared → Prop} (hl : s.heap.IsTuple l items) (h : Q (.ref s.heap.objs.size) { s with heap := s.heap.push { cls := .type "tuple_iterator", data := .fields #[.ref l, .int 0 0] } }) : wpAny (model prog w) A (call (.builtin "iter") [.ref l]) Q E s := by
  refine Calls.call_function_entry (by decide +kernel) (by decide +kernel) PySem.W.kdk_entry_iter (PySem.W.kdk_args_iter _) ?_
  unfold Builtin.«iter»
  refine wpAny_bind (m := someArgs "iter" 1 2 _) (wpAny_of_eq (a := [Value.ref l]) (by first | rfl | kernel_rfl!) ?_)
  show wpAny _ _ (pyIter (.ref l) >>= _) _ _ _
  refine wpAny_bind (wpAny_pyIter_tuple hl ?_)
  exact wpAny_pure ⟨_, rfl, h⟩
end
def rIterT (K : PySem.W.Frag) (n : Nat) : List V → Hp → VK → Prop := fun xs H Q => ∃ (l : Addr) (zs : List V), xs = [.ref l] ∧ SqT K H l zs ∧ ∀ it, H it = Option.none → n ≤ it → Q (.ref it) (upd H it (ItT l it))
section
variable {X : Cx}
theorem call_iterT : CallR X (.builtin "iter") (rIterT X.K X.s_0.heap.objs.size) := by
  intro pins s σ H xs us Q I r h
  obtain ⟨l, zs, rfl, hq, q⟩ := h
  obtain ⟨u, rfl, ru⟩ := vals1 r
  cases ru
  obtain ⟨its, rv, pl, hz⟩ := I.tuple hq
  refine call_iterTup (show s.heap.IsTuple l its.toArray from pl) ?_
  exact ⟨.ref s.heap.objs.size, _, I.laid (t' := s.toks) (fun b u e => Heap.get?_push_of_some _ e) (Nat.le_refl _) (itT_ok ⟨_, Heap.get?_push_size _ rfl, rfl, rfl⟩), rfl, q _ (I.hok.fresh (Nat.le_refl _)) I.sz⟩
variable {n k : Nat} {f C : Addr} {fd : FuncData} {ps : List Str} {sp : Nat → Sp} {tg e : Expr} {te : TE}
/-- what a walk over an own object asks -/
def iOwn (K : PySem.W.Frag) (C : Addr) (sp : Nat → Sp) (te : TE) : TI := fun σ H R => te σ H fun x H1 => ∃ a dx fs, x = .ref a ∧ H1 a = some (.ins C dx fs) ∧ ∀ n, sp n [.ref a] H1 (fun v H2 => ∃ it l, v = .ref it ∧ n ≤ it ∧ H2 it = some (ItT l it) ∧ R (Itt K l) (ItX.dropH H2 it)) E0
theorem run_ownN {pins : List (Addr × Obj)} {σ : L2.St} {H : Hp} {s : Shared} {us : List Value} {vs : List V} {Q : VK} (F : FnN X.prog X.w X.K X.mg X.base k f fd ps sp) (hb : Binds X.K fd ps []) (hr : Room k X.A) (I : Inv X pins σ H s) (r : Vals vs us) (hsp : sp s.heap.objs.size vs H Q E0) :
    wpAny (model X.prog X.w) X.A (call (.ref f) us) (EP X pins σ Q) X.xe s := by
  have hl := F.len _ _ _ _ _ hsp
  have hu : us.length = ps.length := by rw [← r.length]; exact hl
  have b := hb s us I.kIn (by rw [List.append_nil]; exact hu)
  rw [List.append_nil] at b
  refine wpAny_call (codeAny_mono (F.run X.A X.stack s H ⟨us, []⟩ us vs Q E0 hr I.env0 b r hsp) fun r s' hq => ?_)
  cases r with
  | error e => exact False.elim hq
  | ok fl =>
    cases fl with
    | ret u => exact I.after hq
    | next => exact False.elim hq
    | brk => exact False.elim hq
    | cont => exact False.elim hq
theorem itT_get {pins : List (Addr × Obj)} {σ : L2.St} {H : Hp} {s : Shared} {l it : Addr} (I : Inv X pins σ H s) (e : H it = some (ItT l it)) : s.heap.IsTupleIter it l 0 := (I.hok it _ e).1
theorem pi_own (F : FnN X.prog X.w X.K X.mg X.base k f fd ps sp) (hb : Binds X.K fd ps []) (hr : Room k X.A) (hs : PySem.W.findIn X.K (.ref C) "__iter__" = some (some (.ref f))) (hf : PySem.W.isFn X.K (.ref f) = true) (he : PE X e te) : PI X tg e (iOwn X.K C sp te) := by
  refine ⟨fun pins s σ H R I h => ?_⟩
  refine thn (he.run pins s σ H _ I h) fun v s1 ⟨x, H1, I1, r1, a, dx, fs, ex, ha, q⟩ => ?_
  subst ex
  cases r1
  obtain ⟨mA, J, _⟩ := ins_get I1.hok ha
  obtain ⟨od, J, _⟩ := J.look
  obtain ⟨m, hF⟩ := I1.fr
  have hsz : X.s_0.heap.objs.size ≤ s1.heap.objs.size := I1.sz
  refine PySem.W.owit_iter hF I1.ok.mod.kin J hs hf (wpAny_mono (run_ownN (us := [.ref a]) (vs := [.ref a]) F hb hr I1 (.cons rfl .nil) (q _)) (fun u s2 z => ?_) fun _ _ e => e)
  obtain ⟨v, H2, I2, rv, it, l, rfl, hn, hit, hR⟩ := z
  cases rv
  have st := itT_get I2 hit
  unfold PySem.W.OwitIt
  refine wpAny_specialOf (name := Str.ofString "__next__") st.typeIs PySem.F.slot_tuple_iterator_next.lookup ?_
  have hit' := hit
  unfold ItT at hit'
  refine ⟨it, [it], _, _, ItX.dropH H2 it, rfl, ItX.inv_drop I2 hit', turn_tuple l it, st, fun b hb => ?_, hR⟩
  have e : b = it := by simpa using hb
  rw [e]
  exact ItX.inv_fp I2 hit (Nat.le_trans hsz hn)
end
theorem drop_new {H H2 : Hp} {it l : Addr} (n : H it = none) (e : H2 = upd H it (ItT l it)) : ItX.dropH H2 it = H := by
  rw [e]
  unfold ItT
  exact ItX.dropH_upd n
end Eh

set_option Elab.async false
set_option linter.all false
set_option maxRecDepth 100000
set_option maxHeartbeats 2000000
/-! values that are no instances decline to be compared with one -/
namespace Eh
open PySem PySem.Spec PyProof.Rows L2
section
variable {prog : Program} {w : World} {A : Around} {E : Value → Shared → Prop} {s : Shared} {K : PySem.W.Frag} {x C dx : Addr} {od : Option Obj} {R : Value → Shared → Prop}
theorem dec_none (h : R .notImplemented s) : wpAny (model prog w) A (call (.builtin "NoneType.__eq__") [.none, .ref x]) R E s :=
  call_gives PySem.F.slot_NoneType_eq rfl PySem.F.entry_NoneType_eq (PySem.F.args_NoneType_eq_2 _ _) (PySem.SeqAt.NoneType___eq___none_ref_0 x) h
theorem dec_int {a : Int} {t : Tok} (ho : s.heap.get? x = some (PySem.W.instObj C dx)) (h : R .notImplemented s) : wpAny (model prog w) A (call (.builtin "int.__eq__") [.int a t, .ref x]) R E s := by
  refine wpAny_call_entry PySem.F.slot_int_eq (typeIs_int s a t) PySem.F.entry_int_eq ?_ (PySem.F.args_int_eq_2 _ _)
  obtain ⟨hp, g, d, tk, os⟩ := s
  wp_walk using wpAny_load ho
  all_goals first | exact ⟨_, rfl, h⟩ | skip
theorem dec_bool {a : Bool} (ho : s.heap.get? x = some (PySem.W.instObj C dx)) (h : R .notImplemented s) : wpAny (model prog w) A (call (.builtin "int.__eq__") [.bool a, .ref x]) R E s := by
  refine wpAny_call_entry PySem.F.slot_bool_eq (rfl : s.TypeIs (.bool a) "bool") PySem.F.entry_int_eq ?_ (PySem.F.args_int_eq_2 _ _)
  obtain ⟨hp, g, d, tk, os⟩ := s
  wp_walk using wpAny_load ho
  all_goals first | exact ⟨_, rfl, h⟩ | skip
theorem dec_str {a : Str} {t : Tok} (ho : s.heap.get? x = some (PySem.W.instObj C dx)) (h : R .notImplemented s) : wpAny (model prog w) A (call (.builtin "str.__eq__") [.str a t, .ref x]) R E s := by
  refine wpAny_call_entry PySem.F.slot_str_eq (typeIs_str s a t) PySem.F.entry_str_eq ?_ (PySem.F.args_str_eq_2 _ _)
  obtain ⟨hp, g, d, tk, os⟩ := s
  wp_walk using wpAny_load ho
  all_goals first | exact ⟨_, rfl, h⟩ | skip
theorem isInstK {M : Model} {T : String} {ox : Obj} {Q : Bool → Shared → Prop} (X : K.In s.heap) (I : PySem.W.InstAt s.heap x ox C od) (hsub : PySem.W.subIn K (.ref C) (.type T) = some false) (h : Q false s) : wpAny M A (isInstance (.ref x) (.type T)) Q E s := by
  have L : PySem.W.Looks M s.heap (isInstance (.ref x) (.type T)) false := I.type.andThen (PySem.W.looks_subIn X hsub)
  exact L.here h
theorem dec_tuple {p : Addr} {items : Array Value} {ox : Obj} (hl : s.heap.IsTuple p items) (X : K.In s.heap) (I : PySem.W.InstAt s.heap x ox C od) (hsub : PySem.W.subIn K (.ref C) (.type "tuple") = some false) (h : R .notImplemented s) : wpAny (model prog w) A (call (.builtin "tuple.__eq__") [.ref p, .ref x]) R E s := by
  obtain ⟨⟨cls, dd, data, sl⟩, ho, hc, n, hd⟩ := id hl
  simp only at hc hd
  subst hc hd
  refine wpAny_call_entry PySem.F.slot_tuple_eq ⟨_, ho, rfl⟩ PySem.F.entry_tuple_eq ?_ (PySem.F.args_tuple_eq_2 _ _)
  obtain ⟨hp, g, d, tk, os⟩ := s
  wp_walk using wpAny_loadPart' ho, isInstK X I hsub
  all_goals first | exact ⟨_, rfl, h⟩ | skip
theorem dec_dict {l : Addr} {dd : Option Addr} {es : Array DictEntry} {n : Nat} {sl : Array (Option Value)} {ox : Obj} (ho : s.heap.get? l = some { cls := .type "dict", dict := dd, data := .dict es n, slots := sl }) (X : K.In s.heap) (I : PySem.W.InstAt s.heap x ox C od) (hsub : PySem.W.subIn K (.ref C) (.type "dict") = some false) (h : R .notImplemented s) : wpAny (model prog w) A (call (.builtin "dict.__eq__") [.ref l, .ref x]) R E s := by
  refine wpAny_call_entry PySem.F.slot_dict_eq ⟨_, ho, rfl⟩ PySem.F.entry_dict_eq ?_ (PySem.F.args_dict_eq_2 _ _)
  obtain ⟨hp, g, d, tk, os⟩ := s
  wp_walk using wpAny_loadPart' ho, isInstK X I hsub
  all_goals first | exact ⟨_, rfl, h⟩ | skip
end
end Eh

set_option Elab.async false
set_option linter.all false
set_option maxRecDepth 100000
set_option maxHeartbeats 2000000
namespace Eh
open PySem PySem.Spec PyProof.Rows L2
/-! ### the small methods of the class -/
def inR (v : V) (m : Int) : Bool := match v with
  | .int i => decide (0 ≤ i) && decide (i < m)
  | _ => false
def idxV (v : V) (m : Int) : Bool := intV v && inR v m
theorem intV_int {v : V} (h : intV v = true) : ∃ i, v = .int i := by
  cases v with
  | int i => exact ⟨i, rfl⟩
  | _ => cases h
def kinds4 : List Str := ["all", "mine", "some", "yours"]
def KindsAt (K : PySem.W.Frag) (mg : Str → Option Value) (p : Addr) : Prop := mg "KINDS" = some (.ref p) ∧ ∀ H, SqT K H p (kinds4.map V.str)
section
variable {P : Program} {w : World} {K : PySem.W.Frag} {mg : Str → Option Value} {base : Heap}
def spIndex (K : PySem.W.Frag) : Sp := fun vs H Q _ => ∃ v m, vs = [v, .int m] ∧ KindI K H v ∧ Q (.bl (idxV v m)) H
theorem ok_is_index {fI f : Addr} {fdI fd : FuncData} (F : Fun K "is_index" "is_index" s_is_index f fd) (T : Txt mg) (C_is_integer : Cal P w K mg base 1 "is_integer" fI fdI ["value"] (spInteger K)) : FnOk P w K mg base CX0 2 f fd ["value", "many"] (spIndex K) := by
  refine F.ok sc_is_index (fun vs H Q E h => ?_) (fun cdv A outer s H vs Q E hr h => ?_)
  · obtain ⟨v, m, rfl, _⟩ := h
    rfl
  · obtain ⟨v, m, rfl, hk, q⟩ := h
    refine ⟨_, (pss_one (ps_ret (pe_and (pe_call C_is_integer.G hr (by rfl) C_is_integer.m C_is_integer.k C_is_integer.b .nil pass0 (pa_cons (pv 0) pa_nil)) (pe_one (pe_chain op_le op_lt pe_int (pv 0) (pv 1)))))), ?_⟩
    refine ⟨_, rfl, v, rfl, hk, intV v, rfl, ?_⟩
    unfold idxV at q
    cases e : intV v with
    | false =>
      rw [e] at q
      exact iteF q
    | true =>
      obtain ⟨i, rfl⟩ := intV_int e
      rw [e] at q
      refine iteT ?_
      refine ⟨_, rfl, 0, i, rfl, rfl, decide (0 ≤ i), rfl, ?_⟩
      have q : Q (.bl (decide (0 ≤ i) && decide (i < m))) H := q
      by_cases h0 : 0 ≤ i
      · rw [decide_eq_true h0] at q ⊢
        refine iteT ⟨_, rfl, i, m, rfl, rfl, ?_⟩
        exact q
      · rw [decide_eq_false h0] at q ⊢
        exact iteF q
/-! made[at] -/
def spItem (K : PySem.W.Frag) (C : Addr) : Sp := fun vs H Q _ => ∃ a dx p xs i v, vs = [.ref a, .int i] ∧ H a = some (.ins C dx [(("_nodes" : Str), .ref p)]) ∧ SqT K H p xs ∧ xs.length < 1000 ∧ 0 ≤ i ∧ atI xs i = some v ∧ i < xs.length ∧ Q v H
theorem ok_item {C fI fL fX f : Addr} {fdX fd : FuncData} (F : Fun K "__getitem__" "Promise.__getitem__" s_Promise___getitem__ f fd) (T : Txt mg) (PC : PromC K mg C fI fL) (C_is_index : Cal P w K mg base 2 "is_index" fX fdX ["value", "many"] (spIndex K)) : FnOk P w K mg base CX0 3 f fd ["self", "index"] (spItem K C) := by
  refine F.ok sc_Promise___getitem__ (fun vs H Q E h => ?_) (fun cdv A outer s H vs Q E hr h => ?_)
  · obtain ⟨a, dx, p, xs, i, v, rfl, _⟩ := h
    rfl
  · obtain ⟨a, dx, p, xs, i, v, rfl, ha, hs, hl, h0, hv, hi, q⟩ := h
    refine ⟨_, (pss_cons (ps_if (pt_not (pt_val (pe_call C_is_index.G hr (by rfl) C_is_index.m C_is_index.k C_is_index.b .nil pass0 (pa_cons (pv 1) (pa_cons (pe_callB (lenQ (K := K) rfl) (by rfl) T.len_ (by decide +kernel) (pa_cons (pe_fld (pv 0) rfl) pa_nil)) pa_nil)))))
      (pss_one ps_never) pss_nil)
      (pss_one (ps_ret (pe_ix (ixT (K := K) rfl) (pe_fld (pv 0) rfl) (pv 1) (fun _ _ => rfl))))), ?_⟩
    refine ⟨_, rfl, _, rfl, a, C, dx, _, .ref p, rfl, ha, PC.cl, PC.nn, rfl, .inl ⟨p, xs, rfl, .inr hs, .int i, _, rfl, .inl ⟨i, rfl⟩, _, rfl, ?_⟩⟩
    have e : idxV (.int i) (xs.length : Int) = true := by
      unfold idxV inR intV
      have h10 : i.natAbs < 10 ^ 60 := by omega
      simp [h0, hi]
      omega
    rw [e]
    refine iteF ?_
    exact ⟨_, rfl, a, C, dx, _, .ref p, rfl, ha, PC.cl, PC.nn, rfl, _, rfl, p, xs, i, v, rfl, rfl, hs, hv, q⟩
/-! many -/
def spIsKind (K : PySem.W.Frag) : Sp := fun vs H Q _ => ∃ v, vs = [v] ∧ Sorted5 H v ∧ Q (.bl (inV v (kinds4.map V.str))) H
theorem hu1e {A : Around} {k : Nat} (hr : Room k A) : A.units + 1 < cLine := by
  have := hr.un
  omega
theorem ok_is_kind {pK f : Addr} {fd : FuncData} (F : Fun K "_is_kind" "_is_kind" s__is_kind f fd) (KA : KindsAt K mg pK) : FnOk P w K mg base CX0 1 f fd ["value"] (spIsKind K) := by
  refine F.ok sc__is_kind (fun vs H Q E h => ?_) (fun cdv A outer s H vs Q E hr h => ?_)
  · obtain ⟨v, rfl, _⟩ := h
    rfl
  · obtain ⟨v, rfl, hv, q⟩ := h
    refine ⟨_, (pss_one (ps_ret (pe_cmpR (inS (K := K) rfl (hu1e hr)) (pv 0) (pe_glob (v := .ref pK) rfl KA.1 rfl) (by rfl)))), ?_⟩
    exact ⟨_, rfl, pK, kinds4, rfl, KA.2 H, hv, q⟩
def spMany (K : PySem.W.Frag) (C : Addr) : Sp := fun vs H Q _ => ∃ a z ns, vs = [.ref a, .str z] ∧ PrOk K C H a ns ∧ z ∈ kinds4 ∧ ns.length < 1000 ∧ ∀ H', Same H H' → Q (.int (countIn [z] ns)) H'
theorem mem_inV {z : Str} {ws : List Str} (h : z ∈ ws) : inV (.str z) (ws.map V.str) = true := by
  unfold inV
  rw [List.any_map, List.any_eq_true]
  refine ⟨z, h, ?_⟩
  show eqV (.str z) (.str z) = true
  simp [eqV]
theorem ok_many {C fI fL fX f : Addr} {fdX fd : FuncData} (F : Fun K "many" "Promise.many" s_Promise_many f fd) (T : Txt mg) (PC : PromC K mg C fI fL) (C__is_kind : Cal P w K mg base 1 "_is_kind" fX fdX ["value"] (spIsKind K)) : FnOk P w K mg base CX0 2 f fd ["self", "kind"] (spMany K C) := by
  refine F.ok sc_Promise_many (fun vs H Q E h => ?_) (fun cdv A outer s H vs Q E hr h => ?_)
  · obtain ⟨a, z, ns, rfl, _⟩ := h
    rfl
  · obtain ⟨a, z, ns, rfl, ⟨dx, p, xs, ha, hs, hN, ho⟩, hz, hl, q⟩ := h
    refine ⟨_, (pss_cons (ps_if (pt_not (pt_val (pe_call C__is_kind.G hr (by rfl) C__is_kind.m C__is_kind.k C__is_kind.b .nil pass0 (pa_cons (pv 1) pa_nil))))
      (pss_one ps_never) pss_nil)
      (pss_one (ps_ret (pe_callB (lenQ (K := K) rfl) (by rfl) T.len_ (by decide +kernel) (pa_cons (pe_lc (own := [("first", 2), ("_", 3)]) (g := gTup K 2 (gCons (gName 2) (gCons (gName 3) gNil))) (by rfl) sc_Promise_many.nd (pi_tup (pe_fld (pv 0) rfl)) (blkOk_by (by kernel_rfl)) (fun _ _ _ _ _ => (pgT (K := K) rfl (by rfl) (pgs_cons (pg_name (i := 2) sc_Promise_many.nd rfl (.inl rfl)) (pgs_cons (pg_name (i := 3) sc_Promise_many.nd rfl (.inl rfl)) pgs_nil)))) (fun _ _ _ _ _ => (pts_one (pt_cmpR op_eq (pv 2) (pv 1) (nomark _)))) (fun _ _ _ _ _ => (pv 2))) pa_nil))))), ?_⟩
    refine ⟨_, rfl, .str z, rfl, .inl rfl, _, rfl, ?_⟩
    rw [mem_inV hz]
    refine iteF ?_
    have hxn := hN.length
    refine ⟨_, rfl, a, C, dx, _, .ref p, rfl, ha, PC.cl, PC.nn, rfl, p, rfl, ⟨xs, hs⟩, fun D nD => ?_⟩
    have s1 : Same H (upd H D (.lst [])) := same_new nD
    have nDH : H D = none := nD
    refine lcTg (K := K) (a := p) (xs := xs) (fun j acc H2 => Same H H2 ∧ acc.length = countIn [z] (ns.take j)) ⟨s1, rfl⟩ (fun j ts H2 h => (stk h.1).seq hs) ?_ ?_
    · rintro j x acc H2 hx hl2 e ⟨s2, hm⟩
      obtain ⟨b, k, t, rfl, hk, hb⟩ := hN.get hx
      have hj : j < 1000 := by
        have := (List.getElem?_eq_some_iff.mp hx).1
        omega
      refine ⟨b, _, rfl, (stk s2).seq hb, rfl, _, _, rfl, _, _, rfl, rfl, rfl, ?_⟩
      have ec : countIn [z] (ns.take (j + 1)) = countIn [z] (ns.take j) + (if k = z then 1 else 0) := by
        rw [take_succ' hk]
        unfold countIn
        rw [List.filter_append, List.length_append]
        by_cases e : k = z
        · rw [if_pos e, e]
          simp
        · rw [if_neg e]
          simp [e]
      refine ⟨_, rfl, _, rfl, rfl, _, rfl, ?_⟩
      by_cases e' : k = z
      · rw [if_pos e'] at ec
        refine iteT' (decide_eq_true (by rw [e'])) ?_
        refine ⟨_, rfl, LcK.mk hl2 (by omega) e ⟨fun b' o eb => ?_, ?_⟩⟩
        · rw [upd_ne (ne_of_none eb nDH)]
          exact s2 b' o eb
        · rw [List.length_append, hm, ec]
          rfl
      · rw [if_neg e'] at ec
        refine iteF' (decide_eq_false (fun z' => e' (by injection z'))) ?_
        exact ⟨acc, by omega, e, s2, by rw [hm, ec]; rfl⟩
    · rintro acc H2 hl2 e ⟨s2, hm⟩
      rw [hxn, List.take_length] at hm
      refine .inl ⟨D, acc, rfl, .inl (SqL.of e), ?_⟩
      rw [hm]
      exact q H2 s2
/-! iter, depth -/
def spIterP (K : PySem.W.Frag) (C : Addr) : Nat → Sp := fun n vs H Q _ => ∃ a dx p xs, vs = [.ref a] ∧ H a = some (.ins C dx [(("_nodes" : Str), .ref p)]) ∧ SqT K H p xs ∧ ∀ it, H it = none → n ≤ it → Q (.ref it) (upd H it (ItT p it))
theorem ok_iterP {C fI fL f : Addr} {fd : FuncData} (F : Fun K "__iter__" "Promise.__iter__" s_Promise___iter__ f fd) (T : Txt mg) (PC : PromC K mg C fI fL) : FnN P w K mg base 1 f fd ["self"] (spIterP K C) := by
  refine funN F sc_Promise___iter__ (fun n vs H Q E h => ?_) (fun cdv A outer s H vs Q E hr h => ?_)
  · obtain ⟨a, dx, p, xs, rfl, _⟩ := h
    rfl
  · obtain ⟨a, dx, p, xs, rfl, ha, hs, q⟩ := h
    refine ⟨_, (pss_one (ps_ret (pe_callB call_iterT (by rfl) T.iter_ (by decide +kernel) (pa_cons (pe_fld (pv 0) rfl) pa_nil)))), ?_⟩
    exact ⟨_, rfl, a, C, dx, _, .ref p, rfl, ha, PC.cl, PC.nn, rfl, p, xs, rfl, hs, q⟩
def spDepthP (K : PySem.W.Frag) (C : Addr) : Sp := fun vs H Q _ => ∃ a ns, vs = [.ref a] ∧ PrOk K C H a ns ∧ ns.length < 1000 ∧ ∀ H', Same H H' → Q (.int (depthN ns)) H'
end
end Eh

set_option Elab.async false
set_option linter.all false
set_option maxRecDepth 100000
set_option maxHeartbeats 2000000
namespace Eh
open PySem PySem.Spec PyProof.Rows L2
/-! ### odd values beside a promise: value == promise, value in promise -/
inductive OddV (K : PySem.W.Frag) (H : Hp) : V → String → Prop
  | non : OddV K H .non "NoneType"
  | bl (b : Bool) : OddV K H (.bl b) "bool"
  | int (i : Int) : OddV K H (.int i) "int"
  | str (z : Str) : OddV K H (.str z) "str"
  | tup {a : Addr} {xs : List V} (h : SqT K H a xs) : OddV K H (.ref a) "tuple"
  | dK {a : Addr} {kvs : List (Key × V)} (h : H a = some (.dK kvs)) : OddV K H (.ref a) "dict"
structure OffC (K : PySem.W.Frag) (C : Addr) : Prop where
  sN : PySem.W.subIn K (.ref C) (.type "NoneType") = some false
  sB : PySem.W.subIn K (.ref C) (.type "bool") = some false
  sI : PySem.W.subIn K (.ref C) (.type "int") = some false
  sS : PySem.W.subIn K (.ref C) (.type "str") = some false
  sT : PySem.W.subIn K (.ref C) (.type "tuple") = some false
  sD : PySem.W.subIn K (.ref C) (.type "dict") = some false
  kN : PySem.W.kitOne K (.type "NoneType") (.ref C) = some false
  kB : PySem.W.kitOne K (.type "bool") (.ref C) = some false
  kI : PySem.W.kitOne K (.type "int") (.ref C) = some false
  kS : PySem.W.kitOne K (.type "str") (.ref C) = some false
  kT : PySem.W.kitOne K (.type "tuple") (.ref C) = some false
  kD : PySem.W.kitOne K (.type "dict") (.ref C) = some false
theorem OddV.sub {K : PySem.W.Frag} {H : Hp} {C : Addr} {v : V} {T : String} (h : OddV K H v T) (o : OffC K C) : PySem.W.subIn K (.ref C) (.type T) = some false := by
  cases h with
  | non => exact o.sN
  | bl => exact o.sB
  | int => exact o.sI
  | str => exact o.sS
  | tup => exact o.sT
  | dK => exact o.sD
theorem OddV.kit {K : PySem.W.Frag} {H : Hp} {C : Addr} {v : V} {T : String} (h : OddV K H v T) (o : OffC K C) : PySem.W.kitOne K (.type T) (.ref C) = some false := by
  cases h with
  | non => exact o.kN
  | bl => exact o.kB
  | int => exact o.kI
  | str => exact o.kS
  | tup => exact o.kT
  | dK => exact o.kD
theorem tyTup {K : PySem.W.Frag} {H : Hp} {a : Addr} {xs : List V} (h : SqT K H a xs) : TyX K H (.ref a) (.type "tuple") := by
  rcases h with (h | ⟨o, h⟩) | ⟨o, its, n, h1, h2, _⟩
  · exact .base (.tup h)
  · exact .fTuple h
  · exact .kTuple h1 h2
theorem OddV.ty {K : PySem.W.Frag} {H : Hp} {v : V} {T : String} (h : OddV K H v T) : TyX K H v (.type T) := by
  cases h with
  | non => exact .base .non
  | bl b => exact .base (.bl b)
  | int i => exact .base (.int i)
  | str z => exact .base (.str z)
  | tup h => exact tyTup h
  | dK h => exact .base (.dK h)
theorem OddV.same {K : PySem.W.Frag} {H H' : Hp} {v : V} {T : String} (h : OddV K H v T) (s : Same H H') : OddV K H' v T := by
  cases h with
  | non => exact .non
  | bl b => exact .bl b
  | int i => exact .int i
  | str z => exact .str z
  | tup h => exact .tup ((stk s).seq h)
  | dK h => exact .dK (s _ _ h)
section
variable {X : Cx} {n : Nat} {f C : Addr} {fd : FuncData} {ps : List Str} {sp : Sp} {CX : CXT} {E : XK}
def rEqOdd (K : PySem.W.Frag) (C : Addr) (sp : Sp) (E : XK) : R2 := fun x y H Q => ∃ a dx fs T, y = .ref a ∧ H a = some (.ins C dx fs) ∧ OddV K H x T ∧ sp [.ref a, x] H (fun v H' => ∃ k, v = .bl k ∧ Q (.bl k) H') E
theorem eqOdd (F : FnOk X.prog X.w X.K X.mg X.base CX n f fd ps sp) (hr : Room n X.A) (o : OffC X.K C) (hs : PySem.W.findIn X.K (.ref C) "__eq__" = some (some (.ref f))) (hf : PySem.W.isFn X.K (.ref f) = true) (hb : Binds X.K fd ps []) (hx : Passes CX X E) :
    OpR X (compareOp .Eq) (rEqOdd X.K C sp E) := by
  intro pins s σ H x y v u Q I rx ry h
  obtain ⟨a, dx, fs, T, rfl, ha, od, q⟩ := h
  cases ry
  obtain ⟨mA, J, _⟩ := ins_get I.hok ha
  have hob := J.obj
  obtain ⟨od2, J, _⟩ := J.look
  show wpAny _ _ (richCompare .Eq v (.ref a)) _ _ _
  have hc : wpAny (model X.prog X.w) X.A (call (.ref f) [.ref a, v]) (PySem.W.CmpBack (EP X pins σ Q)) X.xe s := wpAny_mono (run_own (us := [.ref a, v]) (vs := [.ref a, x]) F hb hx ⟨hr, rfl⟩ I (.cons rfl (.cons rx .nil)) q) (fun r s' z => by
    obtain ⟨z, H', I', rz, k, rfl, q'⟩ := z
    cases rz
    exact ⟨.bl k, H', I', rfl, q'⟩) fun _ _ e => e
  have hsub := od.sub o
  cases od with
  | non =>
    cases (show v = Value.none from rx)
    exact rc_right hr.units0 rfl rfl I.kIn J hsub PySem.F.slot_NoneType_eq (fun _ _ h => dec_none h) hs hf hc
  | bl b =>
    cases (show v = Value.bool b from rx)
    exact rc_right hr.units0 rfl rfl I.kIn J hsub PySem.F.slot_bool_eq (fun _ _ h => dec_bool hob h) hs hf hc
  | int i =>
    obtain ⟨t, rfl⟩ := rx
    exact rc_right hr.units0 (typeIs_int s i t) rfl I.kIn J hsub PySem.F.slot_int_eq (fun _ _ h => dec_int hob h) hs hf hc
  | str z =>
    obtain ⟨t, rfl⟩ := rx
    exact rc_right hr.units0 (typeIs_str s z t) rfl I.kIn J hsub PySem.F.slot_str_eq (fun _ _ h => dec_str hob h) hs hf hc
  | tup h =>
    rename_i p xs
    cases rx
    obtain ⟨its, rv, pl, hz⟩ := I.tuple h
    obtain ⟨ob, ho, hcl, _⟩ := id pl
    exact rc_right hr.units0 ⟨ob, ho, hcl⟩ (oneThing_ref _ _ _) I.kIn J hsub PySem.F.slot_tuple_eq (fun _ _ h => dec_tuple pl I.kIn J o.sT h) hs hf hc
  | dK h =>
    rename_i p kvs
    cases rx
    obtain ⟨_, _, _, _, ob, es, ep, h1, h2, h3, _⟩ := (show ObjOk X.prog X.w H s.heap p (.dK kvs) from I.hok p _ h)
    obtain ⟨oc, odd, dt, sl⟩ := ob
    have e1 : oc = .type "dict" := h2.1
    simp only at h3
    subst e1 h3
    exact rc_right hr.units0 ⟨_, h1, rfl⟩ (oneThing_ref _ _ _) I.kIn J hsub PySem.F.slot_dict_eq (fun _ _ h => dec_dict h1 I.kIn J o.sD h) hs hf hc
end
section
variable {P : Program} {w : World} {K : PySem.W.Frag} {mg : Str → Option Value} {base : Heap}
/-! == and in of the class, for promises and odd values -/
def spEqA (K : PySem.W.Frag) (C : Addr) : Sp := fun vs H Q _ => (∃ a b ns ms, vs = [.ref a, .ref b] ∧ PrG K C H a ns ∧ PrG K C H b ms ∧ Q (.bl (decide (ns = ms))) H) ∨ ∃ a v T, vs = [.ref a, v] ∧ OddV K H v T ∧ Q (.bl false) H
theorem ok_eqA {C fI fL f : Addr} {fd : FuncData} (F : Fun K "__eq__" "Promise.__eq__" s_Promise___eq__ f fd) (T : Txt mg) (PC : PromC K mg C fI fL) (IC : IsC K C) (o : OffC K C) : FnOk P w K mg base CX0 1 f fd ["self", "value"] (spEqA K C) := by
  refine F.ok sc_Promise___eq__ (fun vs H Q E h => ?_) (fun cdv A outer s H vs Q E hr h => ?_)
  · rcases h with ⟨a, b, ns, ms, rfl, _⟩ | ⟨a, v, T, rfl, _⟩ <;> rfl
  · refine ⟨_, (pss_one (ps_ret (pe_and (pe_callB (isiQ (K := K) rfl) (by rfl) T.isinstance_ (by decide +kernel) (pa_cons (pv 1) (pa_cons (pe_glob (v := .ref C) rfl PC.g rfl) pa_nil))) (pe_one (pe_cmpR (eqD (K := K) rfl (hu64e hr)) (pe_fld (pv 0) rfl) (pe_fld (pv 1) rfl) (nomark _)))))), ?_⟩
    rcases h with ⟨a, b, ns, ms, rfl, ⟨dx, p, xs, ha, hs, hN, ho⟩, ⟨dy, r, ys, hb, hs2, hN2, ho2⟩, q⟩ | ⟨a, v, T, rfl, od, q⟩
    · refine ⟨_, rfl, .ref b, .ref C, .ref C, .ref C, true, rfl, .own _, .base (.ins hb PC.cl IC.cls IC.sp IC.tk IC.mro), IC.self, _, rfl, iteT ?_⟩
      refine ⟨_, rfl, a, C, dx, _, .ref p, rfl, ha, PC.cl, PC.nn, rfl, _, rfl, b, C, dy, _, .ref r, rfl, hb, PC.cl, PC.nn, rfl, ?_⟩
      refine ⟨nodesD ns, nodesD ms, .tup hs (dp_nodesG hN ho), .tup hs2 (dp_nodesG hN2 ho2), nodes_shapedG ho, nodes_shapedG ho2, ?_⟩
      rw [nodes_eqvG ho ho2]
      exact q
    · exact ⟨_, rfl, v, .ref C, .type T, .ref C, false, rfl, .own _, od.ty, od.kit o, _, rfl, iteF q⟩
def spInA (K : PySem.W.Frag) (C : Addr) : Sp := fun vs H Q _ => (∃ a b ns ms, vs = [.ref a, .ref b] ∧ PrG K C H a ns ∧ PrG K C H b ms ∧ ns.length < 1000 ∧ ms.length < 1000 ∧ ∀ H', Same H H' → Q (.bl (hasB ns ms)) H') ∨ ∃ a v T, vs = [.ref a, v] ∧ OddV K H v T ∧ Q (.bl false) H
theorem ok_inA {C fI fL fH fN pN f : Addr} {fdH fdN fd : FuncData} (F : Fun K "__contains__" "Promise.__contains__" s_Promise___contains__ f fd) (T : Txt mg) (PC : PromC K mg C fI fL) (IC : IsC K C) (o : OffC K C) (C_has_part : Cal P w K mg base 1 "has_part" fH fdH ["nodes", "part"] (spHas K))
    (PN : PropOf K C "nodes" pN fN) (GN : FnOk P w K mg base CX0 1 fN fdN ["self"] (spNodesP K C)) (bN : Binds K fdN ["self"] []) : FnOk P w K mg base CX0 3 f fd ["self", "value"] (spInA K C) := by
  refine F.ok sc_Promise___contains__ (fun vs H Q E h => ?_) (fun cdv A outer s H vs Q E hr h => ?_)
  · rcases h with ⟨a, b, ns, ms, rfl, _⟩ | ⟨a, v, T, rfl, _⟩ <;> rfl
  · have hr1 := hr.mono (j := 1) (by omega)
    have hr2 := hr.mono (j := 2) (by omega)
    refine ⟨_, (pss_one (ps_ret (pe_and (pe_callB (isiQ (K := K) rfl) (by rfl) T.isinstance_ (by decide +kernel) (pa_cons (pv 1) (pa_cons (pe_glob (v := .ref C) rfl PC.g rfl) pa_nil))) (pe_one (pe_call C_has_part.G hr1 (by rfl) C_has_part.m C_has_part.k C_has_part.b .nil pass0 (pa_cons (pe_fld (pv 0) rfl) (pa_cons (pe_prop (pv 1) PC.cl PN GN hr2 bN .nil pass0 rfl) pa_nil))))))), ?_⟩
    rcases h with ⟨a, b, ns, ms, rfl, ⟨dx, p, xs, ha, hs, hN, ho⟩, ⟨dy, r, ys, hb, hs2, hN2, ho2⟩, l1, l2, q⟩ | ⟨a, v, T, rfl, od, q⟩
    · refine ⟨_, rfl, .ref b, .ref C, .ref C, .ref C, true, rfl, .own _, .base (.ins hb PC.cl IC.cls IC.sp IC.tk IC.mro), IC.self, _, rfl, iteT ?_⟩
      refine ⟨_, rfl, a, C, dx, _, .ref p, rfl, ha, PC.cl, PC.nn, rfl, _, rfl, b, dy, _, rfl, hb, b, dy, _, r, rfl, hb, rfl, ?_⟩
      exact ⟨p, r, xs, ys, ns, ms, rfl, hs, hN, ho, hs2, hN2, ho2, by rw [hN.length]; exact l1, by rw [hN2.length]; exact l2, q⟩
    · exact ⟨_, rfl, v, .ref C, .type T, .ref C, false, rfl, .own _, od.ty, od.kit o, _, rfl, iteF q⟩
end
end Eh

set_option Elab.async false
set_option linter.all false
set_option maxRecDepth 100000
set_option maxHeartbeats 2000000
namespace Eh
open PySem PySem.Spec PyProof.Rows L2
/-! ### sorted texts without repetition are told by their members -/
theorem cps_anti : ∀ {a b : List Nat}, ltCps a b = false → ltCps b a = false → a = b
  | [], [], _, _ => rfl
  | [], _ :: _, h, _ => by cases h
  | _ :: _, [], _, h => by cases h
  | a :: r, b :: t, h, k => by
    have h : (decide (a < b) || (a == b && ltCps r t)) = false := h
    have k : (decide (b < a) || (b == a && ltCps t r)) = false := k
    rw [Bool.or_eq_false_iff] at h k
    have h1 := of_decide_eq_false h.1
    have k1 := of_decide_eq_false k.1
    have e : a = b := by omega
    subst e
    have h2 : ltCps r t = false := by simpa using h.2
    have k2 : ltCps t r = false := by simpa using k.2
    rw [cps_anti h2 k2]
theorem cps_trans : ∀ {a b c : List Nat}, ltCps b a = false → ltCps c b = false → ltCps c a = false
  | _, _, [], h, k => by
    rename_i a b
    cases a with
    | nil => rfl
    | cons x r =>
      cases b with
      | nil => cases h
      | cons y t => cases k
  | [], _, _ :: _, _, _ => rfl
  | _ :: _, [], _ :: _, h, _ => by cases h
  | a :: r, b :: t, c :: u, h, k => by
    have h : (decide (b < a) || (b == a && ltCps t r)) = false := h
    have k : (decide (c < b) || (c == b && ltCps u t)) = false := k
    show (decide (c < a) || (c == a && ltCps u r)) = false
    rw [Bool.or_eq_false_iff] at h k ⊢
    have h1 := of_decide_eq_false h.1
    have k1 := of_decide_eq_false k.1
    refine ⟨decide_eq_false (by omega), ?_⟩
    by_cases e : c = a
    · have e1 : b = a := by omega
      subst e1
      subst e
      have h2 : ltCps t r = false := by simpa using h.2
      have k2 : ltCps u t = false := by simpa using k.2
      rw [cps_trans h2 k2]
      simp
    · simp [e]
theorem rising_all : ∀ {x : Str} {r : List Str}, risingS x r = true → ∀ y ∈ r, ltCps y.cps.toList x.cps.toList = false
  | _, [], _, y, h => by cases h
  | x, z :: r, h, y, hy => by
    have h : (!ltCps z.cps.toList x.cps.toList && risingS z r) = true := h
    rw [Bool.and_eq_true, Bool.not_eq_true'] at h
    rcases List.mem_cons.mp hy with e | e
    · rw [e]; exact h.1
    · exact cps_trans h.1 (rising_all h.2 y e)
theorem sorted_tail : ∀ {x : Str} {r : List Str}, sortedS (x :: r) = true → sortedS r = true
  | _, [], _ => rfl
  | x, z :: r, h => by
    have h : (!ltCps z.cps.toList x.cps.toList && risingS z r) = true := h
    rw [Bool.and_eq_true] at h
    exact h.2
theorem str_cps {x y : Str} (h : x.cps.toList = y.cps.toList) : x = y := by
  cases x
  cases y
  congr
  exact Array.toList_inj.mp h
theorem sorted_unique : ∀ {xs ys : List Str}, sortedS xs = true → sortedS ys = true → xs.Nodup → ys.Nodup → (∀ z, z ∈ xs ↔ z ∈ ys) → xs = ys
  | [], [], _, _, _, _, _ => rfl
  | [], y :: ys, _, _, _, _, h => by cases (h y).mpr List.mem_cons_self
  | x :: xs, [], _, _, _, _, h => by cases (h x).mp List.mem_cons_self
  | x :: xs, y :: ys, sx, sy, nx, ny, h => by
    obtain ⟨nx1, nx2⟩ := List.nodup_cons.mp nx
    obtain ⟨ny1, ny2⟩ := List.nodup_cons.mp ny
    have exy : x = y := by
      rcases List.mem_cons.mp ((h x).mp List.mem_cons_self) with e | e
      · exact e
      · rcases List.mem_cons.mp ((h y).mpr List.mem_cons_self) with e' | e'
        · exact e'.symm
        · exact str_cps (cps_anti (rising_all sy x e) (rising_all sx y e'))
    subst exy
    rw [sorted_unique (sorted_tail sx) (sorted_tail sy) nx2 ny2 fun z => ?_]
    constructor
    · intro hz
      rcases List.mem_cons.mp ((h z).mp (List.mem_cons_of_mem _ hz)) with e | e
      · rw [e] at hz; exact absurd hz nx1
      · exact e
    · intro hz
      rcases List.mem_cons.mp ((h z).mpr (List.mem_cons_of_mem _ hz)) with e | e
      · rw [e] at hz; exact absurd hz ny1
      · exact e
/-! ### the inner promises -/
mutual
def innerOf : Pl → List Pl
  | .leaf k t => [.leaf k t]
  | .node k ps => .node k ps :: innerAll ps
def innerAll : List Pl → List Pl
  | [] => []
  | p :: ps => innerOf p ++ innerAll ps
end
theorem innerOf_eq (p : Pl) : innerOf p = p :: innerAll (partsPl p) := by
  cases p with
  | leaf k t => rw [innerOf, partsPl, innerAll]
  | node k ps => rw [innerOf, partsPl]
mutual
theorem inner_len : ∀ p : Pl, (innerOf p).length = (nodesOf p).length
  | .leaf k t => by rw [innerOf, nodesOf]; rfl
  | .node k ps => by rw [innerOf, nodesOf, List.length_cons, List.length_cons, innerAll_len ps]
theorem innerAll_len : ∀ ps : List Pl, (innerAll ps).length = (nodesAll ps).length
  | [] => by rw [innerAll, nodesAll]; rfl
  | p :: ps => by rw [innerAll, nodesAll, List.length_append, List.length_append, inner_len p, innerAll_len ps]
end
theorem innerAll_take : ∀ {ps : List Pl} {i : Nat} {p : Pl}, ps[i]? = some p → innerAll (ps.take (i + 1)) = innerAll (ps.take i) ++ innerOf p
  | [], _, _, h => by simp at h
  | q :: ps, 0, p, h => by
    cases (show some q = some p from h)
    show innerAll [q] = innerAll [] ++ innerOf q
    show innerOf q ++ innerAll [] = innerAll [] ++ innerOf q
    rw [show innerAll [] = [] from by rw [innerAll], List.append_nil, List.nil_append]
  | q :: ps, i + 1, p, h => by
    show innerAll (q :: ps.take (i + 1)) = innerAll (q :: ps.take i) ++ innerOf p
    rw [innerAll, innerAll, innerAll_take (ps := ps) (i := i) h, List.append_assoc]
theorem innerAll_append : ∀ (ps qs : List Pl), innerAll (ps ++ qs) = innerAll ps ++ innerAll qs
  | [], qs => by rw [List.nil_append, innerAll, List.nil_append]
  | p :: ps, qs => by rw [List.cons_append, innerAll, innerAll, innerAll_append ps qs, List.append_assoc]
theorem innerAll_take_len (ps : List Pl) (i : Nat) : (innerAll (ps.take i)).length ≤ (nodesAll ps).length := by
  have h := congrArg List.length (innerAll_append (ps.take i) (ps.drop i))
  rw [List.take_append_drop, List.length_append, innerAll_len] at h
  omega
/-- what stands at each place of the nodes -/
inductive DropI : List (Str × V) → List Pl → Prop
  | nil : DropI [] []
  | cons {p : Pl} {ns : List (Str × V)} {ps : List Pl} {n : Str × V} : (∃ r, n :: ns = nodesOf p ++ r) → DropI ns ps → DropI (n :: ns) (p :: ps)
mutual
theorem dropI_of : ∀ (p : Pl) {ns : List (Str × V)} {ps : List Pl}, DropI ns ps → DropI (nodesOf p ++ ns) (innerOf p ++ ps)
  | .leaf k t, ns, ps, h => by
    rw [nodesOf, innerOf]
    exact .cons ⟨ns, by rw [nodesOf]; rfl⟩ h
  | .node k qs, ns, ps, h => by
    have ih := dropI_all qs h
    rw [nodesOf, innerOf]
    exact .cons ⟨ns, by rw [nodesOf]; rfl⟩ ih
theorem dropI_all : ∀ (qs : List Pl) {ns : List (Str × V)} {ps : List Pl}, DropI ns ps → DropI (nodesAll qs ++ ns) (innerAll qs ++ ps)
  | [], ns, ps, h => by rw [nodesAll, innerAll]; exact h
  | q :: qs, ns, ps, h => by
    rw [nodesAll, innerAll, List.append_assoc, List.append_assoc]
    exact dropI_of q (dropI_all qs h)
end
theorem DropI.get : ∀ {ns : List (Str × V)} {ps : List Pl}, DropI ns ps → ∀ {i : Nat} {p : Pl}, ps[i]? = some p → i < ns.length ∧ ∃ r, ns.drop i = nodesOf p ++ r
  | _, _, .nil, i, p, h => by simp at h
  | _, _, .cons (p := q) (n := n) (ns := ns) hr t, 0, p, h => by
    cases (show some q = some p from h)
    exact ⟨Nat.succ_pos _, hr⟩
  | _, _, .cons hr t, i + 1, p, h => by
    obtain ⟨a, b⟩ := t.get (i := i) h
    exact ⟨Nat.succ_lt_succ a, b⟩
theorem DropI.length : ∀ {ns : List (Str × V)} {ps : List Pl}, DropI ns ps → ps.length = ns.length
  | _, _, .nil => rfl
  | _, _, .cons _ t => by rw [List.length_cons, List.length_cons, t.length]
theorem dropI_self (p : Pl) : DropI (nodesOf p) (innerOf p) := by
  have h := dropI_of p .nil
  rwa [List.append_nil, List.append_nil] at h
mutual
theorem inner_ok : ∀ {p : Pl}, plOk p = true → ∀ q ∈ innerOf p, plOk q = true
  | .leaf k t, h, q, hq => by
    rw [innerOf] at hq
    rw [List.mem_singleton.mp hq]
    exact h
  | .node k ps, h, q, hq => by
    rw [innerOf] at hq
    rcases List.mem_cons.mp hq with e | e
    · rw [e]; exact h
    · rw [plOk, Bool.and_eq_true] at h
      exact innerAll_ok h.2 q e
theorem innerAll_ok : ∀ {ps : List Pl}, plsOk ps = true → ∀ q ∈ innerAll ps, plOk q = true
  | [], _, q, hq => by
    rw [innerAll] at hq
    cases hq
  | p :: ps, h, q, hq => by
    rw [plsOk, Bool.and_eq_true] at h
    rw [innerAll] at hq
    rcases List.mem_append.mp hq with e | e
    · exact inner_ok h.1 q e
    · exact innerAll_ok h.2 q e
end
theorem hasB_inner {p q : Pl} (hp : plOk p = true) (hq : plOk q = true) : hasB (nodesOf p) (nodesOf q) = true ↔ q ∈ innerOf p := by
  have D := dropI_self p
  have hl := D.length
  unfold hasB
  rw [List.any_map, List.any_eq_true]
  constructor
  · rintro ⟨i, hi, h⟩
    have h : hasAt (nodesOf p) (nodesOf q) i = true := h
    unfold hasAt at h
    have h := of_decide_eq_true h
    have hi := List.mem_range.mp hi
    obtain ⟨t, ht⟩ : ∃ t, (innerOf p)[i]? = some t := ⟨_, List.getElem?_eq_getElem (by omega)⟩
    obtain ⟨_, r, hr⟩ := D.get ht
    have e : nodesOf t ++ r = nodesOf q ++ ((nodesOf p).drop i).drop (nodesOf q).length := by
      rw [← hr]
      have := List.take_append_drop (nodesOf q).length ((nodesOf p).drop i)
      rw [h] at this
      exact this.symm
    obtain ⟨z, _⟩ := nodes_inj (inner_ok hp t (List.mem_of_getElem? ht)) hq e
    rw [← z]
    exact List.mem_of_getElem? ht
  · intro h
    obtain ⟨i, hi⟩ := List.mem_iff_getElem?.mp h
    obtain ⟨a, r, hr⟩ := D.get hi
    refine ⟨i, List.mem_range.mpr a, ?_⟩
    show hasAt (nodesOf p) (nodesOf q) i = true
    unfold hasAt
    rw [hr, List.take_left]
    exact decide_eq_true rfl
theorem inner_sub : ∀ {p q : Pl}, q ∈ innerOf p → (∀ n ∈ nodesOf q, n ∈ nodesOf p) ∧ (nodesOf q).length ≤ (nodesOf p).length := fun {p q} h => by
  obtain ⟨i, hi⟩ := List.mem_iff_getElem?.mp h
  obtain ⟨a, r, hr⟩ := (dropI_self p).get hi
  refine ⟨fun n hn => List.mem_of_mem_drop (i := i) (by rw [hr]; exact List.mem_append_left _ hn), ?_⟩
  have := congrArg List.length hr
  rw [List.length_drop, List.length_append] at this
  omega
/-! ### the law's defs -/
theorem AtAll.app {K : PySem.W.Frag} {H : Hp} : ∀ {vs us : List V} {ps qs : List Pl}, AtAll K H vs ps → AtAll K H us qs → AtAll K H (vs ++ us) (ps ++ qs)
  | _, _, _, _, .nil, h => h
  | _, _, _, _, .cons h r, h' => .cons h (r.app h')
section
variable {P : Program} {w : World} {K : PySem.W.Frag} {mg : Str → Option Value} {base : Heap}
def spLParts (K : PySem.W.Frag) : Sp := fun vs H Q _ => ∃ v pl, vs = [v] ∧ At K H v pl ∧ ∀ l us H', Same H H' → H l = none → H' l = some (.lst us) → AtAll K H' us (partsPl pl) → Q (.ref l) H'
def spInner (K : PySem.W.Frag) (n : Nat) : Sp := fun vs H Q _ => ∃ v pl, vs = [v] ∧ At K H v pl ∧ (nodesOf pl).length ≤ n ∧ n < 1000 ∧ ∀ xs p H', Same H H' → H p = none → H' p = some (.lst xs) → AtAll K H' xs (innerOf pl) → Q (.ref p) H'
def spLFacts (K : PySem.W.Frag) (n : Nat) : Sp := fun vs H Q _ => ∃ v pl, vs = [v] ∧ At K H v pl ∧ GoodN (nodesOf pl) ∧ (nodesOf pl).length ≤ n ∧ n < 60 ∧
  ∀ (ys : List Str) p' H', Same H H' → H p' = none → H' p' = some (.lst (ys.map V.str)) → ys.Nodup → sortedS ys = true → (∀ z, z ∈ ys ↔ z ∈ factsN (nodesOf pl)) → Q (.ref p') H'
end
end Eh

set_option Elab.async false
set_option linter.all false
set_option maxRecDepth 100000
set_option maxHeartbeats 2000000
/-! defs that want a token out (they replace in texts); a class held by a local name; a classmethod without arguments; xs[i] of a list, raw -/
namespace Eh
open PySem PySem.Spec PyProof.Rows L2
structure FnT (P : Program) (w : World) (K : PySem.W.Frag) (mg : Str → Option Value) (base : Heap) (k : Nat) (f : Addr) (fd : FuncData) (ps : List Str) (sp : Sp) : Prop where
  len : ∀ vs H Q E, sp vs H Q E → vs.length = ps.length
  run : ∀ (A : Around) (outer : List Env) (s : Shared) (H : Hp) (args : Args) (us : List Value) (vs : List V) (Q : VK) (E : XK), 1 ≤ s.toks → Room k A → Env0 P w K mg base A outer s H →
    BindsTo s fd args (ps.zip us) → Vals vs us → sp vs H Q E → codeAny (model P w) A (.call (.ref f) args) (CR CX0 outer P w H s Q E) s
section
variable {P : Program} {w : World} {K : PySem.W.Frag} {mg : Str → Option Value} {base : Heap}
theorem funT {x qual : Str} {st : Stmt} {f : Addr} {fd : FuncData} {N ps : List Str} {k : Nat} {sp : Sp} (F : Fun K x qual st f fd) (S : FnScope N ps (defScope st)) (len : ∀ vs H Q E, sp vs H Q E → vs.length = ps.length)
    (body : ∀ (cdv : Value) (A : Around) (outer : List Env) (s : Shared) (H : Hp) (vs : List V) (Q : VK) (E : XK),
      Room k (A.deeper (envOfC qual (defScope st) s.heap.objs.size f cdv)) → sp vs H Q E →
      ∃ t, PSsT (cxOf CX0 P w K mg base N qual (defScope st) f cdv A outer s H E).nox (defBody st) t ∧ t { nx := fun _ H' => Q .non H', rt := Q } (start N vs) H) : FnT P w K mg base (k + 1) f fd ps sp where
  len := len
  run A outer s H args us vs Q E ht0 hr e0 hb r hsp := by
    obtain ⟨oc, od, kV, doc, pm, an, cdv, ct, osl, rfl, lk, hcd⟩ := F.ex
    have old := fun b o e => (e0.bs b o e).1
    have KX := e0.mod.kin.keeps old
    have ok := fun (y : Str × Value) (hy : y ∈ ps.zip us) => S.par y.1 (List.of_mem_zip (a := y.1) (b := y.2) hy).1
    refine codeAny_call_function hr.depth (KX _ _ lk) rfl S.co S.gen rfl (PySem.W.codeRec_of KX hcd) (hb _ _ _ _ ?_)
    refine wpAny_mono (PySem.wpAny_toks (wpAny_newFunctionEnv_cells (Q := fun env s1 => env = envOfC qual (defScope st) s.heap.objs.size f cdv ∧
      InCallC s env.locals (bindL env.kindOf (ps.zip us) fun _ => none) env.cells (bindC env.kindOf (ps.zip us) fun _ => none) s1) S.kind (fun y hy => (ok y hy).imp id fun q => ⟨q, PySem.W.cellsFrom_some _ _ _ (.inl q)⟩) fun env he s1 x => ⟨he, x⟩)) (fun env s1 z => ?_) fun _ _ z => z.2
    obtain ⟨hk, he, x⟩ := z
    cases he
    obtain ⟨t, ht, hq⟩ := body cdv A outer s H vs Q E (hr.deeper _) hsp
    refine ⟨(e0.mod.nolimit.keeps old).keeps x.toInCall.keep, codeAny_func ?_⟩
    have I := inv_start (CX := CX0) (E := E) S hr.hd e0 (len _ _ _ _ hsp) r x
    refine wpAny_mono (ht [] s1 (start N vs) H _ (Nat.le_trans ht0 hk) (I.wish _) hq) (fun fl s' hs => ?_) fun _ _ h => False.elim h
    have fin {σ' : L2.St} {H' : Hp} {v : V} {u : Value} (J : Inv (cxOf CX0 P w K mg base N qual (defScope st) f cdv A outer s H E) [] σ' H' s') (rv : RelV v u) (q : Q v H') : CE outer P w H s Q u s' := ⟨v, H', J.os, J.bare, J.base, J.hok, rv, q⟩
    match fl, hs with
    | .ret u, ⟨v, _, _, J, rv, q⟩ => exact fin J.unwish rv q
    | .next, ⟨_, _, J, q⟩ => exact fin (v := V.non) J.unwish rfl q
    | .brk, ⟨_, _, _, q⟩ => exact q.elim
    | .cont, ⟨_, _, _, q⟩ => exact q.elim
end
section
variable {X : Cx} {pins : List (Addr × Obj)} {σ : L2.St} {H : Hp} {s : Shared} {k : Nat} {f : Addr} {fd : FuncData} {ps : List Str} {sp : Sp}
theorem run_fnT {us : List Value} {vs : List V} {Q : VK} (F : FnT X.prog X.w X.K X.mg X.base k f fd ps sp) (hr : Room k X.A) (hb : Binds X.K fd ps []) (ht : 1 ≤ s.toks) (I : Inv X pins σ H s) (r : Vals vs us) (hsp : sp vs H Q E0) :
    wpAny (model X.prog X.w) X.A (call (.ref f) us) (EP X pins σ Q) X.xe s := by
  have hl := F.len _ _ _ _ hsp
  have hu : us.length = ps.length := by rw [← r.length]; exact hl
  have b := hb s us I.kIn (by rw [List.append_nil]; exact hu)
  rw [List.append_nil] at b
  refine wpAny_call (codeAny_mono (F.run X.A X.stack s H ⟨us, []⟩ us vs Q E0 ht hr I.env0 b r hsp) fun r s' hq => ?_)
  cases r with
  | error e => exact False.elim hq
  | ok fl =>
    cases fl with
    | ret u => exact I.after hq
    | next => exact False.elim hq
    | brk => exact False.elim hq
    | cont => exact False.elim hq
/-- f(e, ..), f wants a token out -/
theorem pet_callT {x : Str} {p pos : Pos} {e : Expr} {es : List Expr} {t : TA} (F : FnT X.prog X.w X.K X.mg X.base k f fd ps sp) (hr : Room k X.A) (hg : Gl X x) (hm : X.mg x = some (.ref f)) (hk : PySem.W.keepIn X.K (.ref f) = true) (hb : Binds X.K fd ps []) (ha : PA X (e :: es) t)
    (hdb : (x == ("__debug__" : Str)) = false := by decide) (he : starEach (e :: es) X.env = (false, eval e X.env) :: starEach es X.env := by rfl)
    (hpl : (backTo pos (starEach es X.env)).any (·.1) = false := by rfl) : PET X (.Call (.Name x p) (e :: es) [] pos) (fun σ H Q => t σ H fun vs H1 => sp vs H1 Q E0) := by
  intro pins s σ H Q ht I h
  refine wpAny_Call_Name_kw (ld_glob I hg hm (PySem.W.callWith_K (h₀ := X.base) I.ok.mod.kin hk (wpAny_mono (PySem.wpAny_toks (ha.run pos pins s σ H _ I h)) (fun us s1 hh => ?_) fun _ _ z => z.2) he hpl) hdb)
  obtain ⟨hk2, vs, H1, I1, r, q⟩ := hh
  exact ⟨I1.kIn, run_fnT F hr hb (Nat.le_trans ht hk2) I1 r q⟩
theorem pst_set {i : Nat} {x : Str} {e : Expr} {te : TE} {pos' pos : Pos} (hN : X.N.Nodup) (hi : X.N[i]? = some x) (hx : Loc X.env.scope x) (he : PET X e te) (hs : swapsWith e (some (.Name x pos')) pos.line X.env = pure false := by rfl) (hf : X.fn x = true ∨ X.env.scope.names.lookup x = some .local := by first | exact .inl rfl | exact .inr rfl | assumption) :
    PST X (.Assign [.Name x pos'] e pos) (tAsg te (gName i)) := by
  intro pins s σ H D h0 I h
  refine wpAny_Assign_Name (thn (he pins s σ H _ h0 I h) fun v s1 ⟨y, H1, I1, r1, q1⟩ => ?_) hs
  exact store_ok I1 hN hi hx r1 (fun s2 I2 => ⟨_, H1, I2, q1⟩) hf
/-! xs[i], raw -/
def rGetL (K : PySem.W.Frag) : V → V → Hp → VK → Prop := fun o i H Q => ∃ p xs k v, o = .ref p ∧ i = .int k ∧ SqL K H p xs ∧ 0 ≤ k ∧ k < 2 ^ 63 ∧ xs[k.toNat]? = some v ∧ Q v H
theorem get_list : PGet X (rGetL X.K) := by
  intro pins s σ H o i ov iv Q I ro ri h
  obtain ⟨p, xs, k, v, rfl, rfl, hq, h0, hf, hv, q⟩ := h
  cases ro
  obtain ⟨t, rfl⟩ := ri
  obtain ⟨its, r, pl, hz⟩ := I.list hq
  obtain ⟨w, ew, rw'⟩ := r.get hv
  exact wpAny_getItem_list pl.isList h0 hf (by simpa using ew) ⟨v, H, I, rw', q⟩
/-! a class held by a local name -/
def tMakeL (i : Nat) (C : Addr) (sp : Sp) (E : L2.St → XK) (t : TA) : TE := fun σ H Q => σ[i]? = some (some (.ref C)) ∧ tMakeS C sp E t σ H Q
theorem pe_makeL {CX : CXT} {C : Addr} {E : L2.St → XK} {i : Nat} {x : Str} {p pos : Pos} {e : Expr} {es : List Expr} {t : TA} (M : Mk X.K C f) (F : FnOk X.prog X.w X.K X.mg X.base CX k f fd ps sp) (hr : Room (k + 1) X.A) (hN : X.N[i]? = some x) (hv : Vis X.env.scope x) (hb : Binds X.K fd ps []) (hx : ∀ σ, PassesAt CX X σ (E σ))
    (ha : PA X (e :: es) t) (hdb : (x == ("__debug__" : Str)) = false := by decide) (hcd : (x == ("__classdict__" : Str)) = false := by decide) (he : starEach (e :: es) X.env = (false, eval e X.env) :: starEach es X.env := by rfl) (hpl : (backTo pos (starEach es X.env)).any (·.1) = false := by rfl) :
    PE X (.Call (.Name x p) (e :: es) [] pos) (tMakeL i C sp E t) := by
  refine ⟨fun pins s σ H Q I h => ?_⟩
  obtain ⟨hs, h⟩ := h
  refine wpAny_Call_Name_kw (thn ((pe_var (pos := p) hN hv hdb hcd).run pins s σ H (fun v H1 => v = .ref C ∧ H1 = H) I ⟨.ref C, hs, rfl, rfl⟩) fun u s1 ⟨v, H1, I1, r1, q1⟩ => ?_)
  obtain ⟨rfl, rfl⟩ := q1
  cases r1
  refine PySem.W.callWith_K (h₀ := X.base) I.ok.mod.kin M.kp (thn (ha.run pos pins s1 σ _ _ I1 h) fun us s2 ⟨vs, H2, I2, r, q⟩ => ⟨I2.kIn, ?_⟩) he hpl
  exact run_makeS M F hr hb (hx σ) I2 r q
end
end Eh

set_option Elab.async false
set_option linter.all false
set_option maxRecDepth 100000
set_option maxHeartbeats 2000000
/-! classmethods of own classes, by FnOk and FnT -/
namespace Eh
open PySem PySem.Spec PyProof.Rows L2
open ClX
theorem toR {P : Program} {w : World} {K : PySem.W.Frag} {mg : Str → Option Value} {base : Heap} {CX : CXT} {k : Nat} {f : Addr} {fd : FuncData} {ps : List Str} {sp : Sp} (F : FnOk P w K mg base CX k f fd ps sp) (hb : Binds K fd ps []) : FnR P w K mg base CX k f sp := by
  intro A outer s H us vs Q E hr e0 r h
  have hl := F.len _ _ _ _ h
  have hu : us.length = ps.length := by rw [← r.length]; exact hl
  have b := hb s us (e0.mod.kin.keeps fun b o e => (e0.bs b o e).1) (by rw [List.append_nil]; exact hu)
  rw [List.append_nil] at b
  exact F.run A outer s H ⟨us, []⟩ us vs Q E hr e0 b r h
section
variable {X : Cx} {pins : List (Addr × Obj)} {σ : L2.St} {H : Hp} {s : Shared} {k : Nat} {g C p : Addr} {fd : FuncData} {ps : List Str} {sp : Sp} {mc : Value} {m : Str} {o : Expr} {ta : TE} {apos pos : Pos} {pl : Sem Bool}
theorem run_cmT {q : Addr} {Q : VK} {us : List Value} {vs : List V} (F : FnT X.prog X.w X.K X.mg X.base k g fd ps sp) (hb : Binds X.K fd ps []) (hr : Room k X.A) (ht : 1 ≤ s.toks) (I : Inv X ((q, PySem.W.methodObj (.ref g) (.ref C)) :: pins) σ H s)
    (r : Vals vs us) (h : sp (.ref C :: vs) H Q E0) : wpAny (model X.prog X.w) X.A (call (.ref q) us) (EP X pins σ Q) X.xe s := by
  have hl := F.len _ _ _ _ h
  have r2 : Vals (V.ref C :: vs) (Value.ref C :: us) := .cons rfl r
  have hu : (Value.ref C :: us).length = ps.length := by rw [← r2.length]; exact hl
  have b := hb s (Value.ref C :: us) I.kIn (by rw [List.append_nil]; exact hu)
  rw [List.append_nil] at b
  have z : wpAny (model X.prog X.w) X.A (call (.ref q) us) (EP X ((q, PySem.W.methodObj (.ref g) (.ref C)) :: pins) σ Q) X.xe s := by
    refine wpAny_call (PySem.W.method_call (pin_at I) (codeAny_mono (F.run X.A X.stack s H ⟨.ref C :: us, []⟩ (.ref C :: us) (.ref C :: vs) Q E0 ht hr I.env0 b r2 h) fun r s' hq => ?_))
    cases r with
    | error e => exact False.elim hq
    | ok fl =>
      cases fl with
      | ret u => exact I.after hq
      | next => exact False.elim hq
      | brk => exact False.elim hq
      | cont => exact False.elim hq
  exact thn z fun _ _ y => unpinE y
/-- C.m() -/
def tCMeth0 (C : Addr) (sp : Sp) (E : XK) (ta : TE) : TE := fun σ H Q => ta σ H fun x H1 => x = .ref C ∧ sp [.ref C] H1 Q E
theorem pe_cmeth0 {CX : CXT} {E : XK} (he : PE X o ta) (r : CRead X.K C mc) (c : CMet X.K C mc m p g) (F : FnR X.prog X.w X.K X.mg X.base CX k g sp) (hr : Room k X.A) (hx : Passes CX X E)
    (ht : eval (.Call (.Attribute o m apos) [] [] pos) X.env = (do
      let ov ← eval o X.env
      standAt apos.atName
      let (f, first) ← holding [ov] (getMethod ov m pl)
      callWith pos f first (backTo pos (starEach [] X.env)) (backToKw pos (keywordEach [] X.env))) := by rfl) :
    PE X (.Call (.Attribute o m apos) [] [] pos) (tCMeth0 C sp E ta) := by
  refine ⟨fun pins s σ H Q I h => ?_⟩
  refine PySem.W.methodCall_KW (pl := pl) (thn (he.run pins s σ H _ I h) fun u s1 ⟨x, H1, I1, rx, ex, q⟩ => ?_) ht
  subst ex
  obtain rfl : u = Value.ref C := rx
  refine getmethcm_ok I1 r c fun s2 I2 => ?_
  exact PySem.W.callWith_M0 (first := []) ⟨pin_at I2, I2.kIn⟩ c.fi (run_cm (us := []) (vs := []) F hr hx I2 .nil q)
/-- C.m('..') of a def that wants a token out -/
theorem pe_cmethS {z : Str} {j : Nat} {cp : Pos} (he : PE X o ta) (r : CRead X.K C mc) (c : CMet X.K C mc m p g) (F : FnT X.prog X.w X.K X.mg X.base k g fd ps sp) (hb : Binds X.K fd ps []) (hr : Room k X.A)
    (hst : starEach [.Constant (.str z) j cp] X.env = (false, eval (.Constant (.str z) j cp) X.env) :: starEach [] X.env := by rfl) (hpl : (backTo pos (starEach [] X.env)).any (·.1) = false := by rfl)
    (ht : eval (.Call (.Attribute o m apos) [.Constant (.str z) j cp] [] pos) X.env = (do
      let ov ← eval o X.env
      standAt apos.atName
      let (f, first) ← holding [ov] (getMethod ov m pl)
      callWith pos f first (backTo pos (starEach [.Constant (.str z) j cp] X.env)) (backToKw pos (keywordEach [] X.env))) := by rfl) :
    PE X (.Call (.Attribute o m apos) [.Constant (.str z) j cp] [] pos) (fun σ H Q => ta σ H fun x H1 => x = .ref C ∧ sp [.ref C, .str z] H1 Q E0) := by
  refine ⟨fun pins s σ H Q I h => ?_⟩
  refine PySem.W.methodCall_KW (pl := pl) (thn (he.run pins s σ H _ I h) fun u s1 ⟨x, H1, I1, rx, ex, q⟩ => ?_) ht
  subst ex
  obtain rfl : u = Value.ref C := rx
  refine getmethcm_ok I1 r c fun s2 I2 => ?_
  refine callwith_cm I2 (base_none I1 (Nat.le_refl _)) c.fi ?_ hst hpl
  show wpAny _ _ (spliced (backTo pos (starEach [.Constant (.str z) j cp] X.env))) _ _ s2
  rw [hst]
  show wpAny _ _ (spliced ((false, eval (.Constant (.str z) j cp) X.env) :: backTo pos (starEach [] X.env))) _ _ s2
  refine Calls.spliced_cons (Calls.Constant_str (Calls.spliced_nil ?_))
  have I3 := I2.tok (s2.toks + 1)
  exact ⟨⟨pin_at I3, I3.kIn⟩, run_cmT (vs := [.str z]) F hb hr (by show 1 ≤ s2.toks + 1; omega) I3 (.cons ⟨s2.toks, rfl⟩ .nil) q⟩
end
end Eh

set_option Elab.async false
set_option linter.all false
set_option maxRecDepth 100000
set_option maxHeartbeats 4000000
namespace Eh
open PySem PySem.Spec PyProof.Rows L2
open CwR
/-! ### texts are taken apart -/
def parens : List Str := ["(", "["]
def closes : List Str := [")", "]"]
def signs4 : List Str := ["&", "+", "|", "*"]
def kindOfSign (z : Str) : Str := if z = "&" then "all" else if z = "+" then "mine" else if z = "|" then "some" else "yours"
def repl4 (z : Str) : Str := Txt.replace (Txt.replace (Txt.replace (Txt.replace z "(" "( ") "[" "[ ") ")" " )") "]" " ]"
def split4 (z : Str) : List Str := Txt.split (repl4 z) " "
def plainN (z : Str) : Str × V := if sureKinds.contains z = true then (z, .int 0) else if Txt.startswith z "!" = true then ("not", .str (cutS z (some 1) none)) else ("fact", .str z)
structure SignedAt (K : PySem.W.Frag) (w : World) (mg : Str → Option Value) (p : Addr) : Prop where
  g : mg "SIGNED" = some (.ref p)
  d : ∃ es n, KDict K w p es n ∧ ∀ z, ∃ r, PySem.W.nsIn K p z = some r ∧ r.isSome = signs4.contains z
  v : ∀ z, signs4.contains z = true → KDct K w p z (.str (kindOfSign z))
theorem sign_cases {k : Str} (h : signs4.contains k = true) : k = "&" ∨ k = "+" ∨ k = "|" ∨ k = "*" := by
  unfold signs4 at h
  rw [List.contains_iff_mem] at h
  simpa only [List.mem_cons, List.not_mem_nil, or_false] using h
theorem signed_mk {K : PySem.W.Frag} {w : World} {mg : Str → Option Value} {p : Addr} {n : Nat} {h1 h2 h3 h4 : Int} {t1 t2 t3 t4 u1 u2 u3 u4 : Tok} (g : mg "SIGNED" = some (.ref p))
    (l : K.lookup p = some ⟨.type "dict", none, .dict #[⟨h1, .str "&" t1, .str "all" u1⟩, ⟨h2, .str "+" t2, .str "mine" u2⟩, ⟨h3, .str "|" t3, .str "some" u3⟩, ⟨h4, .str "*" t4, .str "yours" u4⟩] n, #[]⟩)
    (hh : PySem.W.KeysLit w.params [⟨h1, .str "&" t1, .str "all" u1⟩, ⟨h2, .str "+" t2, .str "mine" u2⟩, ⟨h3, .str "|" t3, .str "some" u3⟩, ⟨h4, .str "*" t4, .str "yours" u4⟩]) (low : (p == sysModules) = false) : SignedAt K w mg p := by
  have i (x z : Str) (t : Tok) : (Value.str x t).isStr z = (x == z) := rfl
  have e (z : Str) : PySem.W.nsIn K p z = (match List.find? (fun x => x.key.isStr z) [(⟨h1, .str "&" t1, .str "all" u1⟩ : DictEntry), ⟨h2, .str "+" t2, .str "mine" u2⟩, ⟨h3, .str "|" t3, .str "some" u3⟩, ⟨h4, .str "*" t4, .str "yours" u4⟩] with
          | some e => some (some e.val)
          | none => if (List.any [(⟨h1, .str "&" t1, .str "all" u1⟩ : DictEntry), ⟨h2, .str "+" t2, .str "mine" u2⟩, ⟨h3, .str "|" t3, .str "some" u3⟩, ⟨h4, .str "*" t4, .str "yours" u4⟩] fun x => x.refKey) = true then none else some none) := by
    unfold PySem.W.nsIn
    rw [l]
    rfl
  refine ⟨g, ⟨_, n, ⟨l, hh, low⟩, fun z => ?_⟩, fun k hk => ?_⟩
  · have c : signs4.contains z = (("&" : Str) == z || (("+" : Str) == z || (("|" : Str) == z || (("*" : Str) == z || false)))) := (inV_strs z signs4).symm
    rw [c, e]
    cases e1 : (("&" : Str) == z) with
    | true => exact ⟨some (.str "all" u1), by simp only [List.find?_cons, i, e1], rfl⟩
    | false =>
      cases e2 : (("+" : Str) == z) with
      | true => exact ⟨some (.str "mine" u2), by simp only [List.find?_cons, i, e1, e2], by simp⟩
      | false =>
        cases e3 : (("|" : Str) == z) with
        | true => exact ⟨some (.str "some" u3), by simp only [List.find?_cons, i, e1, e2, e3], by simp⟩
        | false =>
          cases e4 : (("*" : Str) == z) with
          | true => exact ⟨some (.str "yours" u4), by simp only [List.find?_cons, i, e1, e2, e3, e4], by simp⟩
          | false => exact ⟨none, by simp only [List.find?_cons, i, e1, e2, e3, e4, List.find?_nil]; rfl, by simp⟩
  · rcases sign_cases hk with rfl | rfl | rfl | rfl
    · exact ⟨_, n, .str "all" u1, l, hh, by rw [e]; simp only [List.find?_cons, i, show (("&" : Str) == "&") = true from by decide +kernel], ⟨u1, rfl⟩⟩
    · exact ⟨_, n, .str "mine" u2, l, hh, by rw [e]; simp only [List.find?_cons, i, show (("&" : Str) == "+") = false from by decide +kernel, show (("+" : Str) == "+") = true from by decide +kernel], ⟨u2, by rw [show kindOfSign "+" = "mine" from by decide +kernel]⟩⟩
    · exact ⟨_, n, .str "some" u3, l, hh, by rw [e]; simp only [List.find?_cons, i, show (("&" : Str) == "|") = false from by decide +kernel, show (("+" : Str) == "|") = false from by decide +kernel, show (("|" : Str) == "|") = true from by decide +kernel], ⟨u3, by rw [show kindOfSign "|" = "some" from by decide +kernel]⟩⟩
    · exact ⟨_, n, .str "yours" u4, l, hh, by rw [e]; simp only [List.find?_cons, i, show (("&" : Str) == "*") = false from by decide +kernel, show (("+" : Str) == "*") = false from by decide +kernel, show (("|" : Str) == "*") = false from by decide +kernel, show (("*" : Str) == "*") = true from by decide +kernel], ⟨u4, by rw [show kindOfSign "*" = "yours" from by decide +kernel]⟩⟩
def rInSg (p : Addr) : R2 := fun x y H Q => ∃ z : Str, x = .str z ∧ y = .ref p ∧ Q (.bl (signs4.contains z)) H
theorem rep_len (z y n : Str) (h : n.length = 2) : (Txt.replace z y n).length ≤ 3 * z.length + 2 := by
  have := TK.replace_len z y n
  rw [h] at this
  omega
theorem two_len (a : Str) (h : a.length = 2 := by decide +kernel) : a.length = 2 := h
section
variable {P : Program} {w : World} {K : PySem.W.Frag} {mg : Str → Option Value} {base : Heap}
theorem inSg {X : Cx} {p : Addr} (S : SignedAt K w mg p) (h : X.K = K) (hw : X.w = w) : OpR X (compareOp .In) (rInSg p) := by
  subst h hw
  obtain ⟨es, n, D, hz⟩ := S.d
  intro pins s σ H x y v u Q I rx ry ⟨z, e1, e2, q⟩
  obtain ⟨r, hr, hs⟩ := hz z
  exact op_in_kd D pins s σ H x y v u Q I rx ry ⟨z, r, e1, e2, hr, by rw [hs]; exact q⟩
def spSplit : Sp := fun vs H Q _ => ∃ z, vs = [.str z] ∧ z.length ≤ 9000 ∧ ∀ p, H p = none → Q (.ref p) (upd H p (.lst ((split4 z).map V.str)))
theorem ok_split {f : Addr} {fd : FuncData} (F : Fun K "_split" "_split" s__split f fd) : FnT P w K mg base 1 f fd ["text"] spSplit := by
  refine funT F sc__split (fun vs H Q E h => ?_) (fun cdv A outer s H vs Q E hr h => ?_)
  · obtain ⟨z, rfl, _⟩ := h
    rfl
  · obtain ⟨z, rfl, hz, q⟩ := h
    refine ⟨_, psst_cons (pst_set (i := 1) sc__split.nd rfl (.inl rfl) (pet_replT (pet_replT (pet_replT (pet_replT (PET.of (pv 0)))))))
      (PSsT.of (pss_one (ps_ret (pe_split (pv 1) pe_str)))), ?_⟩
    have h1 := rep_len z "(" "( " (by decide +kernel)
    have h2 := rep_len (Txt.replace z "(" "( ") "[" "[ " (by decide +kernel)
    have h3 := rep_len (Txt.replace (Txt.replace z "(" "( ") "[" "[ ") ")" " )" (by decide +kernel)
    have h4 := rep_len (Txt.replace (Txt.replace (Txt.replace z "(" "( ") "[" "[ ") ")" " )") "]" " ]" (by decide +kernel)
    have l1 : ("( " : Str).length = 2 := by decide +kernel
    have l2 : ("[ " : Str).length = 2 := by decide +kernel
    have l3 : (" )" : Str).length = 2 := by decide +kernel
    have l4 : (" ]" : Str).length = 2 := by decide +kernel
    refine ⟨_, rfl, z, rfl, by rw [l1]; omega, _, rfl, by rw [l2]; omega, _, rfl, by rw [l3]; omega, _, rfl, by rw [l4]; omega, ?_⟩
    refine ⟨_, rfl, ⟨_, rfl⟩, _, _, rfl, rfl, by decide +kernel, Nat.le_of_lt (small (by omega)), fun p np => ?_⟩
    exact q p np
def spPlainN : Sp := fun vs H Q _ => ∃ z, vs = [.str z] ∧ z.length ≤ 900000 ∧ ∀ p H', Same H H' → H p = none → H' p = some (.tup [.str (plainN z).1, (plainN z).2]) → Q (.ref p) H'
theorem ok_plain_node {f : Addr} {fd : FuncData} (F : Fun K "_plain_node" "_plain_node" s__plain_node f fd) : FnOk P w K mg base CX0 1 f fd ["word"] spPlainN := by
  refine F.ok sc__plain_node (fun vs H Q E h => ?_) (fun cdv A outer s H vs Q E hr h => ?_)
  · obtain ⟨z, rfl, _⟩ := h
    rfl
  · obtain ⟨z, rfl, hz, q⟩ := h
    refine ⟨_, (pss_cons (ps_if (pt_cmpR (inQ (K := K) rfl) (pv 0) (pe_tup (pa_cons pe_str (pa_cons pe_str pa_nil))) (by rfl))
  (pss_one (ps_ret (pe_tup (pa_cons (pv 0) (pa_cons pe_int pa_nil)))))
  pss_nil)
  (pss_one (ps_ret (pe_ifExp (pt_val (pe_m1 PySem.F.slot_str_startswith PySem.F.type_str_startswith mt_startswith (pv 0) pe_str)) (pe_tup (pa_cons pe_str (pa_cons (pe_slice sl_str (pv 0) (po_some pe_int) po_none) pa_nil))) (pe_tup (pa_cons pe_str (pa_cons (pv 0) pa_nil))))))), ?_⟩
    refine ⟨_, rfl, lenOk 2, fun t nt => ?_⟩
    have s1 : Same H (upd H t (.tup (sureKinds.map V.str))) := same_new nt
    refine ⟨t, sureKinds.map V.str, rfl, .inr (SqT.of upd_same), rfl, flat_strs _, _, rfl, ?_⟩
    cases e1 : sureKinds.contains z with
    | true =>
      have e : plainN z = (z, .int 0) := by unfold plainN; rw [if_pos e1]
      rw [e] at q
      refine iteT' ((inV_strs z sureKinds).trans e1) ⟨_, rfl, lenOk 2, fun p np => ?_⟩
      exact q p _ (s1.trans (same_new np)) (s1.free np) upd_same
    | false =>
      refine iteF' ((inV_strs z sureKinds).trans e1) ⟨_, rfl, ⟨_, rfl⟩, z, "!", rfl, rfl, _, rfl, ?_⟩
      cases e2 : Txt.startswith z "!" with
      | true =>
        have e : plainN z = (("not" : Str), V.str (cutS z (some 1) none)) := by unfold plainN; rw [if_neg (by rw [e1]; exact Bool.false_ne_true), if_pos e2]
        rw [e] at q
        refine iteT ⟨_, rfl, _, rfl, z, rfl, Nat.le_of_lt (small (by omega)), lenOk 2, fun p np => ?_⟩
        exact q p _ (s1.trans (same_new np)) (s1.free np) upd_same
      | false =>
        have e : plainN z = (("fact" : Str), V.str z) := by unfold plainN; rw [if_neg (by rw [e1]; exact Bool.false_ne_true), if_neg (by rw [e2]; exact Bool.false_ne_true)]
        rw [e] at q
        refine iteF ⟨_, rfl, lenOk 2, fun p np => ?_⟩
        exact q p _ (s1.trans (same_new np)) (s1.free np) upd_same
end
end Eh

set_option Elab.async false
set_option linter.all false
set_option maxRecDepth 100000
set_option maxHeartbeats 4000000
namespace Eh
open PySem PySem.Spec PyProof.Rows L2
open CwR
/-! ### nodes_in -/
structure St3 where
  ks : List Str
  cs : List V
  ar : List Nat
def incV (v : V) : V := match v with
  | .int i => .int (i + 1)
  | v => v
def bump (cs : List V) (i : Nat) : List V := match cs[i]? with
  | some v => cs.set i (incV v)
  | none => cs
def step3 (s : St3) (w : Str) : St3 :=
  if parens.contains w = true then ⟨s.ks ++ [("" : Str)], s.cs ++ [.int 1], s.ar ++ [s.ks.length]⟩
  else if signs4.contains w = true ∧ s.ar ≠ [] then ⟨s.ks.set (s.ar.getLast?.getD 0) (kindOfSign w), bump s.cs (s.ar.getLast?.getD 0), s.ar⟩
  else if closes.contains w = true ∧ s.ar ≠ [] then ⟨s.ks, s.cs, s.ar.dropLast⟩
  else ⟨s.ks ++ [(plainN w).1], s.cs ++ [(plainN w).2], s.ar⟩
def run3 (ws : List Str) : St3 := ws.foldl step3 ⟨[], [], []⟩
def nodesIn (z : Str) : List (Str × V) := (run3 (split4 z)).ks.zip (run3 (split4 z)).cs
/-- what the lists keep -/
structure Ok3 (s : St3) : Prop where
  len : s.cs.length = s.ks.length
  at_ : ∀ i ∈ s.ar, ∃ n : Int, s.cs[i]? = some (.int n)
theorem ok3_start : Ok3 ⟨[], [], []⟩ := ⟨rfl, fun i h => by cases h⟩
theorem last_mem {l : List Nat} (h : l ≠ []) : l.getLast?.getD 0 ∈ l := by
  rw [List.getLast?_eq_some_getLast h]
  exact List.getLast_mem h
theorem ok3_step {s : St3} (o : Ok3 s) (w : Str) : Ok3 (step3 s w) := by
  have app : ∀ (k : Str) (v : V) (i : Nat), (∃ n : Int, s.cs[i]? = some (.int n)) → ∃ n : Int, (s.cs ++ [v])[i]? = some (.int n) := fun k v i ⟨n, e⟩ => ⟨n, by
    have := (List.getElem?_eq_some_iff.mp e).1
    rw [List.getElem?_append_left this]
    exact e⟩
  unfold step3
  split
  · refine ⟨by simp [o.len], fun i h => ?_⟩
    rcases List.mem_append.mp h with h | h
    · exact app "" (.int 1) i (o.at_ i h)
    · rw [List.mem_singleton.mp h]
      exact ⟨1, by rw [← o.len]; simp⟩
  · split
    · rename_i h1 h2
      have hm := last_mem h2.2
      obtain ⟨n, e⟩ := o.at_ _ hm
      have eb : bump s.cs (s.ar.getLast?.getD 0) = s.cs.set (s.ar.getLast?.getD 0) (.int (n + 1)) := by
        unfold bump
        rw [e]
        rfl
      refine ⟨by rw [eb]; simp [o.len], fun i h => ?_⟩
      rw [eb]
      by_cases ei : s.ar.getLast?.getD 0 = i
      · rw [ei] at e
        have := (List.getElem?_eq_some_iff.mp e).1
        exact ⟨n + 1, by rw [ei, List.getElem?_set_self this]⟩
      · rw [List.getElem?_set_ne ei]
        exact o.at_ i h
    · split
      · exact ⟨o.len, fun i h => o.at_ i ((List.dropLast_sublist _).subset h)⟩
      · exact ⟨by simp [o.len], fun i h => app "" _ i (o.at_ i h)⟩
theorem step3_len (s : St3) (w : Str) : (step3 s w).ks.length ≤ s.ks.length + 1 ∧ (step3 s w).ar.length ≤ s.ar.length + 1 := by
  unfold step3
  split
  · simp
  · split
    · simp
    · split
      · simp; omega
      · simp
theorem run3_take {ws : List Str} {i : Nat} {w : Str} (h : ws[i]? = some w) : run3 (ws.take (i + 1)) = step3 (run3 (ws.take i)) w := by
  unfold run3
  rw [take_succ' h, List.foldl_append]
  rfl
theorem run3_ok : ∀ (ws : List Str) (s : St3), Ok3 s → Ok3 (ws.foldl step3 s)
  | [], s, o => o
  | w :: ws, s, o => run3_ok ws _ (ok3_step o w)
theorem run3_len : ∀ (ws : List Str) (s : St3), (ws.foldl step3 s).ks.length ≤ s.ks.length + ws.length ∧ (ws.foldl step3 s).ar.length ≤ s.ar.length + ws.length
  | [], s => ⟨Nat.le_refl _, Nat.le_refl _⟩
  | w :: ws, s => by
    have h := run3_len ws (step3 s w)
    have k := step3_len s w
    rw [List.foldl_cons, List.length_cons]
    omega
end Eh

set_option Elab.async false
set_option linter.all false
set_option maxRecDepth 100000
set_option maxHeartbeats 4000000
namespace Eh
open PySem PySem.Spec PyProof.Rows L2
open CwR
theorem same_put {H H2 : Hp} {l : Addr} {o : HO} (s : Same H H2) (n : H l = none) : Same H (upd H2 l o) := fun b u e => by
  rw [upd_ne (ne_of_none e n)]
  exact s b u e
def natV (i : Nat) : V := .int (i : Int)
/-- the three lists -/
structure L3 (H : Hp) (lk lc la : Addr) (s : St3) : Prop where
  k : H lk = some (.lst (s.ks.map V.str))
  c : H lc = some (.lst s.cs)
  a : H la = some (.lst (s.ar.map natV))
theorem L3.same {H H' : Hp} {lk lc la : Addr} {s : St3} (l : L3 H lk lc la s) (m : Same H H') : L3 H' lk lc la s := ⟨m _ _ l.k, m _ _ l.c, m _ _ l.a⟩
theorem last_nat {l : List Nat} (h : l ≠ []) : ∃ pre i, l = pre ++ [i] ∧ l.getLast?.getD 0 = i :=
  ⟨l.dropLast, l.getLast h, (List.dropLast_concat_getLast h).symm, by rw [List.getLast?_eq_some_getLast h]; rfl⟩
theorem zip_take_succ {ks : List Str} {cs : List V} {j : Nat} {k : Str} {v : V} (h : ks[j]? = some k) (h' : cs[j]? = some v) : (ks.zip cs).take (j + 1) = (ks.zip cs).take j ++ [(k, v)] :=
  take_succ' (by rw [List.getElem?_zip_eq_some]; exact ⟨h, h'⟩)
section
variable {P : Program} {w : World} {K : PySem.W.Frag} {mg : Str → Option Value} {base : Heap}
def spNodesIn (K : PySem.W.Frag) : Sp := fun vs H Q _ => ∃ z, vs = [.str z] ∧ z.length ≤ 9000 ∧ (split4 z).length < 100000 ∧ (∀ x ∈ split4 z, x.length ≤ 900000) ∧ ∀ p ys H', Same H H' → H p = none → H' p = some (.tup ys) → NdsAt K H' ys (nodesIn z) → Q (.ref p) H'
theorem ok_nodes_in {p0 fS fP f : Addr} {fdS fdP fd : FuncData} (F : Fun K "nodes_in" "nodes_in" s_nodes_in f fd) (T : Txt mg) (S : SignedAt K w mg p0) (GS : FnT P w K mg base 1 fS fdS ["text"] spSplit) (mS : mg "_split" = some (.ref fS)) (kS : PySem.W.keepIn K (.ref fS) = true) (bS : Binds K fdS ["text"] [])
    (C__plain_node : Cal P w K mg base 1 "_plain_node" fP fdP ["word"] spPlainN) : FnT P w K mg base 2 f fd ["text"] (spNodesIn K) := by
  refine funT F sc_nodes_in (fun vs H Q E h => ?_) (fun cdv A outer s H vs Q E hr h => ?_)
  · obtain ⟨z, rfl, _⟩ := h
    rfl
  · obtain ⟨z, rfl, hz, hw, hx, q⟩ := h
    refine ⟨_, psst_cons (PST.of (ps_set (i := 1) sc_nodes_in.nd rfl (.inr rfl) (pe_lst pa_nil)))
      (psst_cons (PST.of (ps_set (i := 2) sc_nodes_in.nd rfl (.inr rfl) (pe_lst pa_nil)))
      (psst_cons (PST.of (ps_set (i := 3) sc_nodes_in.nd rfl (.inl rfl) (pe_lst pa_nil)))
      (psst_cons (pst_for PassesOwn.never (by rfl) (pit_list (pet_callT GS hr (by rfl) mS kS bS (pa_cons (pv 0) pa_nil))) (pg_name (i := 4) sc_nodes_in.nd rfl (.inl rfl))
        (pss_one (ps_if (pt_cmpR (inQ (K := K) rfl) (pv 4) (pe_tup (pa_cons pe_str (pa_cons pe_str pa_nil))) (by rfl))
          (pss_cons (ps_expr (bmK (K := K) rfl (pe_bm PySem.F.plainAttrs_list PySem.F.slot_list_append PySem.F.type_list_append mt_append (pv 3) (pa_cons (pe_callB (lenQ (K := K) rfl) (by rfl) T.len_ (by decide +kernel) (pa_cons (pv 1) pa_nil)) pa_nil))))
          (pss_cons (ps_expr (bmK (K := K) rfl (pe_bm PySem.F.plainAttrs_list PySem.F.slot_list_append PySem.F.type_list_append mt_append (pv 1) (pa_cons pe_str pa_nil))))
          (pss_one (ps_expr (bmK (K := K) rfl (pe_bm PySem.F.plainAttrs_list PySem.F.slot_list_append PySem.F.type_list_append mt_append (pv 2) (pa_cons pe_int pa_nil)))))))
          (pss_one (ps_if (PW.pt (pw_and (pt_cmpR (inSg S rfl rfl) (pv 4) (pe_glob (v := .ref p0) rfl S.g rfl) (by rfl)) (pw_and1 (pt_truth (pv 3) (by intro _; rfl)))))
            (pss_cons (ps_asg (pe_ix (ixKd (K := K) (w := w) rfl rfl) (pe_glob (v := .ref p0) rfl S.g rfl) (pv 4) (fun _ _ => rfl)) (pg_sub (pv 1) (pe_ix (ixL (K := K) rfl) (pv 3) (pe_un un_neg pe_int) (fun _ _ => rfl)) set_list))
            (pss_one (ps_augS (pv 2) (pe_ix (ixL (K := K) rfl) (pv 3) (pe_un un_neg pe_int) (fun _ _ => rfl)) get_list pe_int ip_add set_list)))
            (pss_one (ps_if (PW.pt (pw_and (pt_cmpR (inQ (K := K) rfl) (pv 4) (pe_tup (pa_cons pe_str (pa_cons pe_str pa_nil))) (by rfl)) (pw_and1 (pt_truth (pv 3) (by intro _; rfl)))))
              (pss_one (ps_expr (bm0K (K := K) rfl (pe_bm0 PySem.F.plainAttrs_list PySem.F.slot_list_pop PySem.F.type_list_pop mt_pop (pv 3)))))
              (pss_cons (ps_asg (pe_call C__plain_node.G hr (by rfl) C__plain_node.m C__plain_node.k C__plain_node.b .nil pass0 (pa_cons (pv 4) pa_nil)) (pg_tup (by rfl) (pgs_cons (pg_name (i := 5) sc_nodes_in.nd rfl (.inl rfl)) (pgs_cons (pg_name (i := 6) sc_nodes_in.nd rfl (.inl rfl)) pgs_nil))))
              (pss_cons (ps_expr (bmK (K := K) rfl (pe_bm PySem.F.plainAttrs_list PySem.F.slot_list_append PySem.F.type_list_append mt_append (pv 1) (pa_cons (pv 5) pa_nil))))
              (pss_one (ps_expr (bmK (K := K) rfl (pe_bm PySem.F.plainAttrs_list PySem.F.slot_list_append PySem.F.type_list_append mt_append (pv 2) (pa_cons (pv 6) pa_nil))))))))))))))
      (PSsT.of (pss_one (ps_ret (pe_callTy call_tuple_of (by rfl) T.tuple_ (by decide +kernel) (pa_cons (pe_lc (own := [("at", 7)]) (g := gName 7) (by rfl) sc_nodes_in.nd (pi_range1 (by rfl) T.range_ (pa_cons (pe_callB (lenQ (K := K) rfl) (by rfl) T.len_ (by decide +kernel) (pa_cons (pv 1) pa_nil)) pa_nil)) (blkOk_by (by kernel_rfl)) (fun _ _ _ _ _ => (pg_name (i := 7) sc_nodes_in.nd rfl (.inl rfl))) (fun _ _ _ _ _ => pts_nil) (fun _ _ _ _ _ => (pe_tup (pa_cons (pe_ix (ixL (K := K) rfl) (pv 1) (pv 7) (fun _ _ => rfl)) (pa_cons (pe_ix (ixL (K := K) rfl) (pv 2) (pv 7) (fun _ _ => rfl)) pa_nil))))) pa_nil)))))))), ?_⟩
    refine ⟨Nat.zero_le _, fun lk nk => ⟨Nat.zero_le _, fun lc nc => ⟨Nat.zero_le _, fun la na => ?_⟩⟩⟩
    have s1 := same_new (o := .lst []) nk
    have s2 := same_new (o := .lst []) nc
    have s3 := same_new (o := .lst []) na
    have nkH : H lk = none := nk
    have ncH : H lc = none := s1.free nc
    have naH : H la = none := (s1.trans s2).free na
    have hck : lc ≠ lk := fun e => by rw [e, upd_same] at nc; cases nc
    have hac : la ≠ lc := fun e => by rw [e, upd_same] at na; cases na
    have hak : la ≠ lk := fun e => by rw [e, upd_ne hck.symm, upd_same] at na; cases na
    have l0 : L3 (upd (upd (upd H lk (.lst [])) lc (.lst [])) la (.lst [])) lk lc la ⟨[], [], []⟩ := ⟨s3 _ _ (s2 _ _ upd_same), s3 _ _ upd_same, upd_same⟩
    have s123 : Same H (upd (upd (upd H lk (.lst [])) lc (.lst [])) la (.lst [])) := s1.trans (s2.trans s3)
    generalize upd (upd (upd H lk (.lst [])) lc (.lst [])) la (.lst []) = H3 at l0 s123 ⊢
    clear nk nc na s1 s2 s3
    refine ⟨_, rfl, z, rfl, hz, fun lw nw => ⟨lw, rfl, ⟨_, SqL.of upd_same⟩, ?_⟩⟩
    have nwH : H lw = none := s123.free nw
    have hwk : lw ≠ lk := fun e => by rw [e, l0.k] at nw; cases nw
    have hwc : lw ≠ lc := fun e => by rw [e, l0.c] at nw; cases nw
    have hwa : lw ≠ la := fun e => by rw [e, l0.a] at nw; cases nw
    have s4 := same_new (o := .lst ((split4 z).map V.str)) nw
    have l4 := l0.same s4
    have e4 := upd_same (H := H3) (a := lw) (o := HO.lst ((split4 z).map V.str))
    have s14 := s123.trans s4
    generalize upd H3 lw (.lst ((split4 z).map V.str)) = H4 at l4 e4 s14 ⊢
    clear s4 l0 s123 nw
    refine for_list (K := K) (a := lw) (xs := (split4 z).map V.str) (fun j σ H5 => ∃ x4 x5 x6, σ = [some (.str z), some (.ref lk), some (.ref lc), some (.ref la), x4, x5, x6, none] ∧ Same H H5 ∧ H5 lw = some (.lst ((split4 z).map V.str)) ∧ L3 H5 lk lc la (run3 ((split4 z).take j))) ⟨none, none, none, rfl, s14, e4, l4⟩ (fun j σ H5 _ h => ?_) ?_ ?_
    · obtain ⟨_, _, _, _, _, e, _⟩ := h
      exact SqL.of e
    · rintro j x σ H5 hj ⟨x4, x5, x6, rfl, s5, e5, l5⟩
      rw [List.getElem?_map] at hj
      obtain ⟨y, hy, rfl⟩ := Option.map_eq_some_iff.mp hj
      have hjl : j < 100000 := by
        have := (List.getElem?_eq_some_iff.mp hy).1
        omega
      have hyl := hx y (List.mem_of_getElem? hy)
      obtain ⟨k3, c3⟩ := run3_len ((split4 z).take j) ⟨[], [], []⟩
      have ok := run3_ok ((split4 z).take j) _ ok3_start
      have htl := List.length_take_le j (split4 z)
      rw [run3_take hy]
      change (run3 ((split4 z).take j)).ks.length ≤ _ at k3
      change (run3 ((split4 z).take j)).ar.length ≤ _ at c3
      change Ok3 (run3 ((split4 z).take j)) at ok
      generalize run3 ((split4 z).take j) = s at l5 k3 c3 ok ⊢
      have k3 : s.ks.length ≤ j := by simpa using Nat.le_trans k3 (by simpa using htl)
      have c3 : s.ar.length ≤ j := by simpa using Nat.le_trans c3 (by simpa using htl)
      have hcl := ok.len
      refine ⟨_, rfl, lenOk 2, fun t1 n1 => ⟨t1, parens.map V.str, rfl, .inr (SqT.of upd_same), rfl, flat_strs _, _, rfl, ?_⟩⟩
      have u6 : Same H5 (upd H5 t1 (.tup [V.str "(", V.str "["])) := same_new n1
      have s6 := s5.trans u6
      have e6 := u6 _ _ e5
      have l6 := l5.same u6
      generalize upd H5 t1 (.tup [V.str "(", V.str "["]) = H6 at s6 e6 l6 ⊢
      clear u6 n1
      cases c1 : parens.contains y with
      | true =>
        have es : step3 s y = ⟨s.ks ++ [("" : Str)], s.cs ++ [.int 1], s.ar ++ [s.ks.length]⟩ := by unfold step3; rw [if_pos c1]
        rw [es]
        refine iteT' ((inV_strs y parens).trans c1) ?_
        refine ⟨_, rfl, .inl ⟨rfl, _, SqL.of l6.a⟩, _, rfl, .inl ⟨lk, _, rfl, .inl (SqL.of l6.k), la, _, .int ((s.ks.map V.str).length : Int), rfl, rfl, l6.a, small (by rw [List.length_map]; omega), ?_⟩⟩
        refine ⟨_, rfl, .inl ⟨rfl, _, SqL.of ((upd_ne hak.symm).trans l6.k)⟩, lk, _, .str "", rfl, rfl, (upd_ne hak.symm).trans l6.k, small (by rw [List.length_map]; omega), ?_⟩
        refine ⟨_, rfl, .inl ⟨rfl, _, SqL.of ((upd_ne hck).trans ((upd_ne hac.symm).trans l6.c))⟩, lc, _, .int 1, rfl, rfl, (upd_ne hck).trans ((upd_ne hac.symm).trans l6.c), small (by omega), ?_⟩
        refine ⟨_, _, _, rfl, same_put (same_put (same_put s6 naH) nkH) ncH, ?_, ?_, ?_, ?_⟩
        · rw [upd_ne hwc, upd_ne hwk, upd_ne hwa]
          exact e6
        · rw [upd_ne hck.symm, upd_same, List.map_append]
          rfl
        · exact upd_same
        · rw [upd_ne hac, upd_ne hak, upd_same, List.map_append, List.length_map]
          rfl
      | false =>
        have n1 : ¬ parens.contains y = true := by rw [c1]; exact Bool.false_ne_true
        refine iteF' ((inV_strs y parens).trans c1) ?_
        have tr : ∀ b, b = !(s.ar.map natV).isEmpty → TruV K (.ref la) H6 b := fun b e => .inl ⟨_, SqL.of l6.a, e⟩
        by_cases c2 : signs4.contains y = true ∧ s.ar ≠ []
        · obtain ⟨pre, i, ei, eg⟩ := last_nat c2.2
          have es : step3 s y = ⟨s.ks.set i (kindOfSign y), bump s.cs i, s.ar⟩ := by unfold step3; rw [if_neg n1, if_pos c2, eg]
          have hm := last_mem c2.2
          rw [eg] at hm
          obtain ⟨n, en⟩ := ok.at_ i hm
          have hil : i < s.cs.length := (List.getElem?_eq_some_iff.mp en).1
          have eb : bump s.cs i = s.cs.set i (.int (n + 1)) := by
            unfold bump
            rw [en]
            rfl
          rw [es, eb]
          have ea : s.ar.map natV = pre.map natV ++ [natV i] := by rw [ei, List.map_append]; rfl
          have la6 := l6.a
          rw [ea] at la6
          refine ⟨_, rfl, y, rfl, rfl, _, rfl, iteT' c2.1 ?_⟩
          refine ⟨_, rfl, true, tr true (by rw [ea]; simp), iteT ?_⟩
          refine ⟨_, rfl, p0, y, _, rfl, rfl, S.v y c2.1, ?_⟩
          refine ⟨_, rfl, _, rfl, _, rfl, la, _, (-1), natV i, rfl, rfl, SqL.of la6, atI_last, lk, _, (i : Int), i, rfl, rfl, l6.k, by rw [List.length_map]; exact ixN_nat (by omega), ?_⟩
          have la7 : (upd H6 lk (.lst ((s.ks.map V.str).set i (.str (kindOfSign y))))) la = some (.lst (pre.map natV ++ [natV i])) := (upd_ne hak).trans la6
          have lc7 : (upd H6 lk (.lst ((s.ks.map V.str).set i (.str (kindOfSign y))))) lc = some (.lst s.cs) := (upd_ne hck).trans l6.c
          refine ⟨_, rfl, _, rfl, _, rfl, la, _, (-1), natV i, rfl, rfl, SqL.of la7, atI_last, ?_⟩
          refine ⟨lc, _, (i : Int), .int n, rfl, rfl, SqL.of lc7, by omega, by omega, by rw [Int.toNat_natCast]; exact en, ?_⟩
          refine ⟨n, 1, rfl, rfl, lc, _, (i : Int), i, rfl, rfl, lc7, ixN_nat hil, ?_⟩
          refine ⟨_, _, _, rfl, same_put (same_put s6 nkH) ncH, ?_, ?_, ?_, ?_⟩
          · rw [upd_ne hwc, upd_ne hwk]
            exact e6
          · rw [upd_ne hck.symm, upd_same, List.map_set]
          · exact upd_same
          · rw [upd_ne hac, upd_ne hak]
            exact l6.a
        · have hs : signs4.contains y = true → s.ar = [] := fun h => Classical.byContradiction fun z => c2 ⟨h, z⟩
          have es : step3 s y = if closes.contains y = true ∧ s.ar ≠ [] then ⟨s.ks, s.cs, s.ar.dropLast⟩ else ⟨s.ks ++ [(plainN y).1], s.cs ++ [(plainN y).2], s.ar⟩ := by
            unfold step3
            rw [if_neg n1, if_neg c2]
          rw [es]
          refine ⟨_, rfl, y, rfl, rfl, _, rfl, ?_⟩
          cases e2 : signs4.contains y
          case' true =>
            have ha0 := hs e2
            refine iteT ⟨_, rfl, false, tr false (by rw [ha0]; rfl), iteF ?_⟩
          case' false => refine iteF ?_
          all_goals
            refine ⟨_, rfl, lenOk 2, fun t2 n2 => ⟨t2, closes.map V.str, rfl, .inr (SqT.of upd_same), rfl, flat_strs _, _, rfl, ?_⟩⟩
            have u7 : Same H6 (upd H6 t2 (.tup [V.str ")", V.str "]"])) := same_new n2
            have s7 := s6.trans u7
            have e7 := u7 _ _ e6
            have l7 := l6.same u7
            generalize upd H6 t2 (.tup [V.str ")", V.str "]"]) = H7 at s7 e7 l7 ⊢
            clear u7 n2
            have tr7 : ∀ b, b = !(s.ar.map natV).isEmpty → TruV K (.ref la) H7 b := fun b e => .inl ⟨_, SqL.of l7.a, e⟩
            by_cases c3 : closes.contains y = true ∧ s.ar ≠ []
            · obtain ⟨pre, i, ei, eg⟩ := last_nat c3.2
              rw [if_pos c3]
              have ea : s.ar.map natV = pre.map natV ++ [natV i] := by rw [ei, List.map_append]; rfl
              have la7 := l7.a
              rw [ea] at la7
              refine iteT' ((inV_strs y closes).trans c3.1) ⟨_, rfl, true, tr7 true (by rw [ea]; simp), iteT ?_⟩
              refine ⟨_, rfl, .inl ⟨rfl, _, SqL.of la7⟩, la, _, natV i, rfl, rfl, la7, ?_, ?_⟩
              · rw [List.length_append, List.length_singleton, Nat.add_sub_cancel]
                exact List.getElem?_concat_length
              · rw [List.dropLast_concat]
                refine ⟨_, _, _, rfl, same_put s7 naH, (upd_ne hwa).trans e7, (upd_ne hak.symm).trans l7.k, (upd_ne hac.symm).trans l7.c, ?_⟩
                rw [upd_same, ei, List.dropLast_concat]
            · rw [if_neg c3]
              have hc : closes.contains y = true → s.ar = [] := fun h => Classical.byContradiction fun z => c3 ⟨h, z⟩
              cases e3 : closes.contains y
              case' true =>
                have ha1 := hc e3
                refine iteT' ((inV_strs y closes).trans e3) ⟨_, rfl, false, tr7 false (by rw [ha1]; rfl), iteF ?_⟩
              case' false => refine iteF' ((inV_strs y closes).trans e3) ?_
              all_goals
                refine ⟨_, rfl, y, rfl, hyl, fun tp H8 u8 n8 e8 => ?_⟩
                have l8 := l7.same u8
                have e9 := u8 _ _ e7
                have s8 := s7.trans u8
                refine ⟨tp, _, rfl, SqT.of e8, rfl, _, _, rfl, _, _, rfl, rfl, ?_⟩
                refine ⟨_, rfl, .inl ⟨rfl, _, SqL.of l8.k⟩, _, rfl, lk, _, .str (plainN y).1, rfl, rfl, l8.k, small (by rw [List.length_map]; omega), ?_⟩
                refine ⟨_, rfl, .inl ⟨rfl, _, SqL.of ((upd_ne hck).trans l8.c)⟩, _, rfl, lc, _, (plainN y).2, rfl, rfl, (upd_ne hck).trans l8.c, small (by omega), ?_⟩
                refine ⟨_, _, _, rfl, same_put (same_put s8 nkH) ncH, (upd_ne hwc).trans ((upd_ne hwk).trans e9), ?_, upd_same, (upd_ne hac).trans ((upd_ne hak).trans l8.a)⟩
                rw [upd_ne hck.symm, upd_same, List.map_append]
                rfl
    · rintro σ H5 ⟨x4, x5, x6, rfl, s5, e5, l5⟩
      rw [List.length_map, List.take_length] at l5
      have ok := run3_ok (split4 z) _ ok3_start
      obtain ⟨k3, _⟩ := run3_len (split4 z) ⟨[], [], []⟩
      change Ok3 (run3 (split4 z)) at ok
      change (run3 (split4 z)).ks.length ≤ _ at k3
      have hq := q
      unfold nodesIn at hq
      generalize run3 (split4 z) = s at l5 ok k3 hq ⊢
      have k3 : s.ks.length ≤ (split4 z).length := by simpa using k3
      have hcl := ok.len
      refine ⟨_, rfl, .inl ⟨lk, _, rfl, .inl (SqL.of l5.k), _, rfl, by omega, by rw [List.length_map]; omega, fun D nD => ?_⟩⟩
      have s6 := s5.trans (same_new (o := .lst []) nD)
      have u6 := same_new (o := .lst []) nD
      have nDH : H D = none := s5.free nD
      have nD5 : H5 D = none := nD
      refine lcR (fun j acc H6 => Same H H6 ∧ Same H5 H6 ∧ NdsAt K H6 acc ((s.ks.zip s.cs).take j)) ⟨s6, u6, .nil⟩ ?_ ?_
      · rintro j acc H6 hj hl e ⟨s7, u7, A7⟩
        rw [List.length_map] at hj
        have hj' : j < s.ks.length := by omega
        obtain ⟨k, hk⟩ : ∃ k, s.ks[j]? = some k := ⟨_, List.getElem?_eq_getElem hj'⟩
        obtain ⟨v, hv⟩ : ∃ v, s.cs[j]? = some v := ⟨_, List.getElem?_eq_getElem (by omega)⟩
        have ei : ((0 : Int) + (j : Int)) = (j : Int) := Int.zero_add _
        rw [ei]
        refine ⟨_, rfl, _, rfl, lk, _, _, .str k, rfl, rfl, SqL.of (u7 _ _ l5.k), atI_nat (by rw [List.getElem?_map, hk]; rfl), ?_⟩
        refine ⟨_, rfl, _, rfl, lc, _, _, v, rfl, rfl, SqL.of (u7 _ _ l5.c), atI_nat hv, lenOk 2, fun t nt => ?_⟩
        have u8 : Same H6 (upd H6 t (.tup [.str k, v])) := same_new nt
        refine LcK.mk hl (by omega) (u8 _ _ e) ⟨same_put (s7.trans u8) nDH, same_put (u7.trans u8) nD5, ?_⟩
        rw [zip_take_succ hk hv]
        have kp := Tk.put (ys := acc ++ [V.ref t]) (u8 _ _ e)
        exact ((A7.tk (stk u8)).tk kp).app (.cons (kp.seq (SqT.of upd_same)) .nil)
      · rintro acc H6 hl e ⟨s7, u7, A7⟩
        have ez : (s.ks.zip s.cs).take (((s.ks.map V.str).length : Int)).toNat = s.ks.zip s.cs := by
          refine List.take_of_length_le ?_
          rw [List.length_zip, List.length_map]
          omega
        rw [ez] at A7
        refine ⟨D, acc, rfl, .inl ⟨SqL.of e, fun p np => ?_⟩⟩
        exact hq p acc _ (s7.trans (same_new np)) (s7.free np) upd_same (A7.tk (Tk.new np))
end
end Eh

set_option Elab.async false
set_option linter.all false
set_option maxRecDepth 100000
set_option maxHeartbeats 4000000
namespace Eh
open PySem PySem.Spec PyProof.Rows L2
open CwR
/-! ### classmethods: read (of a text that is one), sure -/
section
variable {P : Program} {w : World} {K : PySem.W.Frag} {mg : Str → Option Value} {base : Heap}
theorem psst_one' {X : Cx} {st : Stmt} {t : TS} (h : PST X st t) : PSsT X [st] t := psst_one h
def spReadOk (K : PySem.W.Frag) (C : Addr) : Sp := fun vs H Q _ => ∃ z ns t, vs = [.ref C, .str z] ∧ z.length ≤ 9000 ∧ (split4 z).length < 100000 ∧ (∀ x ∈ split4 z, x.length ≤ 900000) ∧ nodesIn z = ns ∧ (∀ n ∈ ns, NOk n) ∧ dueGo 1 ns = true ∧ ns.length ≤ 15 ∧ stackT ns = [t] ∧ t = z ∧
  ∀ a H', Same H H' → H a = none → PrOk K C H' a ns → Q (.ref a) H'
theorem ok_read {C CE fI fL fN fA fT f : Addr} {fdI fdN fdA fdT fd : FuncData} (F : Fun K "read" "Promise.read" s_Promise_read f fd) (T : Txt mg) (PC : PromC K mg C fI fL) (GN : FnT P w K mg base 2 fN fdN ["text"] (spNodesIn K)) (mN : mg "nodes_in" = some (.ref fN)) (kN : PySem.W.keepIn K (.ref fN) = true) (bN : Binds K fdN ["text"] [])
    (C__are_nodes : Cal P w K mg base 3 "_are_nodes" fA fdA ["value"] (spAre K)) (C_text_of : Cal P w K mg base 2 "text_of" fT fdT ["nodes"] (spText K)) (GI : FnOk P w K mg base (L2.CX P w) 4 fI fdI ["self", "nodes"] (spInit K C CE)) (bI : Binds K fdI ["self", "nodes"] []) :
    FnT P w K mg base 6 f fd ["cls", "text"] (spReadOk K C) := by
  refine funT F sc_Promise_read (fun vs H Q E h => ?_) (fun cdv A outer s H vs Q E hr h => ?_)
  · obtain ⟨z, ns, t, rfl, _⟩ := h
    rfl
  · obtain ⟨z, ns, t, rfl, hz, hw, hx, hns, ho, hd, hl, ht, etz, q⟩ := h
    have hr2 := hr.mono (j := 2) (by omega)
    have hr3 := hr.mono (j := 3) (by omega)
    refine ⟨_, psst_cons (PST.of (ps_if (pt_not (pt_val (pe_callB (isiQ (K := K) rfl) (by rfl) T.isinstance_ (by decide +kernel) (pa_cons (pv 1) (pa_cons (pe_bltn (v := .ty "str") (by rfl) T.str_ (by decide +kernel) rfl) pa_nil))))) (pss_one ps_never) pss_nil))
      (psst_cons (pst_set (i := 2) sc_Promise_read.nd rfl (.inl rfl) (pet_callT GN hr2 (by rfl) mN kN bN (pa_cons (pv 1) pa_nil)))
      (PSsT.of (pss_cons (ps_if (PW.pt (pw_or (pt_not (pt_val (pe_call C__are_nodes.G hr3 (by rfl) C__are_nodes.m C__are_nodes.k C__are_nodes.b .nil pass0 (pa_cons (pv 2) pa_nil)))) (pw_or1 (pt_cmpR op_ne (pe_call C_text_of.G hr2 (by rfl) C_text_of.m C_text_of.k C_text_of.b .nil pass0 (pa_cons (pv 2) pa_nil)) (pv 1) (nomark _))))) (pss_one ps_never) pss_nil)
      (pss_one (ps_ret (pe_makeL (i := 0) (E := fun _ => E0) PC.mkC GI hr rfl (by first | exact Or.inl rfl | exact Or.inr (Or.inl rfl)) bI (fun σ pins H s e s' I h => passL pins σ H s e s' I h) (pa_cons (pv 2) pa_nil))))))), ?_⟩
    refine ⟨_, rfl, .str z, .ty "str", .type "str", .type "str", true, rfl, .ty _, .base (.str z), kit_ty (by decide +kernel), _, rfl, iteF ?_⟩
    refine ⟨_, rfl, z, rfl, hz, hw, hx, fun p ys H1 s1 n1 e1 N1 => ?_⟩
    rw [hns] at N1
    have g : GoodN ns := fun n hn => (ho n hn).1
    obtain ⟨nv, fw⟩ := good_nodes (K := K) (SqT.of e1) N1 ho hd hl
    refine ⟨_, rfl, .ref p, _, true, rfl, nv, fw, fun H2 s2 => ⟨_, rfl, iteF ?_⟩⟩
    have N2 := N1.tk (stk s2)
    have e2 := (stk s2).seq (SqT.of e1 : SqT K H1 p ys)
    refine ⟨_, rfl, p, ys, ns, t, rfl, e2, N2, g, hd, by rw [N1.length]; omega, ht, fun H3 s3 => ⟨_, rfl, rfl, _, rfl, ?_⟩⟩
    refine iteF' (by rw [etz]; simp) ⟨rfl, _, rfl, fun x dx nx nd ne => ?_⟩
    have s03 := s1.trans (s2.trans s3)
    have N3 := N2.tk (stk s3)
    have e3 := (stk s3).seq e2
    have u3 : Same H3 (upd (upd H3 dx (.own x)) x (.ins C dx [])) := fun b' o' eb => by
      rw [upd_ne (ne_of_none eb nx), upd_ne (ne_of_none eb nd)]
      exact eb
    have t3 := stk u3
    obtain ⟨nv3, fw3⟩ := good_nodes (K := K) (t3.seq e3) (N3.tk t3) ho hd hl
    refine ⟨x, dx, .ref p, _, true, rfl, upd_same, nv3, fw3, fun _ H4 bt e4 => ⟨rfl, ?_⟩, fun z => nomatch z⟩
    have s4 : Same H3 H4 := fun b' o' eb => bt b' o' (ne_of_none eb nx) (u3 b' o' eb)
    exact q x H4 (s03.trans s4) (s03.free nx) ⟨dx, p, ys, e4, (stk s4).seq e3, N3.tk (stk s4), ho⟩
def spSure (K : PySem.W.Frag) (C : Addr) : Sp := fun vs H Q _ => vs = [.ref C] ∧ ∀ a H', Same H H' → H a = none → PrOk K C H' a [("yes", .int 0)] → Q (.ref a) H'
theorem yes_ok : ∀ n ∈ [(("yes" : Str), V.int 0)], NOk n := fun n hn => by
  rw [List.mem_singleton.mp hn]
  exact ⟨by decide +kernel, fun z e => by cases e⟩
end
end Eh

set_option Elab.async false
set_option linter.all false
set_option maxRecDepth 100000
set_option maxHeartbeats 2000000
namespace Eh
open PySem PySem.Spec PyProof.Rows L2
/-! ### texts are of plain signs; data told of a promise -/
theorem sok_app {a b : Str} (ha : PyData.strOk a = true) (hb : PyData.strOk b = true) : PyData.strOk (a ++ b) = true := by
  unfold PyData.strOk at *
  rw [Str.cps_append, Array.all_append, ha, hb]
  rfl
theorem sok_join {s : Str} (hs : PyData.strOk s = true) : ∀ ts : List Str, (∀ t ∈ ts, PyData.strOk t = true) → PyData.strOk (Str.join s ts) = true
  | [], _ => by
    show (#[] : Array Nat).all _ = true
    simp
  | [x], h => h x List.mem_cons_self
  | x :: y :: r, h => by
    show PyData.strOk (x ++ s ++ Str.join s (y :: r)) = true
    exact sok_app (sok_app (h x List.mem_cons_self) hs) (sok_join hs (y :: r) fun t ht => h t (List.mem_cons_of_mem _ ht))
theorem sok_tjoin {s : Str} (hs : PyData.strOk s = true) (ts : List Str) (h : ∀ t ∈ ts, PyData.strOk t = true) : PyData.strOk (Txt.join s ts) = true := by
  unfold Txt.join
  rw [PySem.StrLaws.glued_eq_join]
  exact sok_join hs ts h
theorem sok_sign (k : Str) : PyData.strOk (signOf k) = true := by
  unfold signOf
  split
  · decide +kernel
  · split
    · decide +kernel
    · split <;> decide +kernel
theorem sok_fact {z : Str} (h : factS z = true) : PyData.strOk z = true := by
  have ha := asc_fact h
  unfold PyData.strOk
  rw [← Array.all_toList]
  exact List.all_eq_true.mpr fun c hc => decide_eq_true (by have := ha.2 c hc; omega)
theorem sok_kind {k : Str} {t : V} (h : nodeAB k t = true) : PyData.strOk k = true := kind_lay h
mutual
theorem sok_text : ∀ {p : Pl}, LeafG (nodesOf p) → PyData.strOk (textOf p) = true
  | .leaf k t, g => by
    rw [nodesOf] at g
    have hn := g (k, t) List.mem_cons_self
    rw [textOf]
    unfold plainT
    cases t with
    | str z =>
      have hz : PyData.strOk z = true := sok_fact (node_str (show nodeAB k (.str z) = true from hn))
      show PyData.strOk (if k = "fact" then z else "!" ++ z) = true
      split
      · exact hz
      · exact sok_app (by decide +kernel) hz
    | _ => exact sok_kind (show nodeAB k _ = true from hn)
  | .node k ps, g => by
    rw [nodesOf] at g
    have ih := sok_texts (fun n hn => g n (List.mem_cons_of_mem _ hn) : LeafG (nodesAll ps))
    rw [textOf]
    unfold brack
    split
    · exact sok_app (sok_app (by decide +kernel) (sok_tjoin (sok_sign k) _ ih)) (by decide +kernel)
    · exact sok_app (sok_app (by decide +kernel) (sok_tjoin (sok_sign k) _ ih)) (by decide +kernel)
theorem sok_texts : ∀ {ps : List Pl}, LeafG (nodesAll ps) → ∀ t ∈ textAll ps, PyData.strOk t = true
  | [], _, t, ht => by
    rw [textAll] at ht
    cases ht
  | p :: ps, g, t, ht => by
    rw [nodesAll] at g
    rw [textAll] at ht
    rcases List.mem_cons.mp ht with e | e
    · rw [e]
      exact sok_text fun n hn => g n (List.mem_append_left _ hn)
    · exact sok_texts (fun n hn => g n (List.mem_append_right _ hn)) t e
end
/-- what a promise tells, as data -/
def toldD8 (ns : List (Str × V)) (t k : Str) (fs : List Str) (c d n : Int) : PyData := .list [.list (ns.map nodeD), .str t, .str t, .str k, .list (fs.map PyData.str), .int c, .int d, .int n]
theorem strs_lay : ∀ {zs : List Str}, (∀ z ∈ zs, PyData.strOk z = true) → PyData.canLayAll0 (zs.map PyData.str) = true ∧ PyData.depthAll (zs.map PyData.str) = 0
  | [], _ => ⟨rfl, rfl⟩
  | z :: zs, h => by
    obtain ⟨a, b⟩ := strs_lay fun y hy => h y (List.mem_cons_of_mem _ hy)
    refine ⟨?_, ?_⟩
    · show (PyData.strOk z && PyData.canLayAll0 (zs.map PyData.str)) = true
      rw [h z List.mem_cons_self, a]
      rfl
    · show max 0 (PyData.depthAll (zs.map PyData.str)) = 0
      rw [b]
      rfl
theorem told8_shaped {ns : List (Str × V)} {t k : Str} {fs : List Str} {c d n : Int} (hn : ∀ m ∈ ns, NGd m) (ht : PyData.strOk t = true) (hk : PyData.strOk k = true) (hf : ∀ z ∈ fs, PyData.strOk z = true) : SeqAt.shaped (toldD8 ns t k fs c d n) = true ∧ PyData.eqv (toldD8 ns t k fs c d n) (toldD8 ns t k fs c d n) = true := by
  obtain ⟨a1, a2⟩ := nodes_layAllG hn
  obtain ⟨b1, b2⟩ := strs_lay hf
  have lay : PyData.canLay0 (toldD8 ns t k fs c d n) = true := by
    show (PyData.canLayAll0 (ns.map nodeD) && (PyData.strOk t && (PyData.strOk t && (PyData.strOk k && (PyData.canLayAll0 (fs.map PyData.str) && true))))) = true
    rw [a1, ht, hk, b1]
    rfl
  refine ⟨?_, SeqAt.eqv_refl _ lay⟩
  unfold SeqAt.shaped
  rw [lay, Bool.true_and]
  refine decide_eq_true ?_
  show max (PyData.depthAll (ns.map nodeD) + 1) (max 0 (max 0 (max 0 (max (PyData.depthAll (fs.map PyData.str) + 1) (max 0 (max 0 (max 0 0))))))) + 1 ≤ 64
  omega
end Eh

set_option Elab.async false
set_option linter.all false
set_option maxRecDepth 100000
set_option maxHeartbeats 2000000
/-! != of two lists whose items are equal by an own == -/
namespace GQN
open PySem PySem.SeqAt GQ
open AutoSeq1 (wpAny_loadPart')
open MeetsSeq MeetsSeq2 MeetsSeq3 SeqRoads2
section
variable {prog : Program} {w : World} {A : Around} {R : Result → Shared → Prop}
theorem ne_loopG (l b : Addr) (N : Nat) (I : Nat → Shared → Prop) (hl : ListI prog w A (fun e s' => R (.error e) s') l b N I)
    (fin : ∀ s, I N s → R (.ok (.ret (.bool false))) s) (k : Nat) :
    ∀ i : Nat, N - i = k → i ≤ N → ∀ s, I i s →
      wpAny (model prog w) A.in1 (Builtin.«list.__eq__.loop» ⟨[.ref l, .ref b, rawInt i, rawInt 3], []⟩) (FinOf prog w A R) (fun e s' => R (.error e) s') s := by
  induction k with
  | zero =>
    intro i hk hi s h
    obtain ⟨items, items2, n, n2, hl1, hb1, hs1, hs2, _⟩ := hl _ _ h
    have hi' : i = N := by omega
    have hR : R (.ok (.ret (.bool false))) s := fin s (hi' ▸ h)
    obtain ⟨hp, g, d, tk, os⟩ := s
    wp_walk using wpAny_loadPart' hl1, wpAny_loadPart' hb1
    have hi1 : items[((i : Nat) : Int).toNat]? = none := by simp; omega
    have hi2 : items2[((i : Nat) : Int).toNat]? = none := by simp; omega
    rw [hi1, hi2]
    wp_walk using wpAny_loadPart' hl1, wpAny_loadPart' hb1
    show R (.ok (.ret (.bool (items.size != items2.size)))) _
    rw [hs1, hs2]
    simpa using hR
  | succ k ih =>
    intro i hk hi s h
    obtain ⟨items, items2, n, n2, hl1, hb1, hs1, hs2, turn⟩ := hl _ _ h
    have hlt : i < items.size := by omega
    have hlt2 : i < items2.size := by omega
    have ht := turn hlt hlt2
    obtain ⟨hp, g, d, tk, os⟩ := s
    wp_walk using wpAny_loadPart' hl1, wpAny_loadPart' hb1
    have hi1 : items[((i : Nat) : Int).toNat]? = some items[i] := by simp [hlt]
    have hi2 : items2[((i : Nat) : Int).toNat]? = some items2[i] := by simp [hlt2]
    have hc : ((i : Int) + 1) = ((i + 1 : Nat) : Int) := by omega
    rw [hi1, hi2]
    refine wpAny_bind (wpAny_mono ht (fun r s2 h2 => ?_) fun _ _ x => x)
    obtain ⟨hr, h2⟩ := h2
    subst hr
    have hrec := ih (i + 1) (by omega) (by omega) s2 h2
    obtain ⟨hp2, g2, d2, tk2, os2⟩ := s2
    wp_walk
    rw [hc]
    exact ⟨plainId_quiet plain_eq_loop _, codeAny_builtin entry_eq_loop (by
      rw [Around.under_plainId plain_eq_loop _]
      exact hrec)⟩
theorem list_neG (l b : Addr) (N : Nat) (I : Nat → Shared → Prop) (hl : ListI prog w A (fun e s' => R (.error e) s') l b N I)
    (fin : ∀ s, I N s → R (.ok (.ret (.bool false))) s) {s : Shared} (h : I 0 s) :
    wpAny (model prog w) A.in1 (Builtin.«list.__ne__» ⟨[.ref l, .ref b], []⟩) (FinOf prog w A R) (fun e s' => R (.error e) s') s := by
  obtain ⟨items, items2, n, n2, hl1, hb1, hs1, hs2, _⟩ := hl _ _ h
  have hrec := ne_loopG (A := A) (R := R) l b N I hl fin _ 0 rfl (Nat.zero_le _) s h
  obtain ⟨hp, g, d, tk, os⟩ := s
  have f3 := AutoSeq1.sub_list_list
  have hne : ¬ (items.size != items2.size) = true := by simp [hs1, hs2]
  wp_walk using wpAny_loadPart' hl1, wpAny_loadPart' hb1
  exact ⟨plainId_quiet plain_eq_loop _, codeAny_builtin entry_eq_loop (by
    rw [Around.under_plainId plain_eq_loop _]
    exact hrec)⟩
end
section
variable {prog : Program} {w : World} {A : Around} {E : Value → Shared → Prop} {s : Shared}
theorem rcn_listG {l b : Addr} {N : Nat} {Q : Value → Shared → Prop} (hu : A.units < cLine) (I : Nat → Shared → Prop) (hl : ListI prog w A E l b N I)
    (fin : ∀ s, I N s → Q (.bool false) s) (h : I 0 s) : wpAny (model prog w) A (richCompare .NotEq (.ref l) (.ref b)) Q E s := by
  obtain ⟨items, items2, n, n2, hl1, hb1, _, _, _⟩ := hl _ _ h
  refine wpAny_richCompare_same_room (op := .NotEq) ⟨_, hl1, rfl⟩ ⟨_, hb1, rfl⟩ PySem.F.slot_list_ne (call_here PySem.F.slot_list_ne ⟨_, hl1, rfl⟩ PySem.F.entry_list_ne (PySem.F.args_list_ne_2 _ _) ?_) hu
  exact list_neG (R := wants (fun v s' => v ≠ .notImplemented ∧ Q v s') E) l b N I hl (fun s' q => ⟨(fun x => nomatch x), fin s' q⟩) h
end
end GQN
namespace Eh
open PySem PySem.Spec PyProof.Rows L2
section
variable {X : Cx} {n : Nat} {D : Eqv}
/-- l != m, lists whose items are equal: False -/
def rNeG (D : Eqv) : R2 := fun x y H Q => DList D x y H ∧ ∀ H', Ext H H' → Q (.bl false) H'
theorem op_neG (hD : Mon D) (h : EqG X n D) (hr : Room (n + 1) X.A) : OpR X (compareOp .NotEq) (rNeG D) := by
  intro pins s σ H x y v u Q I rx ry hq
  obtain ⟨⟨a, b, xs, ys, rfl, rfl, ha, hb, p⟩, q⟩ := hq
  cases rx
  cases ry
  have sb : Sub X (n + 1) X.A := ⟨hr, rfl⟩
  show wpAny _ _ (richCompare .NotEq (.ref a) (.ref b)) _ _ _
  refine GQN.rcn_listG (N := xs.length) sb.room.units0 (fun _ s' => LoopI X pins σ H s') (fun i s' q => ?_) (fun s' z => ?_) ⟨H, I, Ext.rfl'⟩
  · obtain ⟨H1, I1, e1⟩ := id q
    obtain ⟨z, its, k, r, e⟩ := I1.hok a _ (e1 _ _ ha)
    obtain ⟨z2, its2, k2, r2, e2⟩ := I1.hok b _ (e1 _ _ hb)
    refine ⟨its.toArray, its2.toArray, k, k2, e, e2, by rw [List.size_toArray, ← r.length], by rw [List.size_toArray, ← r2.length, ← p.1], fun h1 h2 => ?_⟩
    exact turnG hD h sb p r r2 i h1 h2 s' q
  · obtain ⟨H', I', e⟩ := z
    exact ⟨.bl false, H', I', rfl, q H' e⟩
end
end Eh

set_option Elab.async false
set_option linter.all false
set_option maxRecDepth 100000
set_option maxHeartbeats 2000000
namespace Eh
open PySem PySem.Spec PyProof.Rows L2
/-! ### what the law knows of the class; of what it has drawn -/
structure PropC (P : Program) (w : World) (K : PySem.W.Frag) (mg : Str → Option Value) (base : Heap) (C : Addr) (x : Str) (k : Nat) (sp : Sp) (p g : Addr) (fd : FuncData) : Prop where
  p : PropOf K C x p g
  ok : FnOk P w K mg base CX0 k g fd ["self"] sp
  b : Binds K fd ["self"] []
structure DunC (P : Program) (w : World) (K : PySem.W.Frag) (mg : Str → Option Value) (base : Heap) (C : Addr) (x : Str) (k : Nat) (ps : List Str) (sp : Sp) (g : Addr) (fd : FuncData) : Prop where
  s : PySem.W.findIn K (.ref C) x = some (some (.ref g))
  f : PySem.W.isFn K (.ref g) = true
  ok : FnOk P w K mg base CX0 k g fd ps sp
  b : Binds K fd ps []
structure IterC (P : Program) (w : World) (K : PySem.W.Frag) (mg : Str → Option Value) (base : Heap) (C : Addr) (g : Addr) (fd : FuncData) : Prop where
  s : PySem.W.findIn K (.ref C) "__iter__" = some (some (.ref g))
  f : PySem.W.isFn K (.ref g) = true
  ok : FnN P w K mg base 1 g fd ["self"] (spIterP K C)
  b : Binds K fd ["self"] []
section
variable {P : Program} {w : World} {K : PySem.W.Frag} {mg : Str → Option Value} {base : Heap}
theorem eqG_of_A {C f : Addr} {fd : FuncData} (F : FnOk P w K mg base CX0 1 f fd ["self", "value"] (spEqA K C)) : FnOk P w K mg base CX0 1 f fd ["self", "value"] (spEqG K C) :=
  F.imp fun vs H Q E h => .inl h
end
theorem inDq {X : Cx} {K : PySem.W.Frag} (h : X.K = K) (hu : X.A.units + 65 < cLine) : OpR X (compareOp .In) (rInD K) := by subst h; exact op_inD hu
theorem hu65e {A : Around} {k : Nat} (hr : Room k A) : A.units + 65 < cLine := by
  have := hr.un
  omega
/-- what stands while a drawn promise is looked at -/
structure Rt (K : PySem.W.Frag) (C : Addr) (H : Hp) (v u : V) (pl ql : Pl) (x dx p n i : Addr) (zs xs ys : List V) : Prop where
  pa : At K H v pl
  oa : At K H u ql
  ix : H x = some (.ins C dx [(("_nodes" : Str), .ref p)])
  hs : SqT K H p zs
  hz : NdsAt K H zs (nodesOf pl)
  nl : H n = some (.lst xs)
  nd : NdsAt K H xs (nodesOf pl)
  il : H i = some (.lst ys)
  ia : AtAll K H ys (innerOf pl)
theorem Rt.same {K : PySem.W.Frag} {C : Addr} {H H' : Hp} {v u : V} {pl ql : Pl} {x dx p n i : Addr} {zs xs ys : List V} (r : Rt K C H v u pl ql x dx p n i zs xs ys) (s : Same H H') : Rt K C H' v u pl ql x dx p n i zs xs ys :=
  ⟨r.pa.tk (stk s), r.oa.tk (stk s), s _ _ r.ix, (stk s).seq r.hs, r.hz.tk (stk s), s _ _ r.nl, r.nd.tk (stk s), s _ _ r.il, r.ia.tk (stk s)⟩
theorem At.head {K : PySem.W.Frag} {H : Hp} {v : V} {pl : Pl} (h : At K H v pl) : ∃ a n y ns, v = .ref a ∧ SqT K H a [.str n.1, y] ∧ nodesOf pl = n :: ns := by
  cases h with
  | leaf h o => exact ⟨_, (_, _), _, [], rfl, h, by rw [nodesOf]⟩
  | node h1 h2 o a1 a2 r => exact ⟨_, (_, _), _, _, rfl, h1, by rw [nodesOf]⟩
theorem At.head0 {K : PySem.W.Frag} {H : Hp} {v : V} {pl : Pl} {n : Str × V} {ns : List (Str × V)} (h : At K H v pl) (e : nodesOf pl = n :: ns) : ∃ a y, v = .ref a ∧ SqT K H a [.str n.1, y] := by
  obtain ⟨a, m, y, ms, rfl, hs, em⟩ := h.head
  rw [e] at em
  cases em
  exact ⟨a, y, rfl, hs⟩
theorem dpl_strs {K : PySem.W.Frag} {H : Hp} : ∀ zs : List Str, DpAll K H (zs.map V.str) (zs.map PyData.str)
  | [] => .nil
  | z :: zs => .cons (.str z) (dpl_strs zs)
theorem dpl_ints {K : PySem.W.Frag} {H : Hp} : ∀ zs : List Int, DpAll K H (zs.map V.int) (zs.map PyData.int)
  | [] => .nil
  | z :: zs => .cons (.int z) (dpl_ints zs)
theorem ints_shaped (zs : List Int) : SeqAt.shaped (.list (zs.map PyData.int)) = true := by
  have h : ∀ zs : List Int, PyData.canLayAll0 (zs.map PyData.int) = true ∧ PyData.depthAll (zs.map PyData.int) = 0 := by
    intro zs
    induction zs with
    | nil => exact ⟨rfl, rfl⟩
    | cons z zs ih =>
      refine ⟨?_, ?_⟩
      · show (true && PyData.canLayAll0 (zs.map PyData.int)) = true
        rw [ih.1]
        rfl
      · show max 0 (PyData.depthAll (zs.map PyData.int)) = 0
        rw [ih.2]
        rfl
  unfold SeqAt.shaped
  rw [show PyData.canLay0 (.list (zs.map PyData.int)) = true from (h zs).1, Bool.true_and]
  refine decide_eq_true ?_
  show PyData.depthAll (zs.map PyData.int) + 1 ≤ 64
  rw [(h zs).2]
  decide
theorem nodesL_shaped {ns : List (Str × V)} (h : ∀ n ∈ ns, NGd n) : SeqAt.shaped (.list (ns.map nodeD)) = true := by
  obtain ⟨a, b⟩ := nodes_layAllG h
  unfold SeqAt.shaped
  rw [show PyData.canLay0 (.list (ns.map nodeD)) = true from a, Bool.true_and]
  refine decide_eq_true ?_
  show PyData.depthAll (ns.map nodeD) + 1 ≤ 64
  omega
theorem eqv_self {d : PyData} (h : SeqAt.shaped d = true) : PyData.eqv d d = true := SeqAt.eqv_refl _ (SeqAt.canLay_of_shaped h)
theorem facts_sok : ∀ {ns : List (Str × V)}, GoodN ns → ∀ {z : Str}, z ∈ factsN ns → PyData.strOk z = true := fun {ns} g {z} h => by
  induction ns with
  | nil => cases h
  | cons n ns ih =>
    have e : factsN (n :: ns) = factsN [n] ++ factsN ns := factsN_app [n] ns
    rw [e] at h
    rcases List.mem_append.mp h with h | h
    · obtain ⟨k, t⟩ := n
      have hg := g (k, t) List.mem_cons_self
      cases ek : factKinds.contains k with
      | true =>
        obtain ⟨y, rfl, hy⟩ := good_fact hg ek
        rw [factsN_one ek rfl] at h
        rw [List.mem_singleton.mp h]
        exact sok_fact hy
      | false =>
        rw [factsN_none ek] at h
        cases h
    · exact ih (fun m hm => g m (List.mem_cons_of_mem _ hm)) h
/-- a plain promise as it is drawn -/
structure Drawn (pl : Pl) : Prop where
  w : InW uni6 (nodesOf pl)
  l : (nodesOf pl).length ≤ 11
  ok : plOk pl = true
  good : GoodN (nodesOf pl)
  due : dueGo 1 (nodesOf pl) = true
  stack : stackT (nodesOf pl) = [textOf pl]
  full : plFull pl = true
theorem Drawn.nok {pl : Pl} (d : Drawn pl) : ∀ n ∈ nodesOf pl, NOk n := nok_of d.good d.w
theorem Drawn.of {K : PySem.W.Frag} {H : Hp} {v : V} {ws : List Str} {pl : Pl} (h : At K H v pl) (hi : ∀ z ∈ ws, z ∈ uni6) (w : InW ws (nodesOf pl)) (l : (nodesOf pl).length ≤ 11) : Drawn pl := by
  have w6 : InW uni6 (nodesOf pl) := fun k z m => hi _ (w k z m)
  obtain ⟨du, gd, _, _⟩ := at_good h w6 (by omega)
  have st := h.stack []
  rw [List.append_nil] at st
  exact ⟨w6, l, h.plOk, gd, du, st, h.full⟩
theorem Rt.m {K : PySem.W.Frag} {C : Addr} {H : Hp} {v u : V} {pl ql : Pl} {x dx p n i : Addr} {zs xs ys : List V} (r : Rt K C H v u pl ql x dx p n i zs xs ys) (d : Drawn pl) : PrOk K C H x (nodesOf pl) := ⟨dx, p, zs, r.ix, r.hs, r.hz, d.nok⟩
theorem Rt.g {K : PySem.W.Frag} {C : Addr} {H : Hp} {v u : V} {pl ql : Pl} {x dx p n i : Addr} {zs xs ys : List V} (r : Rt K C H v u pl ql x dx p n i zs xs ys) (d : Drawn pl) : PrG K C H x (nodesOf pl) := ⟨dx, p, zs, r.ix, r.hs, r.hz, d.good⟩
theorem Drawn.inner {K : PySem.W.Frag} {H : Hp} {v : V} {pl q : Pl} (d : Drawn pl) (m : q ∈ innerOf pl) (h : At K H v q) : Drawn q := by
  obtain ⟨a, b⟩ := inner_sub m
  have hl := d.l
  exact Drawn.of h (fun z hz => hz) (fun k z hk => d.w k z (a _ hk)) (by omega)
theorem inner_self (p : Pl) : p ∈ innerOf p := by
  rw [innerOf_eq]
  exact List.mem_cons_self
theorem part_inner {pl q : Pl} {i : Nat} (h : (partsPl pl)[i]? = some q) : q ∈ innerOf pl := by
  rw [innerOf_eq]
  have g : ∀ {ps : List Pl}, q ∈ ps → q ∈ innerAll ps := fun {ps} hq => by
    induction ps with
    | nil => cases hq
    | cons p ps ih =>
      rw [innerAll]
      rcases List.mem_cons.mp hq with e | e
      · rw [e]
        exact List.mem_append_left _ (inner_self p)
      · exact List.mem_append_right _ (ih e)
  exact List.mem_cons_of_mem _ (g (List.mem_of_getElem? h))
theorem prs_same {K : PySem.W.Frag} {C : Addr} {H : Hp} : ∀ {us ws : List V} {ps : List Pl}, PrsAt K C H us ps → PrsAt K C H ws ps → Prs (DIns C (SamePr K C)) us ws H
  | _, _, _, .nil, .nil => Prs.nil
  | _, _, _, .cons (p := p) ha ra, .cons hb rb => by
    obtain ⟨dx, r, xs, e1, h1, N1, o1⟩ := ha
    obtain ⟨dy, t, ys, e2, h2, N2, o2⟩ := hb
    exact Prs.cons ⟨_, _, dx, dy, _, _, rfl, rfl, e1, e2, nodesOf p, ⟨dx, r, xs, e1, h1, N1, fun n hn => (o1 n hn).1⟩, ⟨dy, t, ys, e2, h2, N2, fun n hn => (o2 n hn).1⟩⟩ (prs_same ra rb)
theorem parts_le (pl : Pl) : (partsPl pl).length ≤ (nodesOf pl).length := by
  have h := nodes_ge (partsPl pl)
  cases pl with
  | leaf k u => rw [partsPl]; exact Nat.zero_le _
  | node k ps =>
    rw [partsPl] at h ⊢
    rw [nodesOf, List.length_cons]
    exact Nat.le_succ_of_le h
theorem depth_le : ∀ p : Pl, depthOf p ≤ (nodesOf p).length
  | .leaf k t => by rw [depthOf, nodesOf]; exact Nat.le_refl _
  | .node k ps => by
    rw [depthOf, nodesOf, List.length_cons]
    have := depthA_le ps
    omega
where depthA_le : ∀ ps : List Pl, depthAll ps ≤ (nodesAll ps).length
  | [] => by rw [depthAll]; exact Nat.zero_le _
  | p :: ps => by
    rw [depthAll, nodesAll, List.length_append]
    have h1 := depth_le p
    have h2 := depthA_le ps
    omega
/-- the data of the inner promises -/
theorem dp_inner {K : PySem.W.Frag} {H : Hp} {vs : List V} {ps : List Pl} (h : AtAll K H vs ps) (g : ∀ p ∈ ps, LeafG (nodesOf p)) : DpAll K H vs (ps.map dataOf) := by
  induction ps generalizing vs with
  | nil => cases h; exact .nil
  | cons p ps ih =>
    cases h with
    | cons a r => exact .cons (dp_tree a (g p List.mem_cons_self)) (ih r fun q hq => g q (List.mem_cons_of_mem _ hq))
theorem inner_shaped {ps : List Pl} (g : ∀ p ∈ ps, LeafG (nodesOf p)) (d : ∀ p ∈ ps, depthOf p ≤ 20) : SeqAt.shaped (.list (ps.map dataOf)) = true := by
  have h : PyData.canLayAll0 (ps.map dataOf) = true ∧ PyData.depthAll (ps.map dataOf) ≤ 40 := by
    induction ps with
    | nil => exact ⟨rfl, Nat.zero_le _⟩
    | cons p ps ih =>
      obtain ⟨a, b⟩ := ih (fun q hq => g q (List.mem_cons_of_mem _ hq)) fun q hq => d q (List.mem_cons_of_mem _ hq)
      obtain ⟨a1, b1⟩ := tree_lay (g p List.mem_cons_self)
      have d1 := d p List.mem_cons_self
      refine ⟨?_, ?_⟩
      · show (PyData.canLay0 (dataOf p) && PyData.canLayAll0 (ps.map dataOf)) = true
        rw [a, a1]
        rfl
      · show max (PyData.depth (dataOf p)) (PyData.depthAll (ps.map dataOf)) ≤ 40
        omega
  unfold SeqAt.shaped
  rw [show PyData.canLay0 (.list (ps.map dataOf)) = true from h.1, Bool.true_and]
  refine decide_eq_true ?_
  show PyData.depthAll (ps.map dataOf) + 1 ≤ 64
  omega
/-- a plain promise among the inner ones -/
theorem inner_any {ps : List Pl} {q : Pl} (g : ∀ p ∈ ps, LeafG (nodesOf p)) (gq : LeafG (nodesOf q)) : (((ps.map dataOf).any fun z => PyData.eqv z (dataOf q)) = true ↔ q ∈ ps) := by
  rw [List.any_map, List.any_eq_true]
  constructor
  · rintro ⟨p, hp, h⟩
    rw [← (tree_eqv (g p hp) gq).mp h]
    exact hp
  · intro h
    exact ⟨q, h, (tree_eqv gq gq).mpr rfl⟩
end Eh

set_option Elab.async false
set_option linter.all false
set_option maxRecDepth 100000
set_option maxHeartbeats 4000000
/-! _split and nodes_in as plain promises: the parameter's name is a token out -/
namespace Eh
open PySem PySem.Spec PyProof.Rows L2
open CwR
section
variable {P : Program} {w : World} {K : PySem.W.Frag} {mg : Str → Option Value} {base : Heap}
theorem ok_splitF {f : Addr} {fd : FuncData} (F : Fun K "_split" "_split" s__split f fd) : FnOk P w K mg base CX0 1 f fd ["text"] spSplit := by
  obtain ⟨oc, od, kV, doc, pm, an, cdv, ct, osl, rfl, lk, hcd⟩ := F.ex
  refine fn_ofT lk hcd sc__split (by decide +kernel) (by decide) (fun vs H Q E h => ?_) (fun A outer s H vs Q E hr h => ?_)
  · obtain ⟨z, rfl, _⟩ := h
    rfl
  · obtain ⟨z, rfl, hz, q⟩ := h
    refine ⟨_, psst_cons (pst_set (i := 1) sc__split.nd rfl (.inl rfl) (pet_replT (pet_replT (pet_replT (pet_replT (PET.of (pv 0)))))))
      (PSsT.of (pss_one (ps_ret (pe_split (pv 1) pe_str)))), ?_⟩
    have h1 := rep_len z "(" "( " (by decide +kernel)
    have h2 := rep_len (Txt.replace z "(" "( ") "[" "[ " (by decide +kernel)
    have h3 := rep_len (Txt.replace (Txt.replace z "(" "( ") "[" "[ ") ")" " )" (by decide +kernel)
    have h4 := rep_len (Txt.replace (Txt.replace (Txt.replace z "(" "( ") "[" "[ ") ")" " )") "]" " ]" (by decide +kernel)
    have l1 : ("( " : Str).length = 2 := by decide +kernel
    have l2 : ("[ " : Str).length = 2 := by decide +kernel
    have l3 : (" )" : Str).length = 2 := by decide +kernel
    have l4 : (" ]" : Str).length = 2 := by decide +kernel
    refine ⟨_, rfl, z, rfl, by rw [l1]; omega, _, rfl, by rw [l2]; omega, _, rfl, by rw [l3]; omega, _, rfl, by rw [l4]; omega, ?_⟩
    refine ⟨_, rfl, ⟨_, rfl⟩, _, _, rfl, rfl, by decide +kernel, Nat.le_of_lt (small (by omega)), fun p np => ?_⟩
    exact q p np
theorem ok_nodes_inF {p0 fS fP f : Addr} {fdS fdP fd : FuncData} (F : Fun K "nodes_in" "nodes_in" s_nodes_in f fd) (T : Txt mg) (S : SignedAt K w mg p0) (GS : FnOk P w K mg base CX0 1 fS fdS ["text"] spSplit) (mS : mg "_split" = some (.ref fS)) (kS : PySem.W.keepIn K (.ref fS) = true) (bS : Binds K fdS ["text"] [])
    (C__plain_node : Cal P w K mg base 1 "_plain_node" fP fdP ["word"] spPlainN) : FnOk P w K mg base CX0 2 f fd ["text"] (spNodesIn K) := by
  refine F.ok sc_nodes_in (fun vs H Q E h => ?_) (fun cdv A outer s H vs Q E hr h => ?_)
  · obtain ⟨z, rfl, _⟩ := h
    rfl
  · obtain ⟨z, rfl, hz, hw, hx, q⟩ := h
    refine ⟨_, pss_cons ((ps_set (i := 1) sc_nodes_in.nd rfl (.inr rfl) (pe_lst pa_nil)))
      (pss_cons ((ps_set (i := 2) sc_nodes_in.nd rfl (.inr rfl) (pe_lst pa_nil)))
      (pss_cons ((ps_set (i := 3) sc_nodes_in.nd rfl (.inl rfl) (pe_lst pa_nil)))
      (pss_cons (ps_for PassesOwn.never (by rfl) (piL (K := K) rfl (pe_call GS hr (by rfl) mS kS bS .nil pass0 (pa_cons (pv 0) pa_nil))) (pg_name (i := 4) sc_nodes_in.nd rfl (.inl rfl))
        (pss_one (ps_if (pt_cmpR (inQ (K := K) rfl) (pv 4) (pe_tup (pa_cons pe_str (pa_cons pe_str pa_nil))) (by rfl))
          (pss_cons (ps_expr (bmK (K := K) rfl (pe_bm PySem.F.plainAttrs_list PySem.F.slot_list_append PySem.F.type_list_append mt_append (pv 3) (pa_cons (pe_callB (lenQ (K := K) rfl) (by rfl) T.len_ (by decide +kernel) (pa_cons (pv 1) pa_nil)) pa_nil))))
          (pss_cons (ps_expr (bmK (K := K) rfl (pe_bm PySem.F.plainAttrs_list PySem.F.slot_list_append PySem.F.type_list_append mt_append (pv 1) (pa_cons pe_str pa_nil))))
          (pss_one (ps_expr (bmK (K := K) rfl (pe_bm PySem.F.plainAttrs_list PySem.F.slot_list_append PySem.F.type_list_append mt_append (pv 2) (pa_cons pe_int pa_nil)))))))
          (pss_one (ps_if (PW.pt (pw_and (pt_cmpR (inSg S rfl rfl) (pv 4) (pe_glob (v := .ref p0) rfl S.g rfl) (by rfl)) (pw_and1 (pt_truth (pv 3) (by intro _; rfl)))))
            (pss_cons (ps_asg (pe_ix (ixKd (K := K) (w := w) rfl rfl) (pe_glob (v := .ref p0) rfl S.g rfl) (pv 4) (fun _ _ => rfl)) (pg_sub (pv 1) (pe_ix (ixL (K := K) rfl) (pv 3) (pe_un un_neg pe_int) (fun _ _ => rfl)) set_list))
            (pss_one (ps_augS (pv 2) (pe_ix (ixL (K := K) rfl) (pv 3) (pe_un un_neg pe_int) (fun _ _ => rfl)) get_list pe_int ip_add set_list)))
            (pss_one (ps_if (PW.pt (pw_and (pt_cmpR (inQ (K := K) rfl) (pv 4) (pe_tup (pa_cons pe_str (pa_cons pe_str pa_nil))) (by rfl)) (pw_and1 (pt_truth (pv 3) (by intro _; rfl)))))
              (pss_one (ps_expr (bm0K (K := K) rfl (pe_bm0 PySem.F.plainAttrs_list PySem.F.slot_list_pop PySem.F.type_list_pop mt_pop (pv 3)))))
              (pss_cons (ps_asg (pe_call C__plain_node.G hr (by rfl) C__plain_node.m C__plain_node.k C__plain_node.b .nil pass0 (pa_cons (pv 4) pa_nil)) (pg_tup (by rfl) (pgs_cons (pg_name (i := 5) sc_nodes_in.nd rfl (.inl rfl)) (pgs_cons (pg_name (i := 6) sc_nodes_in.nd rfl (.inl rfl)) pgs_nil))))
              (pss_cons (ps_expr (bmK (K := K) rfl (pe_bm PySem.F.plainAttrs_list PySem.F.slot_list_append PySem.F.type_list_append mt_append (pv 1) (pa_cons (pv 5) pa_nil))))
              (pss_one (ps_expr (bmK (K := K) rfl (pe_bm PySem.F.plainAttrs_list PySem.F.slot_list_append PySem.F.type_list_append mt_append (pv 2) (pa_cons (pv 6) pa_nil))))))))))))))
      ((pss_one (ps_ret (pe_callTy call_tuple_of (by rfl) T.tuple_ (by decide +kernel) (pa_cons (pe_lc (own := [("at", 7)]) (g := gName 7) (by rfl) sc_nodes_in.nd (pi_range1 (by rfl) T.range_ (pa_cons (pe_callB (lenQ (K := K) rfl) (by rfl) T.len_ (by decide +kernel) (pa_cons (pv 1) pa_nil)) pa_nil)) (blkOk_by (by kernel_rfl)) (fun _ _ _ _ _ => (pg_name (i := 7) sc_nodes_in.nd rfl (.inl rfl))) (fun _ _ _ _ _ => pts_nil) (fun _ _ _ _ _ => (pe_tup (pa_cons (pe_ix (ixL (K := K) rfl) (pv 1) (pv 7) (fun _ _ => rfl)) (pa_cons (pe_ix (ixL (K := K) rfl) (pv 2) (pv 7) (fun _ _ => rfl)) pa_nil))))) pa_nil)))))))), ?_⟩
    refine ⟨Nat.zero_le _, fun lk nk => ⟨Nat.zero_le _, fun lc nc => ⟨Nat.zero_le _, fun la na => ?_⟩⟩⟩
    have s1 := same_new (o := .lst []) nk
    have s2 := same_new (o := .lst []) nc
    have s3 := same_new (o := .lst []) na
    have nkH : H lk = none := nk
    have ncH : H lc = none := s1.free nc
    have naH : H la = none := (s1.trans s2).free na
    have hck : lc ≠ lk := fun e => by rw [e, upd_same] at nc; cases nc
    have hac : la ≠ lc := fun e => by rw [e, upd_same] at na; cases na
    have hak : la ≠ lk := fun e => by rw [e, upd_ne hck.symm, upd_same] at na; cases na
    have l0 : L3 (upd (upd (upd H lk (.lst [])) lc (.lst [])) la (.lst [])) lk lc la ⟨[], [], []⟩ := ⟨s3 _ _ (s2 _ _ upd_same), s3 _ _ upd_same, upd_same⟩
    have s123 : Same H (upd (upd (upd H lk (.lst [])) lc (.lst [])) la (.lst [])) := s1.trans (s2.trans s3)
    generalize upd (upd (upd H lk (.lst [])) lc (.lst [])) la (.lst []) = H3 at l0 s123 ⊢
    clear nk nc na s1 s2 s3
    refine ⟨_, rfl, z, rfl, hz, fun lw nw => ⟨lw, rfl, ⟨_, SqL.of upd_same⟩, ?_⟩⟩
    have nwH : H lw = none := s123.free nw
    have hwk : lw ≠ lk := fun e => by rw [e, l0.k] at nw; cases nw
    have hwc : lw ≠ lc := fun e => by rw [e, l0.c] at nw; cases nw
    have hwa : lw ≠ la := fun e => by rw [e, l0.a] at nw; cases nw
    have s4 := same_new (o := .lst ((split4 z).map V.str)) nw
    have l4 := l0.same s4
    have e4 := upd_same (H := H3) (a := lw) (o := HO.lst ((split4 z).map V.str))
    have s14 := s123.trans s4
    generalize upd H3 lw (.lst ((split4 z).map V.str)) = H4 at l4 e4 s14 ⊢
    clear s4 l0 s123 nw
    refine for_list (K := K) (a := lw) (xs := (split4 z).map V.str) (fun j σ H5 => ∃ x4 x5 x6, σ = [some (.str z), some (.ref lk), some (.ref lc), some (.ref la), x4, x5, x6, none] ∧ Same H H5 ∧ H5 lw = some (.lst ((split4 z).map V.str)) ∧ L3 H5 lk lc la (run3 ((split4 z).take j))) ⟨none, none, none, rfl, s14, e4, l4⟩ (fun j σ H5 _ h => ?_) ?_ ?_
    · obtain ⟨_, _, _, _, _, e, _⟩ := h
      exact SqL.of e
    · rintro j x σ H5 hj ⟨x4, x5, x6, rfl, s5, e5, l5⟩
      rw [List.getElem?_map] at hj
      obtain ⟨y, hy, rfl⟩ := Option.map_eq_some_iff.mp hj
      have hjl : j < 100000 := by
        have := (List.getElem?_eq_some_iff.mp hy).1
        omega
      have hyl := hx y (List.mem_of_getElem? hy)
      obtain ⟨k3, c3⟩ := run3_len ((split4 z).take j) ⟨[], [], []⟩
      have ok := run3_ok ((split4 z).take j) _ ok3_start
      have htl := List.length_take_le j (split4 z)
      rw [run3_take hy]
      change (run3 ((split4 z).take j)).ks.length ≤ _ at k3
      change (run3 ((split4 z).take j)).ar.length ≤ _ at c3
      change Ok3 (run3 ((split4 z).take j)) at ok
      generalize run3 ((split4 z).take j) = s at l5 k3 c3 ok ⊢
      have k3 : s.ks.length ≤ j := by simpa using Nat.le_trans k3 (by simpa using htl)
      have c3 : s.ar.length ≤ j := by simpa using Nat.le_trans c3 (by simpa using htl)
      have hcl := ok.len
      refine ⟨_, rfl, lenOk 2, fun t1 n1 => ⟨t1, parens.map V.str, rfl, .inr (SqT.of upd_same), rfl, flat_strs _, _, rfl, ?_⟩⟩
      have u6 : Same H5 (upd H5 t1 (.tup [V.str "(", V.str "["])) := same_new n1
      have s6 := s5.trans u6
      have e6 := u6 _ _ e5
      have l6 := l5.same u6
      generalize upd H5 t1 (.tup [V.str "(", V.str "["]) = H6 at s6 e6 l6 ⊢
      clear u6 n1
      cases c1 : parens.contains y with
      | true =>
        have es : step3 s y = ⟨s.ks ++ [("" : Str)], s.cs ++ [.int 1], s.ar ++ [s.ks.length]⟩ := by unfold step3; rw [if_pos c1]
        rw [es]
        refine iteT' ((inV_strs y parens).trans c1) ?_
        refine ⟨_, rfl, .inl ⟨rfl, _, SqL.of l6.a⟩, _, rfl, .inl ⟨lk, _, rfl, .inl (SqL.of l6.k), la, _, .int ((s.ks.map V.str).length : Int), rfl, rfl, l6.a, small (by rw [List.length_map]; omega), ?_⟩⟩
        refine ⟨_, rfl, .inl ⟨rfl, _, SqL.of ((upd_ne hak.symm).trans l6.k)⟩, lk, _, .str "", rfl, rfl, (upd_ne hak.symm).trans l6.k, small (by rw [List.length_map]; omega), ?_⟩
        refine ⟨_, rfl, .inl ⟨rfl, _, SqL.of ((upd_ne hck).trans ((upd_ne hac.symm).trans l6.c))⟩, lc, _, .int 1, rfl, rfl, (upd_ne hck).trans ((upd_ne hac.symm).trans l6.c), small (by omega), ?_⟩
        refine ⟨_, _, _, rfl, same_put (same_put (same_put s6 naH) nkH) ncH, ?_, ?_, ?_, ?_⟩
        · rw [upd_ne hwc, upd_ne hwk, upd_ne hwa]
          exact e6
        · rw [upd_ne hck.symm, upd_same, List.map_append]
          rfl
        · exact upd_same
        · rw [upd_ne hac, upd_ne hak, upd_same, List.map_append, List.length_map]
          rfl
      | false =>
        have n1 : ¬ parens.contains y = true := by rw [c1]; exact Bool.false_ne_true
        refine iteF' ((inV_strs y parens).trans c1) ?_
        have tr : ∀ b, b = !(s.ar.map natV).isEmpty → TruV K (.ref la) H6 b := fun b e => .inl ⟨_, SqL.of l6.a, e⟩
        by_cases c2 : signs4.contains y = true ∧ s.ar ≠ []
        · obtain ⟨pre, i, ei, eg⟩ := last_nat c2.2
          have es : step3 s y = ⟨s.ks.set i (kindOfSign y), bump s.cs i, s.ar⟩ := by unfold step3; rw [if_neg n1, if_pos c2, eg]
          have hm := last_mem c2.2
          rw [eg] at hm
          obtain ⟨n, en⟩ := ok.at_ i hm
          have hil : i < s.cs.length := (List.getElem?_eq_some_iff.mp en).1
          have eb : bump s.cs i = s.cs.set i (.int (n + 1)) := by
            unfold bump
            rw [en]
            rfl
          rw [es, eb]
          have ea : s.ar.map natV = pre.map natV ++ [natV i] := by rw [ei, List.map_append]; rfl
          have la6 := l6.a
          rw [ea] at la6
          refine ⟨_, rfl, y, rfl, rfl, _, rfl, iteT' c2.1 ?_⟩
          refine ⟨_, rfl, true, tr true (by rw [ea]; simp), iteT ?_⟩
          refine ⟨_, rfl, p0, y, _, rfl, rfl, S.v y c2.1, ?_⟩
          refine ⟨_, rfl, _, rfl, _, rfl, la, _, (-1), natV i, rfl, rfl, SqL.of la6, atI_last, lk, _, (i : Int), i, rfl, rfl, l6.k, by rw [List.length_map]; exact ixN_nat (by omega), ?_⟩
          have la7 : (upd H6 lk (.lst ((s.ks.map V.str).set i (.str (kindOfSign y))))) la = some (.lst (pre.map natV ++ [natV i])) := (upd_ne hak).trans la6
          have lc7 : (upd H6 lk (.lst ((s.ks.map V.str).set i (.str (kindOfSign y))))) lc = some (.lst s.cs) := (upd_ne hck).trans l6.c
          refine ⟨_, rfl, _, rfl, _, rfl, la, _, (-1), natV i, rfl, rfl, SqL.of la7, atI_last, ?_⟩
          refine ⟨lc, _, (i : Int), .int n, rfl, rfl, SqL.of lc7, by omega, by omega, by rw [Int.toNat_natCast]; exact en, ?_⟩
          refine ⟨n, 1, rfl, rfl, lc, _, (i : Int), i, rfl, rfl, lc7, ixN_nat hil, ?_⟩
          refine ⟨_, _, _, rfl, same_put (same_put s6 nkH) ncH, ?_, ?_, ?_, ?_⟩
          · rw [upd_ne hwc, upd_ne hwk]
            exact e6
          · rw [upd_ne hck.symm, upd_same, List.map_set]
          · exact upd_same
          · rw [upd_ne hac, upd_ne hak]
            exact l6.a
        · have hs : signs4.contains y = true → s.ar = [] := fun h => Classical.byContradiction fun z => c2 ⟨h, z⟩
          have es : step3 s y = if closes.contains y = true ∧ s.ar ≠ [] then ⟨s.ks, s.cs, s.ar.dropLast⟩ else ⟨s.ks ++ [(plainN y).1], s.cs ++ [(plainN y).2], s.ar⟩ := by
            unfold step3
            rw [if_neg n1, if_neg c2]
          rw [es]
          refine ⟨_, rfl, y, rfl, rfl, _, rfl, ?_⟩
          cases e2 : signs4.contains y
          case' true =>
            have ha0 := hs e2
            refine iteT ⟨_, rfl, false, tr false (by rw [ha0]; rfl), iteF ?_⟩
          case' false => refine iteF ?_
          all_goals
            refine ⟨_, rfl, lenOk 2, fun t2 n2 => ⟨t2, closes.map V.str, rfl, .inr (SqT.of upd_same), rfl, flat_strs _, _, rfl, ?_⟩⟩
            have u7 : Same H6 (upd H6 t2 (.tup [V.str ")", V.str "]"])) := same_new n2
            have s7 := s6.trans u7
            have e7 := u7 _ _ e6
            have l7 := l6.same u7
            generalize upd H6 t2 (.tup [V.str ")", V.str "]"]) = H7 at s7 e7 l7 ⊢
            clear u7 n2
            have tr7 : ∀ b, b = !(s.ar.map natV).isEmpty → TruV K (.ref la) H7 b := fun b e => .inl ⟨_, SqL.of l7.a, e⟩
            by_cases c3 : closes.contains y = true ∧ s.ar ≠ []
            · obtain ⟨pre, i, ei, eg⟩ := last_nat c3.2
              rw [if_pos c3]
              have ea : s.ar.map natV = pre.map natV ++ [natV i] := by rw [ei, List.map_append]; rfl
              have la7 := l7.a
              rw [ea] at la7
              refine iteT' ((inV_strs y closes).trans c3.1) ⟨_, rfl, true, tr7 true (by rw [ea]; simp), iteT ?_⟩
              refine ⟨_, rfl, .inl ⟨rfl, _, SqL.of la7⟩, la, _, natV i, rfl, rfl, la7, ?_, ?_⟩
              · rw [List.length_append, List.length_singleton, Nat.add_sub_cancel]
                exact List.getElem?_concat_length
              · rw [List.dropLast_concat]
                refine ⟨_, _, _, rfl, same_put s7 naH, (upd_ne hwa).trans e7, (upd_ne hak.symm).trans l7.k, (upd_ne hac.symm).trans l7.c, ?_⟩
                rw [upd_same, ei, List.dropLast_concat]
            · rw [if_neg c3]
              have hc : closes.contains y = true → s.ar = [] := fun h => Classical.byContradiction fun z => c3 ⟨h, z⟩
              cases e3 : closes.contains y
              case' true =>
                have ha1 := hc e3
                refine iteT' ((inV_strs y closes).trans e3) ⟨_, rfl, false, tr7 false (by rw [ha1]; rfl), iteF ?_⟩
              case' false => refine iteF' ((inV_strs y closes).trans e3) ?_
              all_goals
                refine ⟨_, rfl, y, rfl, hyl, fun tp H8 u8 n8 e8 => ?_⟩
                have l8 := l7.same u8
                have e9 := u8 _ _ e7
                have s8 := s7.trans u8
                refine ⟨tp, _, rfl, SqT.of e8, rfl, _, _, rfl, _, _, rfl, rfl, ?_⟩
                refine ⟨_, rfl, .inl ⟨rfl, _, SqL.of l8.k⟩, _, rfl, lk, _, .str (plainN y).1, rfl, rfl, l8.k, small (by rw [List.length_map]; omega), ?_⟩
                refine ⟨_, rfl, .inl ⟨rfl, _, SqL.of ((upd_ne hck).trans l8.c)⟩, _, rfl, lc, _, (plainN y).2, rfl, rfl, (upd_ne hck).trans l8.c, small (by omega), ?_⟩
                refine ⟨_, _, _, rfl, same_put (same_put s8 nkH) ncH, (upd_ne hwc).trans ((upd_ne hwk).trans e9), ?_, upd_same, (upd_ne hac).trans ((upd_ne hak).trans l8.a)⟩
                rw [upd_ne hck.symm, upd_same, List.map_append]
                rfl
    · rintro σ H5 ⟨x4, x5, x6, rfl, s5, e5, l5⟩
      rw [List.length_map, List.take_length] at l5
      have ok := run3_ok (split4 z) _ ok3_start
      obtain ⟨k3, _⟩ := run3_len (split4 z) ⟨[], [], []⟩
      change Ok3 (run3 (split4 z)) at ok
      change (run3 (split4 z)).ks.length ≤ _ at k3
      have hq := q
      unfold nodesIn at hq
      generalize run3 (split4 z) = s at l5 ok k3 hq ⊢
      have k3 : s.ks.length ≤ (split4 z).length := by simpa using k3
      have hcl := ok.len
      refine ⟨_, rfl, .inl ⟨lk, _, rfl, .inl (SqL.of l5.k), _, rfl, by omega, by rw [List.length_map]; omega, fun D nD => ?_⟩⟩
      have s6 := s5.trans (same_new (o := .lst []) nD)
      have u6 := same_new (o := .lst []) nD
      have nDH : H D = none := s5.free nD
      have nD5 : H5 D = none := nD
      refine lcR (fun j acc H6 => Same H H6 ∧ Same H5 H6 ∧ NdsAt K H6 acc ((s.ks.zip s.cs).take j)) ⟨s6, u6, .nil⟩ ?_ ?_
      · rintro j acc H6 hj hl e ⟨s7, u7, A7⟩
        rw [List.length_map] at hj
        have hj' : j < s.ks.length := by omega
        obtain ⟨k, hk⟩ : ∃ k, s.ks[j]? = some k := ⟨_, List.getElem?_eq_getElem hj'⟩
        obtain ⟨v, hv⟩ : ∃ v, s.cs[j]? = some v := ⟨_, List.getElem?_eq_getElem (by omega)⟩
        have ei : ((0 : Int) + (j : Int)) = (j : Int) := Int.zero_add _
        rw [ei]
        refine ⟨_, rfl, _, rfl, lk, _, _, .str k, rfl, rfl, SqL.of (u7 _ _ l5.k), atI_nat (by rw [List.getElem?_map, hk]; rfl), ?_⟩
        refine ⟨_, rfl, _, rfl, lc, _, _, v, rfl, rfl, SqL.of (u7 _ _ l5.c), atI_nat hv, lenOk 2, fun t nt => ?_⟩
        have u8 : Same H6 (upd H6 t (.tup [.str k, v])) := same_new nt
        refine LcK.mk hl (by omega) (u8 _ _ e) ⟨same_put (s7.trans u8) nDH, same_put (u7.trans u8) nD5, ?_⟩
        rw [zip_take_succ hk hv]
        have kp := Tk.put (ys := acc ++ [V.ref t]) (u8 _ _ e)
        exact ((A7.tk (stk u8)).tk kp).app (.cons (kp.seq (SqT.of upd_same)) .nil)
      · rintro acc H6 hl e ⟨s7, u7, A7⟩
        have ez : (s.ks.zip s.cs).take (((s.ks.map V.str).length : Int)).toNat = s.ks.zip s.cs := by
          refine List.take_of_length_le ?_
          rw [List.length_zip, List.length_map]
          omega
        rw [ez] at A7
        refine ⟨D, acc, rfl, .inl ⟨SqL.of e, fun p np => ?_⟩⟩
        exact hq p acc _ (s7.trans (same_new np)) (s7.free np) upd_same (A7.tk (Tk.new np))
end
end Eh

set_option Elab.async false
set_option linter.all false
set_option maxRecDepth 100000
set_option maxHeartbeats 4000000
/-! Promise.read of a text: read, or refused with a ParseError that keeps None -/
namespace Eh
open PySem PySem.Spec PyProof.Rows L2
section
variable {P : Program} {w : World} {K : PySem.W.Frag} {mg : Str → Option Value} {base : Heap}
def spReadX (K : PySem.W.Frag) (C CP : Addr) : Sp := fun vs H Q E => ∃ z ns, vs = [.ref C, .str z] ∧ z.length ≤ 9000 ∧ (split4 z).length < 100000 ∧ (∀ x ∈ split4 z, x.length ≤ 900000) ∧ nodesIn z = ns ∧ GoodN ns ∧ ns.length < 1000 ∧
  (okB ns = true → dueGo 1 ns = true ∧ ∃ t, stackT ns = [t] ∧ ((t = z ∧ ∀ a H', Same H H' → H a = none → PrG K C H' a ns → Q (.ref a) H') ∨ (t ≠ z ∧ ∀ d H', Same H H' → H d = none → H' d = some (.xd [("line", .non)]) → E (.ref CP) (some d) H'))) ∧
  (okB ns = false → ∀ d H', Same H H' → H d = none → H' d = some (.xd [("line", .non)]) → E (.ref CP) (some d) H')
theorem ok_readX {C CE CP fI fL fN fA fT fPI f : Addr} {fdI fdN fdA fdT fdPI fd : FuncData} (F : Fun K "read" "Promise.read" s_Promise_read f fd) (T : Txt mg) (PC : PromC K mg C fI fL) (C_nodes_in : Cal P w K mg base 2 "nodes_in" fN fdN ["text"] (spNodesIn K))
    (C__are_nodes : Cal P w K mg base 3 "_are_nodes" fA fdA ["value"] (spAreE K)) (C_text_of : Cal P w K mg base 2 "text_of" fT fdT ["nodes"] (spText K)) (GI : FnOk P w K mg base (L2.CX P w) 4 fI fdI ["self", "nodes"] (spInitE K C CE)) (bI : Binds K fdI ["self", "nodes"] [])
    (TP : OexB K CP "ValueError" "ValueError.__new__" "ValueError.__init__" veB) (gP : mg "ParseError" = some (.ref CP)) (iP : PySem.W.findIn K (.ref CP) "__init__" = some (some (.ref fPI))) (tP : PySem.W.typeIn K (.ref fPI) = some (.type "function")) (GP : FnOk P w K mg base CX0 2 fPI fdPI ["self", "line"] (spKeep1 CP "line")) (bP : Binds K fdPI ["self", "line"] []) :
    FnOk P w K mg base (L2.CX P w) 6 f fd ["cls", "text"] (spReadX K C CP) := by
  refine F.okX sc_Promise_read (fun vs H Q E h => ?_) (fun cdv A outer s H vs Q E hr h => ?_)
  · obtain ⟨z, ns, rfl, _⟩ := h
    rfl
  · obtain ⟨z, ns, rfl, hz, hw, hx, hns, hg, hl, q1, q2⟩ := h
    have hr2 := hr.mono (j := 2) (by omega)
    have hr3 := hr.mono (j := 3) (by omega)
    refine ⟨_, (pss_cons (ps_if (pt_not (pt_val (pe_callB (isiQ (K := K) rfl) (by rfl) T.isinstance_ (by decide +kernel) (pa_cons (pv 1) (pa_cons (pe_bltn (v := .ty "str") (by rfl) T.str_ (by decide +kernel) rfl) pa_nil))))) (pss_one ps_never) pss_nil)
      (pss_cons (ps_set (i := 2) sc_Promise_read.nd rfl (.inl rfl) (pe_call C_nodes_in.G hr2 (by rfl) C_nodes_in.m C_nodes_in.k C_nodes_in.b .nil pass0 (pa_cons (pv 1) pa_nil)))
      (pss_cons (ps_if (PW.pt (pw_or (pt_not (pt_val (pe_call C__are_nodes.G hr3 (by rfl) C__are_nodes.m C__are_nodes.k C__are_nodes.b .nil pass0 (pa_cons (pv 2) pa_nil)))) (pw_or1 (pt_cmpR op_ne (pe_call C_text_of.G hr2 (by rfl) C_text_of.m C_text_of.k C_text_of.b .nil pass0 (pa_cons (pv 2) pa_nil)) (pv 1) (nomark _)))))
        (pss_one (ps_raise rfl (takes_of rfl rfl rfl rfl) (pmk_keep baseVE TP iP tP GP hr3 bP pass0 (by rfl) gP (pa_cons pe_non pa_nil)))) pss_nil)
      (pss_one (ps_ret (pe_makeL (i := 0) (E := fun _ => E) PC.mkC GI hr rfl (by first | exact Or.inl rfl | exact Or.inr (Or.inl rfl)) bI (fun σ => passAt (takes_of rfl rfl rfl rfl) σ) (pa_cons (pv 2) pa_nil))))))), ?_⟩
    refine ⟨_, rfl, .str z, .ty "str", .type "str", .type "str", true, rfl, .ty _, .base (.str z), kit_ty (by decide +kernel), _, rfl, iteF ?_⟩
    refine ⟨_, rfl, z, rfl, hz, hw, hx, fun p ys H1 s1 n1 e1 N1 => ?_⟩
    rw [hns] at N1
    refine ⟨_, rfl, .ref p, _, rfl, good_W (SqT.of e1) N1 hg, fun H2 s2 => ⟨_, rfl, ?_⟩⟩
    have N2 := N1.tk (stk s2)
    have e2 := (stk s2).seq (SqT.of e1 : SqT K H1 p ys)
    cases ho : okB ns with
    | false =>
      refine iteT ⟨by show 1 ≤ 1000; decide, mk_keep (.inl rfl) fun d H' s' nd ed => ?_⟩
      exact q2 ho d H' (s1.trans (s2.trans s')) ((s1.trans s2).free nd) ed
    | true =>
      obtain ⟨hd, t, ht, qq⟩ := q1 ho
      refine iteF ⟨_, rfl, p, ys, ns, t, rfl, e2, N2, hg, hd, by rw [N1.length]; exact hl, ht, fun H3 s3 => ⟨_, rfl, rfl, _, rfl, ?_⟩⟩
      have s03 := s1.trans (s2.trans s3)
      rcases qq with ⟨etz, q⟩ | ⟨etz, q⟩
      · refine iteF' (by rw [etz]; simp) ⟨rfl, _, rfl, fun x dx nx nd ne => ?_⟩
        have N3 := N2.tk (stk s3)
        have e3 := (stk s3).seq e2
        have u3 : Same H3 (upd (upd H3 dx (.own x)) x (.ins C dx [])) := fun b' o' eb => by
          rw [upd_ne (ne_of_none eb nx), upd_ne (ne_of_none eb nd)]
          exact eb
        refine ⟨x, dx, .ref p, okB ns, rfl, upd_same, (good_W e3 N3 hg).ku (ku_same u3), fun eb H4 bt e4 => ⟨rfl, ?_⟩, fun eb H4 s4 => ?_⟩
        · obtain ⟨s5, pr⟩ := made_steps nx nd e3 N3 hg bt e4
          exact q x H4 (s03.trans s5) (s03.free nx) pr
        · rw [ho] at eb
          cases eb
      · refine iteT' (by simpa using etz) ⟨by show 1 ≤ 1000; decide, mk_keep (.inl rfl) fun d H' s' nd ed => ?_⟩
        exact q d H' (s03.trans s') (s03.free nd) ed
end
end Eh

set_option Elab.async false
set_option linter.all false
set_option maxRecDepth 100000
set_option maxHeartbeats 4000000
/-! the nodes of a tree's text are the tree's nodes -/
namespace Eh
open PySem PySem.Spec PyProof.Rows L2
open TL
/-! ### the text with its spaces, as a list of signs -/
def sp4 (c : Nat) : List Nat := if c = 40 then [40, 32] else if c = 91 then [91, 32] else if c = 41 then [32, 41] else if c = 93 then [32, 93] else [c]
def one1 (c : Nat) (r : List Nat) (x : Nat) : List Nat := if x = c then r else [x]
theorem repl_one (c : Nat) (r : List Nat) : ∀ l : List Nat, PySem.StrLaws.replL [c] r l = l.flatMap (one1 c r)
  | [] => PySem.StrLaws.replL_nil
  | x :: l => by
    rw [List.flatMap_cons, one1]
    by_cases h : x = c
    · rw [if_pos h, PySem.StrLaws.replL_hit (by simp) (by rw [h]; rfl)]
      exact congrArg _ (repl_one c r l)
    · rw [if_neg h, PySem.StrLaws.replL_miss (by simpa using h), repl_one c r l]
      rfl
theorem four_one (x : Nat) : ((((one1 40 [40, 32] x).flatMap (one1 91 [91, 32])).flatMap (one1 41 [32, 41])).flatMap (one1 93 [32, 93])) = sp4 x := by
  by_cases h1 : x = 40
  · subst h1; decide
  · by_cases h2 : x = 91
    · subst h2; decide
    · by_cases h3 : x = 41
      · subst h3; decide
      · by_cases h4 : x = 93
        · subst h4; decide
        · unfold one1 sp4
          simp [h1, h2, h3, h4]
theorem tl_repl {x y z : Str} (hy : 1 ≤ y.length) : tl (Txt.replace x y z) = PySem.StrLaws.replL (tl y) (tl z) (tl x) := PySem.StrLaws.replace_list hy
theorem tl_repl4 (z : Str) : tl (repl4 z) = (tl z).flatMap sp4 := by
  unfold repl4
  rw [tl_repl (by decide +kernel), tl_repl (by decide +kernel), tl_repl (by decide +kernel), tl_repl (by decide +kernel)]
  rw [show tl "(" = [40] from by decide +kernel, show tl "( " = [40, 32] from by decide +kernel, show tl "[" = [91] from by decide +kernel, show tl "[ " = [91, 32] from by decide +kernel, show tl ")" = [41] from by decide +kernel, show tl " )" = [32, 41] from by decide +kernel, show tl "]" = [93] from by decide +kernel, show tl " ]" = [32, 93] from by decide +kernel]
  rw [repl_one, repl_one, repl_one, repl_one]
  induction tl z with
  | nil => rfl
  | cons x l ih => rw [List.flatMap_cons, List.flatMap_append, List.flatMap_append, List.flatMap_append, ih, four_one, List.flatMap_cons]
/-- no bracket -/
def NoBr (l : List Nat) : Prop := ∀ c ∈ l, c ≠ 40 ∧ c ≠ 91 ∧ c ≠ 41 ∧ c ≠ 93
theorem sp4_id {l : List Nat} (h : NoBr l) : l.flatMap sp4 = l := by
  induction l with
  | nil => rfl
  | cons x l ih =>
    have hx := h x List.mem_cons_self
    rw [List.flatMap_cons, ih fun c hc => h c (List.mem_cons_of_mem _ hc), sp4, if_neg hx.1, if_neg hx.2.1, if_neg hx.2.2.1, if_neg hx.2.2.2]
    rfl
theorem join_map (f : Nat → List Nat) (y : List Nat) : ∀ ls : List (List Nat), (joinL y ls).flatMap f = joinL (y.flatMap f) (ls.map (·.flatMap f))
  | [] => rfl
  | [p] => rfl
  | p :: q :: r => by
    show (p ++ (y ++ joinL y (q :: r))).flatMap f = p.flatMap f ++ (y.flatMap f ++ joinL (y.flatMap f) ((q :: r).map (·.flatMap f)))
    rw [List.flatMap_append, List.flatMap_append, join_map f y (q :: r)]
theorem join_app (s : List Nat) : ∀ {a b : List (List Nat)}, a ≠ [] → b ≠ [] → joinL s (a ++ b) = joinL s a ++ (s ++ joinL s b)
  | [], _, h, _ => absurd rfl h
  | [p], [], _, h => absurd rfl h
  | [p], q :: r, _, _ => rfl
  | p :: q :: r, b, _, hb => by
    show p ++ (s ++ joinL s ((q :: r) ++ b)) = p ++ (s ++ joinL s (q :: r)) ++ (s ++ joinL s b)
    rw [join_app s (by simp) hb]
    simp only [List.append_assoc]
/-! ### the words -/
def openT (k : Str) : Str := if choiceKinds.contains k = true then "[" else "("
def closeT (k : Str) : Str := if choiceKinds.contains k = true then "]" else ")"
def signT (k : Str) : Str := if k = "all" then "&" else if k = "mine" then "+" else if k = "some" then "|" else "*"
def inter (s : Str) : List (List Str) → List Str
  | [] => []
  | [x] => x
  | x :: y :: r => x ++ s :: inter s (y :: r)
mutual
def toks : Pl → List Str
  | .leaf k t => [plainT k t]
  | .node k ps => openT k :: (inter (signT k) (toksAll ps) ++ [closeT k])
def toksAll : List Pl → List (List Str)
  | [] => []
  | p :: ps => toks p :: toksAll ps
end
theorem toksAll_map : ∀ ps : List Pl, toksAll ps = ps.map toks
  | [] => by rw [toksAll]; rfl
  | p :: ps => by rw [toksAll, toksAll_map ps]; rfl
theorem textAll_map : ∀ ps : List Pl, textAll ps = ps.map textOf
  | [] => by rw [textAll]; rfl
  | p :: ps => by rw [textAll, textAll_map ps]; rfl
theorem toks_ne : ∀ p : Pl, toks p ≠ []
  | .leaf k t => by rw [toks]; simp
  | .node k ps => by rw [toks]; simp
theorem inter_ne {s : Str} : ∀ {ls : List (List Str)}, ls ≠ [] → (∀ l ∈ ls, l ≠ []) → inter s ls ≠ []
  | [], h, _ => absurd rfl h
  | [x], _, h => by rw [inter]; exact h x List.mem_cons_self
  | x :: y :: r, _, _ => by rw [inter]; simp
theorem join_inter (s : Str) (sp : List Nat) : ∀ {ls : List (List Str)}, (∀ l ∈ ls, l ≠ []) → joinL sp ((inter s ls).map tl) = joinL (sp ++ (tl s ++ sp)) (ls.map fun l => joinL sp (l.map tl))
  | [], _ => rfl
  | [x], _ => rfl
  | x :: y :: r, h => by
    have hx := h x List.mem_cons_self
    have hr : ∀ l ∈ y :: r, l ≠ [] := fun l hl => h l (List.mem_cons_of_mem _ hl)
    have ni := inter_ne (s := s) (ls := y :: r) (by simp) hr
    rw [inter, List.map_append, List.map_cons, show x.map tl ++ tl s :: (inter s (y :: r)).map tl = x.map tl ++ ([tl s] ++ (inter s (y :: r)).map tl) from rfl,
      join_app sp (by simpa using hx) (by simp), join_app sp (by simp) (by simpa using ni), join_inter s sp hr]
    show joinL sp (x.map tl) ++ (sp ++ (tl s ++ (sp ++ joinL (sp ++ (tl s ++ sp)) ((y :: r).map fun l => joinL sp (l.map tl))))) = joinL sp (x.map tl) ++ ((sp ++ (tl s ++ sp)) ++ joinL (sp ++ (tl s ++ sp)) ((y :: r).map fun l => joinL sp (l.map tl)))
    simp only [List.append_assoc]
theorem sign_tl {k : Str} (h : nodeKinds.contains k = true) : tl (signOf k) = [32] ++ (tl (signT k) ++ [32]) ∧ NoBr (tl (signT k)) ∧ (32 : Nat) ∉ tl (signT k) := by
  rcases node_cases h with rfl | rfl | rfl | rfl <;> exact ⟨by decide +kernel, by unfold NoBr; decide +kernel, by decide +kernel⟩
/-- signs of a plain word: '!' and small letters -/
def WordOk (w : Str) : Prop := ∀ c ∈ tl w, c = 33 ∨ low c = true
theorem low_bounds {c : Nat} (h : low c = true) : 97 ≤ c ∧ c ≤ 122 := of_decide_eq_true h
theorem WordOk.nobr {w : Str} (h : WordOk w) : NoBr (tl w) := fun c hc => by
  rcases h c hc with rfl | q
  · decide
  · have := low_bounds q
    omega
theorem WordOk.nosp {w : Str} (h : WordOk w) : (32 : Nat) ∉ tl w := fun hc => by
  rcases h _ hc with q | q
  · cases q
  · have := low_bounds q
    omega
theorem bang_tl (z : Str) : tl ("!" ++ z) = 33 :: tl z := by
  rw [tl_append, show tl "!" = [33] from by decide +kernel]
  rfl
theorem starts_bang (z : Str) : Txt.startswith z "!" = (match tl z with | [] => false | c :: _ => c == 33) := by
  unfold Txt.startswith
  rw [PySem.StrLaws.subAt_eq, show ("!" : Str).cps.toList = [33] from by decide +kernel, show ("!" : Str).length = 1 from by decide +kernel]
  have hl : z.length = (tl z).length := by simp [Str.length]
  rw [hl]
  cases h : tl z with
  | nil => simp
  | cons c r => simp [h]
theorem cut_bang (z : Str) : cutS ("!" ++ z) (some 1) none = z := by
  unfold cutS
  have e : (("!" : Str) ++ z).cps.toList = 33 :: z.cps.toList := bang_tl z
  have l : (("!" : Str) ++ z).length = z.length + 1 := by
    show ("!" ++ z).cps.size = _
    rw [← Array.length_toList, e]
    simp [Str.length]
  rw [HT.sIx_none, show HT.sIx ("!" ++ z).length 0 (some 1) = min 1 ("!" ++ z).length from HT.sIx_nat _ _ 1, l, e, show min 1 (z.length + 1) = 1 by omega, show z.length + 1 - 1 = z.length by omega, List.drop_succ_cons, List.drop_zero, List.take_of_length_le (by simp [Str.length])]
theorem fact_low {z : Str} (h : factS z = true) : tl z ≠ [] ∧ (∀ c ∈ tl z, low c = true) ∧ z ≠ "yes" ∧ z ≠ "no" := by
  unfold factS at h
  simp only [Bool.and_eq_true, Bool.not_eq_true', decide_eq_true_eq, decide_eq_false_iff_not, List.all_eq_true] at h
  obtain ⟨⟨⟨⟨h1, h2⟩, h3⟩, h4⟩, h5⟩ := h
  refine ⟨fun e => ?_, h5, h3, h4⟩
  have : z.length = (tl z).length := by simp [Str.length]
  rw [e] at this
  simp at this
  omega
theorem sure_not {z : Str} (h1 : z ≠ "yes") (h2 : z ≠ "no") : sureKinds.contains z = false := by
  unfold sureKinds
  simp [h1, h2]
theorem low_33 {c : Nat} (h : low c = true) : (c == 33) = false := by
  have := low_bounds h
  simp
  omega
theorem fact_two {k : Str} (h : factKinds.contains k = true) : k = "fact" ∨ k = "not" := by
  unfold factKinds at h
  simpa using h
theorem sure_two {k : Str} (h : sureKinds.contains k = true) : k = "yes" ∨ k = "no" := by
  unfold sureKinds at h
  simpa using h
theorem plain_fact (z : Str) : plainT "fact" (.str z) = z := by
  show (if ("fact" : Str) = "fact" then z else "!" ++ z) = z
  exact if_pos rfl
theorem plain_not (z : Str) : plainT "not" (.str z) = "!" ++ z := by
  show (if ("not" : Str) = "fact" then z else "!" ++ z) = "!" ++ z
  exact if_neg (by decide +kernel)
theorem word_leaf {k : Str} {t : V} (h : nodeAB k t = true) (hk : nodeKinds.contains k = false) : WordOk (plainT k t) ∧ plainN (plainT k t) = (k, t) := by
  unfold nodeAB at h
  rw [hk] at h
  cases hf : factKinds.contains k with
  | true =>
    rw [hf, if_pos rfl] at h
    match t, h with
    | .str z, h =>
      obtain ⟨hne, hlow, hy, hn⟩ := fact_low (show factS z = true from h)
      rcases fact_two hf with rfl | rfl
      · have ep := plain_fact z
        rw [ep]
        refine ⟨fun c hc => .inr (hlow c hc), ?_⟩
        have sb : Txt.startswith z "!" = false := by
          rw [starts_bang]
          cases e : tl z with
          | nil => rfl
          | cons c r => exact low_33 (hlow c (by rw [e]; exact List.mem_cons_self))
        unfold plainN
        rw [if_neg (by rw [sure_not hy hn]; decide), if_neg (by rw [sb]; decide)]
      · have ep := plain_not z
        rw [ep]
        refine ⟨fun c hc => ?_, ?_⟩
        · rw [bang_tl] at hc
          rcases List.mem_cons.mp hc with e | e
          · exact .inl e
          · exact .inr (hlow c e)
        have sb : Txt.startswith ("!" ++ z) "!" = true := by rw [starts_bang, bang_tl]; rfl
        have ny : ("!" ++ z : Str) ≠ "yes" := fun e => by
          have := congrArg tl e
          rw [bang_tl, show tl "yes" = [121, 101, 115] from by decide +kernel] at this
          cases this
        have nn : ("!" ++ z : Str) ≠ "no" := fun e => by
          have := congrArg tl e
          rw [bang_tl, show tl "no" = [110, 111] from by decide +kernel] at this
          cases this
        unfold plainN
        rw [if_neg (by rw [sure_not ny nn]; decide), if_pos sb, cut_bang]
  | false =>
    rw [hf, if_neg (by decide)] at h
    cases hs : sureKinds.contains k with
    | false =>
      rw [hs, if_neg (by decide)] at h
      cases h
    | true =>
      rw [hs, if_pos rfl] at h
      have et : t = .int 0 := by
        match t, h with
        | .int i, h => rw [show i = 0 from by simpa [zeroV] using h]
      subst et
      rcases sure_two hs with rfl | rfl <;> exact ⟨by unfold WordOk; decide +kernel, by decide +kernel⟩
/-! ### the tree's text, taken apart -/
/-- all that is needed of a tree -/
def Tr (p : Pl) : Prop := plOk p = true ∧ GoodN (nodesOf p)
theorem Tr.leaf {k : Str} {t : V} (h : Tr (.leaf k t)) : nodeAB k t = true ∧ nodeKinds.contains k = false := by
  obtain ⟨h1, h2⟩ := h
  rw [plOk] at h1
  exact ⟨h2 (k, t) (by rw [nodesOf]; exact List.mem_cons_self), by simpa using h1⟩
theorem plsOk_mem : ∀ {ps : List Pl}, plsOk ps = true → ∀ p ∈ ps, plOk p = true
  | p :: ps, h, q, hq => by
    rw [plsOk, Bool.and_eq_true] at h
    rcases List.mem_cons.mp hq with rfl | hq
    · exact h.1
    · exact plsOk_mem h.2 q hq
theorem nodesAll_mem : ∀ {ps : List Pl} {p : Pl}, p ∈ ps → ∀ n ∈ nodesOf p, n ∈ nodesAll ps
  | q :: ps, p, h, n, hn => by
    rw [nodesAll]
    rcases List.mem_cons.mp h with rfl | h
    · exact List.mem_append_left _ hn
    · exact List.mem_append_right _ (nodesAll_mem h n hn)
theorem Tr.node {k : Str} {ps : List Pl} (h : Tr (.node k ps)) : nodeKinds.contains k = true ∧ 2 ≤ ps.length ∧ ps.length ≤ 4 ∧ ∀ p ∈ ps, Tr p := by
  obtain ⟨h1, h2⟩ := h
  rw [plOk, Bool.and_eq_true] at h1
  obtain ⟨i, e, i1, i2⟩ := good_int (h2 (k, .int (ps.length : Int)) (by rw [nodesOf]; exact List.mem_cons_self)) h1.1
  cases e
  exact ⟨h1.1, by omega, by omega, fun p hp => ⟨plsOk_mem h1.2 p hp, fun n hn => h2 n (by rw [nodesOf]; exact List.mem_cons_of_mem _ (nodesAll_mem hp n hn))⟩⟩
theorem size_mem : ∀ {ps : List Pl} {p : Pl}, p ∈ ps → sizeOf p < sizeOf ps := fun {ps p} h => List.sizeOf_lt_of_mem h
theorem spaced : ∀ p : Pl, Tr p → (tl (textOf p)).flatMap sp4 = joinL [32] ((toks p).map tl)
  | .leaf k t, h => by
    obtain ⟨h1, h2⟩ := h.leaf
    rw [textOf, toks]
    exact sp4_id (word_leaf h1 h2).1.nobr
  | .node k ps, h => by
    obtain ⟨hk, h2, h4, hp⟩ := h.node
    have ih : ∀ p ∈ ps, (tl (textOf p)).flatMap sp4 = joinL [32] ((toks p).map tl) := fun p hm => spaced p (hp p hm)
    obtain ⟨e1, nb, ns⟩ := sign_tl hk
    have nbs : NoBr (tl (signOf k)) := by
      rw [e1]
      intro c hc
      rcases List.mem_append.mp hc with hc | hc
      · rw [List.mem_singleton.mp hc]; decide
      · rcases List.mem_append.mp hc with hc | hc
        · exact nb c hc
        · rw [List.mem_singleton.mp hc]; decide
    have mid : (tl (Txt.join (signOf k) (textAll ps))).flatMap sp4 = joinL [32] ((inter (signT k) (toksAll ps)).map tl) := by
      rw [join_eq, tl_join, join_map, sp4_id nbs, e1, join_inter (signT k) [32] (by
        rw [toksAll_map]
        intro l hl
        obtain ⟨p, _, rfl⟩ := List.mem_map.mp hl
        exact toks_ne p), textAll_map, toksAll_map, List.map_map, List.map_map, List.map_map]
      exact congrArg _ (List.map_congr_left fun p hm => ih p hm)
    have ine : inter (signT k) (toksAll ps) ≠ [] := inter_ne (by
        rw [toksAll_map]
        intro e
        rw [List.map_eq_nil_iff.mp e] at h2
        simp at h2) (by
        rw [toksAll_map]
        intro l hl
        obtain ⟨p, _, rfl⟩ := List.mem_map.mp hl
        exact toks_ne p)
    rw [toks, List.map_cons, List.map_append]
    have ej : joinL [32] (tl (openT k) :: ((inter (signT k) (toksAll ps)).map tl ++ [closeT k].map tl)) = tl (openT k) ++ ([32] ++ (joinL [32] ((inter (signT k) (toksAll ps)).map tl) ++ ([32] ++ tl (closeT k)))) := by
      rw [show tl (openT k) :: ((inter (signT k) (toksAll ps)).map tl ++ [closeT k].map tl) = [tl (openT k)] ++ ((inter (signT k) (toksAll ps)).map tl ++ [closeT k].map tl) from rfl, join_app [32] (by simp) (by simp), join_app [32] (by simpa using ine) (by simp)]
      rfl
    rw [ej, ← mid, textOf]
    unfold brack openT closeT
    split
    · rw [tl_append, tl_append, List.flatMap_append, List.flatMap_append, show (tl "[").flatMap sp4 = [91, 32] from by decide +kernel, show (tl "]").flatMap sp4 = [32, 93] from by decide +kernel, show tl "[" = [91] from by decide +kernel, show tl "]" = [93] from by decide +kernel, List.append_assoc]
      rfl
    · rw [tl_append, tl_append, List.flatMap_append, List.flatMap_append, show (tl "(").flatMap sp4 = [40, 32] from by decide +kernel, show (tl ")").flatMap sp4 = [32, 41] from by decide +kernel, show tl "(" = [40] from by decide +kernel, show tl ")" = [41] from by decide +kernel, List.append_assoc]
      rfl
termination_by p => sizeOf p
decreasing_by
  have := size_mem hm
  simp
  omega
theorem inter_all {P : Str → Prop} {s : Str} (hs : P s) : ∀ {ls : List (List Str)}, (∀ l ∈ ls, ∀ x ∈ l, P x) → ∀ x ∈ inter s ls, P x
  | [], _, x, hx => by rw [inter] at hx; cases hx
  | [a], h, x, hx => by rw [inter] at hx; exact h a List.mem_cons_self x hx
  | a :: b :: r, h, x, hx => by
    rw [inter] at hx
    rcases List.mem_append.mp hx with hx | hx
    · exact h a List.mem_cons_self x hx
    · rcases List.mem_cons.mp hx with rfl | hx
      · exact hs
      · exact inter_all hs (fun l hl => h l (List.mem_cons_of_mem _ hl)) x hx
theorem toks_nosp : ∀ p : Pl, Tr p → ∀ w ∈ toks p, (32 : Nat) ∉ tl w
  | .leaf k t, h, w, hw => by
    obtain ⟨h1, h2⟩ := h.leaf
    rw [toks] at hw
    rw [List.mem_singleton.mp hw]
    exact (word_leaf h1 h2).1.nosp
  | .node k ps, h, w, hw => by
    obtain ⟨hk, h2, h4, hp⟩ := h.node
    have ih : ∀ p ∈ ps, ∀ w ∈ toks p, (32 : Nat) ∉ tl w := fun p hm => toks_nosp p (hp p hm)
    rw [toks] at hw
    rcases List.mem_cons.mp hw with rfl | hw
    · unfold openT; split <;> decide +kernel
    · rcases List.mem_append.mp hw with hw | hw
      · refine inter_all (P := fun w => (32 : Nat) ∉ tl w) (sign_tl hk).2.2 ?_ w hw
        rw [toksAll_map]
        intro l hl x hx
        obtain ⟨p, hm, rfl⟩ := List.mem_map.mp hl
        exact ih p hm x hx
      · rw [List.mem_singleton.mp hw]
        unfold closeT; split <;> decide +kernel
termination_by p => sizeOf p
decreasing_by
  have := size_mem hm
  simp
  omega
theorem tl_inj {a b : Str} (h : tl a = tl b) : a = b := by
  have := map_tl_inj (l := [a]) (m := [b]) (by rw [List.map_cons, List.map_cons, h])
  cases this
  rfl
theorem split_toks {p : Pl} (h : Tr p) : split4 (textOf p) = toks p := by
  have e : repl4 (textOf p) = Txt.join " " (toks p) := tl_inj (by rw [tl_repl4, spaced p h, join_eq, tl_join]; rfl)
  unfold split4
  rw [e]
  exact split_join (S := []) (by decide +kernel) (by decide +kernel) (toks_ne p) (toks_nosp p h)
end Eh

set_option Elab.async false
set_option linter.all false
set_option maxRecDepth 100000
set_option maxHeartbeats 4000000
/-! .. and its nodes put together again -/
namespace Eh
open PySem PySem.Spec PyProof.Rows L2
open TL
theorem has_mem {ws : List Str} {w : Str} (h : ws.contains w = true) : w ∈ ws := List.contains_iff_mem.mp h
theorem word_not {w : Str} (h : WordOk w) : parens.contains w = false ∧ signs4.contains w = false ∧ closes.contains w = false := by
  have bad : ∀ (z : Str) (c : Nat), tl z = [c] → ¬ (c = 33 ∨ low c = true) → w ≠ z := fun z c e n q => n (h c (by rw [q, e]; exact List.mem_singleton_self c))
  have b1 := bad "(" 40 (by decide +kernel) (by decide)
  have b2 := bad "[" 91 (by decide +kernel) (by decide)
  have b3 := bad ")" 41 (by decide +kernel) (by decide)
  have b4 := bad "]" 93 (by decide +kernel) (by decide)
  have b5 := bad "&" 38 (by decide +kernel) (by decide)
  have b6 := bad "+" 43 (by decide +kernel) (by decide)
  have b7 := bad "|" 124 (by decide +kernel) (by decide)
  have b8 := bad "*" 42 (by decide +kernel) (by decide)
  unfold parens signs4 closes
  simp [b1, b2, b3, b4, b5, b6, b7, b8]
theorem step_word {w : Str} (h : WordOk w) (s : St3) : step3 s w = ⟨s.ks ++ [(plainN w).1], s.cs ++ [(plainN w).2], s.ar⟩ := by
  obtain ⟨h1, h2, h3⟩ := word_not h
  unfold step3
  rw [if_neg (by rw [h1]; decide), if_neg (by rw [h2]; simp), if_neg (by rw [h3]; simp)]
theorem step_open (k : Str) (s : St3) : step3 s (openT k) = ⟨s.ks ++ [("" : Str)], s.cs ++ [.int 1], s.ar ++ [s.ks.length]⟩ := by
  have h : parens.contains (openT k) = true := by
    unfold openT
    split <;> decide +kernel
  unfold step3
  rw [if_pos h]
theorem step_close (k : Str) (ks : List Str) (cs : List V) (ar : List Nat) (n : Nat) : step3 ⟨ks, cs, ar ++ [n]⟩ (closeT k) = ⟨ks, cs, ar⟩ := by
  have h1 : parens.contains (closeT k) = false := by
    unfold closeT
    split <;> decide +kernel
  have h2 : signs4.contains (closeT k) = false := by
    unfold closeT
    split <;> decide +kernel
  have h3 : closes.contains (closeT k) = true := by
    unfold closeT
    split <;> decide +kernel
  unfold step3
  rw [if_neg (by rw [h1]; decide), if_neg (by rw [h2]; simp), if_pos ⟨h3, by simp⟩, List.dropLast_concat]
theorem step_sign {k x : Str} (hk : nodeKinds.contains k = true) (K0 K : List Str) (C0 C : List V) (A : List Nat) (j : Int) (hl : C0.length = K0.length) :
    step3 ⟨K0 ++ x :: K, C0 ++ .int j :: C, A ++ [K0.length]⟩ (signT k) = ⟨K0 ++ k :: K, C0 ++ .int (j + 1) :: C, A ++ [K0.length]⟩ := by
  have h : parens.contains (signT k) = false ∧ signs4.contains (signT k) = true ∧ kindOfSign (signT k) = k := by
    rcases node_cases hk with rfl | rfl | rfl | rfl <;> exact ⟨by decide +kernel, by decide +kernel, by decide +kernel⟩
  have e : (A ++ [K0.length]).getLast?.getD 0 = K0.length := by simp
  unfold step3
  rw [if_neg (by rw [h.1]; decide), if_pos ⟨h.2.1, by simp⟩, e, h.2.2]
  have e1 : (K0 ++ x :: K).set K0.length k = K0 ++ k :: K := by
    rw [List.set_append_right _ _ (Nat.le_refl _), Nat.sub_self]
    rfl
  have e2 : bump (C0 ++ .int j :: C) K0.length = C0 ++ .int (j + 1) :: C := by
    unfold bump
    rw [← hl, List.getElem?_append_right (Nat.le_refl _), Nat.sub_self]
    show (C0 ++ .int j :: C).set C0.length (incV (.int j)) = _
    rw [List.set_append_right _ _ (Nat.le_refl _), Nat.sub_self]
    rfl
  rw [e1, e2]
def nk (p : Pl) : List Str := (nodesOf p).map (·.1)
def nc (p : Pl) : List V := (nodesOf p).map (·.2)
theorem nk_len (p : Pl) : (nk p).length = (nc p).length := by unfold nk nc; rw [List.length_map, List.length_map]
theorem run_parts {k : Str} (hk : nodeKinds.contains k = true) : ∀ (ps : List Pl), ps ≠ [] → (∀ p ∈ ps, ∀ s : St3, s.cs.length = s.ks.length → (toks p).foldl step3 s = ⟨s.ks ++ nk p, s.cs ++ nc p, s.ar⟩) →
    ∀ (x : Str) (K0 K : List Str) (C0 C : List V) (A : List Nat) (j : Int), C0.length = K0.length → C.length = K.length →
      (inter (signT k) (ps.map toks)).foldl step3 ⟨K0 ++ x :: K, C0 ++ .int j :: C, A ++ [K0.length]⟩ =
        ⟨K0 ++ (if ps.length = 1 then x else k) :: (K ++ (nodesAll ps).map (·.1)), C0 ++ .int (j + (ps.length - 1 : Nat)) :: (C ++ (nodesAll ps).map (·.2)), A ++ [K0.length]⟩
  | [], h, _, _, _, _, _, _, _, _, _, _ => absurd rfl h
  | [p], _, ih, x, K0, K, C0, C, A, j, h1, h2 => by
    show (toks p).foldl step3 _ = _
    rw [ih p List.mem_cons_self _ (by simp [h1, h2]), nodesAll, nodesAll, List.append_nil]
    show (⟨(K0 ++ x :: K) ++ nk p, (C0 ++ .int j :: C) ++ nc p, A ++ [K0.length]⟩ : St3) = ⟨K0 ++ x :: (K ++ nk p), C0 ++ .int (j + 0) :: (C ++ nc p), A ++ [K0.length]⟩
    rw [Int.add_zero]
    simp only [List.append_assoc, List.cons_append]
  | p :: q :: r, _, ih, x, K0, K, C0, C, A, j, h1, h2 => by
    show ((toks p) ++ signT k :: inter (signT k) ((q :: r).map toks)).foldl step3 _ = _
    rw [List.foldl_append, ih p List.mem_cons_self _ (by simp [h1, h2]), List.foldl_cons]
    show (inter (signT k) ((q :: r).map toks)).foldl step3 (step3 ⟨(K0 ++ x :: K) ++ nk p, (C0 ++ .int j :: C) ++ nc p, A ++ [K0.length]⟩ (signT k)) = _
    have r1 : (K0 ++ x :: K) ++ nk p = K0 ++ x :: (K ++ nk p) := by simp only [List.append_assoc, List.cons_append]
    have r2 : (C0 ++ V.int j :: C) ++ nc p = C0 ++ .int j :: (C ++ nc p) := by simp only [List.append_assoc, List.cons_append]
    rw [r1, r2, step_sign hk K0 (K ++ nk p) C0 (C ++ nc p) A j h1, run_parts hk (q :: r) (by simp) (fun p' hp' => ih p' (List.mem_cons_of_mem _ hp')) k K0 (K ++ nk p) C0 (C ++ nc p) A (j + 1) h1 (by simp [h2, nk_len p])]
    have e1 : (if (p :: q :: r).length = 1 then x else k) = k := if_neg (by simp)
    have e2 : (if (q :: r).length = 1 then k else k) = k := by split <;> rfl
    have e3 : j + 1 + ((q :: r).length - 1 : Nat) = j + ((p :: q :: r).length - 1 : Nat) := by simp; omega
    rw [e1, e2, e3, show nodesAll (p :: q :: r) = nodesOf p ++ nodesAll (q :: r) from by rw [nodesAll], List.map_append, List.map_append]
    simp only [List.append_assoc]
    rfl
theorem run_toks : ∀ p : Pl, Tr p → ∀ s : St3, s.cs.length = s.ks.length → (toks p).foldl step3 s = ⟨s.ks ++ nk p, s.cs ++ nc p, s.ar⟩
  | .leaf k t, h, s, _ => by
    obtain ⟨h1, h2⟩ := h.leaf
    obtain ⟨w1, w2⟩ := word_leaf h1 h2
    rw [toks]
    show step3 s (plainT k t) = _
    rw [step_word w1, w2]
    unfold nk nc
    rw [nodesOf]
    rfl
  | .node k ps, h, s, hs => by
    obtain ⟨hk, h2, h4, hp⟩ := h.node
    have ih : ∀ p ∈ ps, ∀ s : St3, s.cs.length = s.ks.length → (toks p).foldl step3 s = ⟨s.ks ++ nk p, s.cs ++ nc p, s.ar⟩ := fun p hm => run_toks p (hp p hm)
    rw [toks, List.foldl_cons, step_open, List.foldl_append, toksAll_map]
    have e := run_parts hk ps (fun e => by rw [e] at h2; simp at h2) ih "" s.ks [] s.cs [] s.ar 1 hs rfl
    rw [e]
    show step3 _ (closeT k) = _
    rw [step_close]
    have e1 : (if ps.length = 1 then ("" : Str) else k) = k := if_neg (by omega)
    have e2 : (1 : Int) + (ps.length - 1 : Nat) = (ps.length : Int) := by omega
    rw [e1, e2]
    unfold nk nc
    rw [nodesOf]
    rfl
termination_by p => sizeOf p
decreasing_by
  have := size_mem hm
  simp
  omega
theorem zip_self : ∀ l : List (Str × V), (l.map (·.1)).zip (l.map (·.2)) = l
  | [] => rfl
  | (a, b) :: l => by
    show (a, b) :: ((l.map (·.1)).zip (l.map (·.2))) = _
    rw [zip_self l]
/-- THE READ-BACK -/
theorem read_back {p : Pl} (h : Tr p) : nodesIn (textOf p) = nodesOf p := by
  unfold nodesIn run3
  rw [split_toks h, run_toks p h ⟨[], [], []⟩ rfl]
  exact zip_self _
end Eh

set_option Elab.async false
set_option linter.all false
set_option maxRecDepth 100000
set_option maxHeartbeats 2000000
/-! The law's own reading of a string, on lists of signs: what it gives is a plain promise with just this text, and each text is read. -/
namespace Eh
open PySem PySem.Spec PyProof.Rows L2
open TL
def opn (c : Nat) : Bool := c == 40 || c == 91
def cls2 (c : Nat) : Bool := c == 41 || c == 93
def addC (cur : List Nat) (sk c : Nat) : List Nat := if sk = 0 then cur ++ [c] else cur
/-- the pieces between signs that stand within no brackets -/
def scanL (sg : Nat) : List Nat → Int → Nat → List Nat → List (List Nat)
  | cur, _, _, [] => [cur]
  | cur, d, sk, c :: r =>
    if opn c = true then scanL sg (addC cur sk c) (d + 1) (sk - 1) r
    else if cls2 c = true then scanL sg (addC cur sk c) (d - 1) (sk - 1) r
    else if d = 0 ∧ sk = 0 ∧ (c :: r).take 3 = [32, sg, 32] then cur :: scanL sg [] d 2 r
    else scanL sg (addC cur sk c) d (sk - 1) r
def piecesL (sg : Nat) (xs : List Nat) : List (List Nat) := scanL sg [] 0 0 xs
theorem scan_ne (sg : Nat) : ∀ (r cur : List Nat) (d : Int) (sk : Nat), scanL sg cur d sk r ≠ []
  | [], cur, d, sk => by rw [scanL]; simp
  | c :: r, cur, d, sk => by
    rw [scanL]
    split
    · exact scan_ne sg r _ _ _
    · split
      · exact scan_ne sg r _ _ _
      · split
        · simp
        · exact scan_ne sg r _ _ _
theorem joinL_cons {s x : List Nat} {l : List (List Nat)} (h : l ≠ []) : joinL s (x :: l) = x ++ (s ++ joinL s l) := by
  cases l with
  | nil => exact absurd rfl h
  | cons y r => rfl
theorem add_drop (cur r : List Nat) (sk c : Nat) : addC cur sk c ++ r.drop (sk - 1) = cur ++ (c :: r).drop sk := by
  unfold addC
  cases sk with
  | zero => simp
  | succ k => simp
theorem scan_join (sg : Nat) : ∀ (r cur : List Nat) (d : Int) (sk : Nat), joinL [32, sg, 32] (scanL sg cur d sk r) = cur ++ r.drop sk
  | [], cur, d, sk => by
    rw [scanL, List.drop_nil, List.append_nil]
    rfl
  | c :: r, cur, d, sk => by
    rw [scanL]
    split
    · rw [scan_join sg r, add_drop]
    · split
      · rw [scan_join sg r, add_drop]
      · split
        · rename_i h
          obtain ⟨_, h2, h3⟩ := h
          subst h2
          rw [joinL_cons (scan_ne sg r _ _ _), scan_join sg r, List.nil_append, List.drop_zero]
          have e : c :: r = [32, sg, 32] ++ r.drop 2 := by
            have := List.take_append_drop 3 (c :: r)
            rw [h3] at this
            exact this.symm
          rw [e]
        · rw [scan_join sg r, add_drop]
theorem pieces_join (sg : Nat) (xs : List Nat) : joinL [32, sg, 32] (piecesL sg xs) = xs := by
  unfold piecesL
  rw [scan_join, List.nil_append, List.drop_zero]
/-- a text through which the scan goes without a match, at any depth from 0 on -/
def Thru (sg : Nat) (t : List Nat) : Prop := ∀ (cur rest : List Nat) (d : Int), 0 ≤ d → scanL sg cur d 0 (t ++ rest) = scanL sg (cur ++ t) d 0 rest
theorem Thru.nil {sg : Nat} : Thru sg [] := fun cur rest d _ => by rw [List.append_nil]; rfl
theorem Thru.app {sg : Nat} {a b : List Nat} (h : Thru sg a) (k : Thru sg b) : Thru sg (a ++ b) := fun cur rest d hd => by
  rw [List.append_assoc, h _ _ _ hd, k _ _ _ hd, List.append_assoc]
/-- a sign that is no bracket and no blank -/
theorem Thru.one {sg c : Nat} (h1 : opn c = false) (h2 : cls2 c = false) (h3 : c ≠ 32) : Thru sg [c] := fun cur rest d hd => by
  rw [List.singleton_append, scanL, h1, h2, if_neg Bool.false_ne_true, if_neg Bool.false_ne_true, if_neg]
  · rfl
  · rintro ⟨_, _, h⟩
    rw [List.take_succ_cons] at h
    exact h3 (List.cons.inj h).1
/-- at a depth above 0 -/
def Deep (sg : Nat) (t : List Nat) : Prop := ∀ (cur rest : List Nat) (d : Int), 0 < d → scanL sg cur d 0 (t ++ rest) = scanL sg (cur ++ t) d 0 rest
theorem Thru.deep {sg : Nat} {t : List Nat} (h : Thru sg t) : Deep sg t := fun cur rest d hd => h cur rest d (by omega)
theorem Deep.app {sg : Nat} {a b : List Nat} (h : Deep sg a) (k : Deep sg b) : Deep sg (a ++ b) := fun cur rest d hd => by
  rw [List.append_assoc, h _ _ _ hd, k _ _ _ hd, List.append_assoc]
theorem Deep.nil {sg : Nat} : Deep sg [] := fun cur rest d _ => by rw [List.append_nil]; rfl
theorem Deep.one {sg c : Nat} (h1 : opn c = false) (h2 : cls2 c = false) : Deep sg [c] := fun cur rest d hd => by
  rw [List.singleton_append, scanL, h1, h2, if_neg Bool.false_ne_true, if_neg Bool.false_ne_true, if_neg]
  · rfl
  · rintro ⟨h, _⟩
    omega
theorem Thru.brackets {sg a b : Nat} {t : List Nat} (ha : opn a = true) (hb : opn b = false) (hb2 : cls2 b = true) (h : Deep sg t) : Thru sg (a :: (t ++ [b])) := fun cur rest d hd => by
  rw [List.cons_append, scanL, ha, if_pos rfl, List.append_assoc]
  show scanL sg (cur ++ [a]) (d + 1) 0 (t ++ ([b] ++ rest)) = _
  rw [h _ _ _ (by omega), List.singleton_append, scanL, hb, hb2, if_neg Bool.false_ne_true, if_pos rfl, show d + 1 - 1 = d by omega]
  show scanL sg (cur ++ [a] ++ t ++ [b]) d 0 rest = _
  simp only [List.append_assoc, List.cons_append, List.nil_append]
/-- the parts of a text and the signs between them -/
theorem deep_join {sg s : Nat} (h1 : opn s = false) (h2 : cls2 s = false) : ∀ {ls : List (List Nat)}, (∀ l ∈ ls, Thru sg l) → Deep sg (joinL [32, s, 32] ls)
  | [], _ => Deep.nil
  | [x], h => (h x List.mem_cons_self).deep
  | x :: y :: r, h => by
    have ih := deep_join (sg := sg) h1 h2 (ls := y :: r) fun l hl => h l (List.mem_cons_of_mem _ hl)
    show Deep sg (x ++ ([32, s, 32] ++ joinL [32, s, 32] (y :: r)))
    refine ((h x List.mem_cons_self).deep).app (Deep.app ?_ ih)
    exact (Deep.one (by decide) (by decide)).app ((Deep.one h1 h2).app (Deep.one (c := 32) (by decide) (by decide)))
/-- split at the sign -/
theorem scan_split {sg : Nat} (h1 : opn sg = false) (h2 : cls2 sg = false) : ∀ {ls : List (List Nat)}, ls ≠ [] → (∀ l ∈ ls, Thru sg l) → ∀ cur : List Nat, scanL sg cur 0 0 (joinL [32, sg, 32] ls) = (cur ++ ls.head!) :: ls.tail
  | [], h, _, _ => absurd rfl h
  | [x], _, h, cur => by
    have := h x List.mem_cons_self cur [] 0 (by omega)
    rw [List.append_nil] at this
    show scanL sg cur 0 0 x = _
    rw [this, scanL]
    rfl
  | x :: y :: r, _, h, cur => by
    have ih := scan_split h1 h2 (ls := y :: r) (by simp) (fun l hl => h l (List.mem_cons_of_mem _ hl)) []
    show scanL sg cur 0 0 (x ++ ([32, sg, 32] ++ joinL [32, sg, 32] (y :: r))) = (cur ++ x) :: y :: r
    rw [h x List.mem_cons_self cur _ 0 (by omega)]
    show scanL sg (cur ++ x) 0 0 (32 :: sg :: 32 :: joinL [32, sg, 32] (y :: r)) = _
    rw [scanL, if_neg (by decide), if_neg (by decide), if_pos ⟨rfl, rfl, rfl⟩, scanL, if_neg (by rw [h1]; decide), if_neg (by rw [h2]; decide), if_neg (by rintro ⟨_, h, _⟩; cases h), scanL, if_neg (by decide), if_neg (by decide), if_neg (by rintro ⟨_, h, _⟩; cases h)]
    show (cur ++ x) :: scanL sg [] 0 0 (joinL [32, sg, 32] (y :: r)) = _
    rw [ih]
    rfl
theorem joinL_head {S t : List Nat} {c : Nat} {r : List (List Nat)} : ∃ t', joinL S ((c :: t) :: r) = c :: t' := by
  cases r with
  | nil => exact ⟨t, rfl⟩
  | cons z r' => exact ⟨_, rfl⟩
/-- no split at another sign -/
theorem scan_other {sg s : Nat} (h1 : opn s = false) (h2 : cls2 s = false) (h3 : s ≠ 32) (hs : sg ≠ s) : ∀ {ls : List (List Nat)}, (∀ l ∈ ls, Thru sg l ∧ ∀ c r, l = c :: r → c ≠ sg) → (∀ l ∈ ls, l ≠ []) → ∀ cur : List Nat, scanL sg cur 0 0 (joinL [32, s, 32] ls) = [cur ++ joinL [32, s, 32] ls]
  | [], _, _, cur => by
    show scanL sg cur 0 0 [] = [cur ++ []]
    rw [scanL, List.append_nil]
  | [x], h, _, cur => by
    have := (h x List.mem_cons_self).1 cur [] 0 (by omega)
    rw [List.append_nil] at this
    show scanL sg cur 0 0 x = [cur ++ x]
    rw [this, scanL]
  | x :: y :: r, h, hn, cur => by
    have ih := scan_other h1 h2 h3 hs (ls := y :: r) (fun l hl => h l (List.mem_cons_of_mem _ hl)) (fun l hl => hn l (List.mem_cons_of_mem _ hl)) (cur ++ x ++ [32] ++ [s] ++ [32])
    show scanL sg cur 0 0 (x ++ ([32, s, 32] ++ joinL [32, s, 32] (y :: r))) = [cur ++ (x ++ ([32, s, 32] ++ joinL [32, s, 32] (y :: r)))]
    rw [(h x List.mem_cons_self).1 cur _ 0 (by omega)]
    show scanL sg (cur ++ x) 0 0 (32 :: s :: 32 :: joinL [32, s, 32] (y :: r)) = _
    have hy := hn y (List.mem_cons_of_mem _ List.mem_cons_self)
    obtain ⟨c, t, ej⟩ : ∃ c t, joinL [32, s, 32] (y :: r) = c :: t ∧ c ≠ sg := by
      cases y with
      | nil => exact absurd rfl hy
      | cons c t =>
        obtain ⟨t', e⟩ := joinL_head (S := [32, s, 32]) (c := c) (t := t) (r := r)
        exact ⟨c, t', e, (h _ (List.mem_cons_of_mem _ List.mem_cons_self)).2 c t rfl⟩
    rw [scanL, if_neg (by decide), if_neg (by decide), if_neg (by
        rintro ⟨_, _, h⟩
        exact hs (by simpa using h.symm)), scanL, if_neg (by rw [h1]; decide), if_neg (by rw [h2]; decide), if_neg (by
        rintro ⟨_, _, h⟩
        rw [List.take_succ_cons] at h
        exact h3 (List.cons.inj h).1), scanL, if_neg (by decide), if_neg (by decide), if_neg (by
        rintro ⟨_, _, h⟩
        rw [ej.1] at h
        rw [List.take_succ_cons, List.take_succ_cons] at h
        exact ej.2 (List.cons.inj (List.cons.inj h).2).1)]
    show scanL sg (cur ++ x ++ [32] ++ [s] ++ [32]) 0 0 (joinL [32, s, 32] (y :: r)) = _
    rw [ih]
    simp only [List.append_assoc, List.cons_append, List.nil_append]
end Eh

set_option Elab.async false
set_option linter.all false
set_option maxRecDepth 100000
set_option maxHeartbeats 2000000
namespace Eh
open PySem PySem.Spec PyProof.Rows L2
/-! ### a promise turned round -/
def kinds8 : List Str := ["fact", "not", "yes", "no", "all", "some", "mine", "yours"]
theorem kind_in {k : Str} {t : V} (h : nodeAB k t = true) : k ∈ kinds8 := by
  unfold nodeAB at h
  have up : ∀ {l : List Str}, (∀ z ∈ l, z ∈ kinds8) → l.contains k = true → k ∈ kinds8 := fun g c => g _ (by simpa using c)
  split at h
  · rename_i c
    exact up (l := factKinds) (by decide +kernel) c
  · split at h
    · rename_i c
      exact up (l := sureKinds) (by decide +kernel) c
    · rw [Bool.and_eq_true] at h
      exact up (l := nodeKinds) (by decide +kernel) h.1
theorem turn_kind : ∀ k ∈ kinds8, turnK (turnK k) = k ∧ factKinds.contains (turnK k) = factKinds.contains k ∧ sureKinds.contains (turnK k) = sureKinds.contains k ∧ nodeKinds.contains (turnK k) = nodeKinds.contains k ∧ choiceKinds.contains (turnK k) = choiceKinds.contains k ∧ turnK k ∈ kinds8 := by decide +kernel
theorem turn_good {k : Str} {t : V} (h : nodeAB k t = true) : nodeAB (turnK k) t = true := by
  obtain ⟨_, a, b, c, _⟩ := turn_kind k (kind_in h)
  unfold nodeAB at h ⊢
  rw [a, b, c]
  exact h
theorem turnN_good {ns : List (Str × V)} (g : GoodN ns) : GoodN (turnN ns) := fun n hn => by
  unfold turnN at hn
  obtain ⟨m, hm, rfl⟩ := List.mem_map.mp hn
  exact turn_good (g m hm)
theorem turnN_turnN {ns : List (Str × V)} (g : GoodN ns) : turnN (turnN ns) = ns := by
  unfold turnN
  rw [List.map_map]
  conv => rhs; rw [← List.map_id ns]
  refine List.map_congr_left fun n hn => ?_
  show (turnK (turnK n.1), n.2) = n
  rw [(turn_kind n.1 (kind_in (g n hn))).1]
theorem turnN_len (ns : List (Str × V)) : (turnN ns).length = ns.length := by
  unfold turnN
  rw [List.length_map]
theorem turn_facts {ns : List (Str × V)} (g : GoodN ns) : factsN (turnN ns) = factsN ns := by
  induction ns with
  | nil => rfl
  | cons n ns ih =>
    have e := (turn_kind n.1 (kind_in (g n List.mem_cons_self))).2.1
    have h1 : factsN (turnN (n :: ns)) = factsN [(turnK n.1, n.2)] ++ factsN (turnN ns) := factsN_app [(turnK n.1, n.2)] (turnN ns)
    have h2 : factsN (n :: ns) = factsN [n] ++ factsN ns := factsN_app [n] ns
    rw [h1, h2, ih fun m hm => g m (List.mem_cons_of_mem _ hm)]
    congr 1
    unfold factsN
    simp only [List.filterMap_cons, e, List.filterMap_nil]
theorem turn_count {ns : List (Str × V)} (g : GoodN ns) : countIn choiceKinds (turnN ns) = countIn choiceKinds ns := by
  induction ns with
  | nil => rfl
  | cons n ns ih =>
    have e := (turn_kind n.1 (kind_in (g n List.mem_cons_self))).2.2.2.2.1
    have i := ih fun m hm => g m (List.mem_cons_of_mem _ hm)
    unfold countIn turnN at i ⊢
    rw [List.map_cons, List.filter_cons, List.filter_cons, e]
    split
    · rw [List.length_cons, List.length_cons, i]
    · exact i
theorem turn_run : ∀ {ns : List (Str × V)} (st : List Int) (d : Int), GoodN ns → runD st d (turnN ns) = runD st d ns
  | [], _, _, _ => rfl
  | n :: ns, st, d, g => by
    have e := (turn_kind n.1 (kind_in (g n List.mem_cons_self))).2.2.2.1
    have i := fun st' d' => turn_run (ns := ns) st' d' fun m hm => g m (List.mem_cons_of_mem _ hm)
    show runD st d ((turnK n.1, n.2) :: turnN ns) = _
    cases h : popz st with
    | nil => rw [run_none h, run_none h]
    | cons x r =>
      rw [run_step h, run_step h, e]
      split
      · exact i _ _
      · exact i _ _
theorem turn_depth {ns : List (Str × V)} (g : GoodN ns) : depthN (turnN ns) = depthN ns := by
  unfold depthN
  rw [turn_run _ _ g]
theorem turn_ok {ns : List (Str × V)} (g : GoodN ns) : okB (turnN ns) = okB ns := by
  unfold okB boundB
  rw [turnN_len, turn_facts g, turn_count g, turn_depth g]
mutual
def turnPl : Pl → Pl
  | .leaf k t => .leaf (turnK k) t
  | .node k ps => .node (turnK k) (turnAll ps)
def turnAll : List Pl → List Pl
  | [] => []
  | p :: ps => turnPl p :: turnAll ps
end
theorem turnAll_len : ∀ ps : List Pl, (turnAll ps).length = ps.length
  | [] => by rw [turnAll]
  | p :: ps => by rw [turnAll, List.length_cons, List.length_cons, turnAll_len ps]
mutual
theorem turn_nodes : ∀ p : Pl, nodesOf (turnPl p) = turnN (nodesOf p)
  | .leaf k t => by
    rw [turnPl, nodesOf, nodesOf]
    rfl
  | .node k ps => by
    rw [turnPl, nodesOf, nodesOf, turn_nodesAll ps, turnAll_len]
    rfl
theorem turn_nodesAll : ∀ ps : List Pl, nodesAll (turnAll ps) = turnN (nodesAll ps)
  | [] => by rw [turnAll, nodesAll]; rfl
  | p :: ps => by
    rw [turnAll, nodesAll, nodesAll, turn_nodes p, turn_nodesAll ps]
    unfold turnN
    rw [List.map_append]
end
end Eh

set_option Elab.async false
set_option linter.all false
set_option maxRecDepth 100000
set_option maxHeartbeats 2000000
/-! The law's own reading against texts of trees. -/
namespace Eh
open PySem PySem.Spec PyProof.Rows L2
open TL
abbrev tx (p : Pl) : List Nat := tl (textOf p)
def signC (k : Str) : Nat := if k = "all" then 38 else if k = "mine" then 43 else if k = "some" then 124 else 42
def openC (k : Str) : Nat := if choiceKinds.contains k = true then 91 else 40
def closeC (k : Str) : Nat := if choiceKinds.contains k = true then 93 else 41
theorem signC_ok {k : Str} (h : nodeKinds.contains k = true) : tl (signOf k) = [32, signC k, 32] ∧ opn (signC k) = false ∧ cls2 (signC k) = false ∧ signC k ≠ 32 := by
  rcases node_cases (k := k) h with rfl | rfl | rfl | rfl <;> decide +kernel
theorem tx_node {k : Str} {ps : List Pl} (h : nodeKinds.contains k = true) : tx (.node k ps) = openC k :: (joinL [32, signC k, 32] (ps.map tx) ++ [closeC k]) := by
  have e1 := (signC_ok h).1
  have mid : tl (Txt.join (signOf k) (textAll ps)) = joinL [32, signC k, 32] (ps.map tx) := by
    rw [join_eq, tl_join, e1, textAll_map, List.map_map]
    rfl
  show tl (textOf (.node k ps)) = _
  rw [textOf]
  unfold brack openC closeC
  split
  · rw [tl_append, tl_append, mid, show tl "[" = [91] from by decide +kernel, show tl "]" = [93] from by decide +kernel, List.append_assoc]
    rfl
  · rw [tl_append, tl_append, mid, show tl "(" = [40] from by decide +kernel, show tl ")" = [41] from by decide +kernel, List.append_assoc]
    rfl
def wordC (c : Nat) : Prop := c = 33 ∨ low c = true
theorem wordC_not {c : Nat} (h : wordC c) : opn c = false ∧ cls2 c = false ∧ c ≠ 32 ∧ c ≠ 38 ∧ c ≠ 43 ∧ c ≠ 124 ∧ c ≠ 42 := by
  rcases h with rfl | h
  · decide
  · have := low_bounds h
    refine ⟨?_, ?_, ?_, ?_, ?_, ?_, ?_⟩ <;> first | omega | (unfold opn cls2; rw [Bool.or_eq_false_iff]; exact ⟨beq_eq_false_iff_ne.mpr (by omega), beq_eq_false_iff_ne.mpr (by omega)⟩) | (unfold opn; rw [Bool.or_eq_false_iff]; exact ⟨beq_eq_false_iff_ne.mpr (by omega), beq_eq_false_iff_ne.mpr (by omega)⟩) | (unfold cls2; rw [Bool.or_eq_false_iff]; exact ⟨beq_eq_false_iff_ne.mpr (by omega), beq_eq_false_iff_ne.mpr (by omega)⟩)
theorem thru_word {sg : Nat} : ∀ {t : List Nat}, (∀ c ∈ t, wordC c) → Thru sg t
  | [], _ => Thru.nil
  | c :: t, h => by
    have hc := wordC_not (h c List.mem_cons_self)
    have := Thru.app (Thru.one (sg := sg) hc.1 hc.2.1 hc.2.2.1) (thru_word (sg := sg) (t := t) fun d hd => h d (List.mem_cons_of_mem _ hd))
    exact this
theorem open_cls (k : Str) : opn (openC k) = true ∧ opn (closeC k) = false ∧ cls2 (closeC k) = true := by
  unfold openC closeC
  split <;> decide
theorem thru_text {sg : Nat} : ∀ p : Pl, Tr p → Thru sg (tx p)
  | .leaf k t, h => by
    obtain ⟨h1, h2⟩ := h.leaf
    show Thru sg (tl (textOf (.leaf k t)))
    rw [textOf]
    exact thru_word fun c hc => (word_leaf h1 h2).1 c hc
  | .node k ps, h => by
    obtain ⟨hk, h2, h4, hp⟩ := h.node
    have ih : ∀ p ∈ ps, Thru sg (tx p) := fun p hm => thru_text p (hp p hm)
    obtain ⟨_, s1, s2, _⟩ := signC_ok hk
    obtain ⟨o1, o2, o3⟩ := open_cls k
    rw [tx_node hk]
    exact Thru.brackets o1 o2 o3 (deep_join s1 s2 fun l hl => by
      obtain ⟨p, hm, rfl⟩ := List.mem_map.mp hl
      exact ih p hm)
termination_by p => sizeOf p
decreasing_by
  have := size_mem hm
  simp
  omega
theorem leaf_form {k : Str} {t : V} (h : nodeAB k t = true) (hk : nodeKinds.contains k = false) : (∃ z, factS z = true ∧ t = .str z ∧ ((k = "fact" ∧ tl (plainT k t) = tl z) ∨ (k = "not" ∧ tl (plainT k t) = 33 :: tl z))) ∨ (k = "yes" ∧ t = .int 0 ∧ tl (plainT k t) = [121, 101, 115]) ∨ (k = "no" ∧ t = .int 0 ∧ tl (plainT k t) = [110, 111]) := by
  unfold nodeAB at h
  rw [hk] at h
  cases hf : factKinds.contains k with
  | true =>
    rw [hf, if_pos rfl] at h
    match t, h with
    | .str z, h =>
      refine .inl ⟨z, h, rfl, ?_⟩
      rcases fact_two hf with rfl | rfl
      · exact .inl ⟨rfl, by rw [plain_fact]⟩
      · exact .inr ⟨rfl, by rw [plain_not, bang_tl]⟩
  | false =>
    rw [hf, if_neg (by decide)] at h
    cases hs : sureKinds.contains k with
    | false =>
      rw [hs, if_neg (by decide)] at h
      cases h
    | true =>
      rw [hs, if_pos rfl] at h
      have et : t = .int 0 := by
        match t, h with
        | .int i, h => rw [show i = 0 from by simpa [zeroV] using h]
      subst et
      rcases sure_two hs with rfl | rfl
      · exact .inr (.inl ⟨rfl, rfl, by decide +kernel⟩)
      · exact .inr (.inr ⟨rfl, rfl, by decide +kernel⟩)
theorem tx_leaf {k : Str} {t : V} : tx (.leaf k t) = tl (plainT k t) := by
  show tl (textOf (.leaf k t)) = _
  rw [textOf]
theorem tx_leafW {k : Str} {t : V} (h : Tr (.leaf k t)) : (∀ c ∈ tx (.leaf k t), wordC c) ∧ tx (.leaf k t) ≠ [] := by
  obtain ⟨h1, h2⟩ := h.leaf
  rw [tx_leaf]
  refine ⟨fun c hc => (word_leaf h1 h2).1 c hc, ?_⟩
  rcases leaf_form h1 h2 with ⟨z, hz, _, ⟨_, e⟩ | ⟨_, e⟩⟩ | ⟨_, _, e⟩ | ⟨_, _, e⟩
  · rw [e]
    exact (fact_low hz).1
  · rw [e]; simp
  · rw [e]; simp
  · rw [e]; simp
theorem tx_ne {p : Pl} (h : Tr p) : ∃ c r, tx p = c :: r ∧ (opn c = true ∨ wordC c) := by
  cases p with
  | leaf k t =>
    obtain ⟨hw, ne⟩ := tx_leafW h
    cases hx : tx (.leaf k t) with
    | nil => exact absurd hx ne
    | cons c r => exact ⟨c, r, rfl, .inr (hw c (by rw [hx]; exact List.mem_cons_self))⟩
  | node k ps =>
    obtain ⟨hk, _⟩ := h.node
    rw [tx_node hk]
    exact ⟨_, _, rfl, .inl (open_cls k).1⟩
end Eh

set_option Elab.async false
set_option linter.all false
set_option maxRecDepth 100000
set_option maxHeartbeats 2000000
/-! The law's own reading as a function on lists of signs: sound and complete. -/
namespace Eh
open PySem PySem.Spec PyProof.Rows L2
open TL
def sOf (l : List Nat) : Str := ⟨l.toArray⟩
theorem tl_sOf (l : List Nat) : tl (sOf l) = l := rfl
theorem sOf_tl (z : Str) : sOf (tl z) = z := tl_inj (tl_sOf _)
def leafR (s : List Nat) : Option Pl :=
  if s = [121, 101, 115] then some (.leaf "yes" (.int 0)) else if s = [110, 111] then some (.leaf "no" (.int 0))
  else if s.take 1 = [33] then (if factS (sOf (s.drop 1)) = true then some (.leaf "not" (.str (sOf (s.drop 1)))) else none)
  else if factS (sOf s) = true then some (.leaf "fact" (.str (sOf s))) else none
def opnH : List Nat → Bool
  | [] => false
  | c :: _ => opn c
def isParts (s : List Nat) : Bool := opnH s || s.contains 32
def endsB (s : List Nat) : Bool := decide (s.take 1 ++ s.drop (s.length - 1) = [40, 41]) || decide (s.take 1 ++ s.drop (s.length - 1) = [91, 93])
def innerL (s : List Nat) : List Nat := (s.drop 1).take (s.length - 2)
def rowsOf (s : List Nat) : List (Nat × Str) := if s.take 1 = [40] then [(38, "all"), (124, "some")] else [(43, "mine"), (42, "yours")]
def fitB (ps : List (Option Pl)) : Bool := decide (2 ≤ ps.length ∧ ps.length ≤ 4) && ps.all Option.isSome
def tryRows (rd : List Nat → Option Pl) (inner : List Nat) : List (Nat × Str) → Option Pl
  | [] => none
  | (sg, k) :: r => if fitB ((piecesL sg inner).map rd) = true then some (.node k (((piecesL sg inner).map rd).filterMap id)) else tryRows rd inner r
def partsR (rd : List Nat → Option Pl) (s : List Nat) : Option Pl := if endsB s = true then tryRows rd (innerL s) (rowsOf s) else none
def readN : Nat → List Nat → Option Pl
  | 0, s => if isParts s = true then none else leafR s
  | n + 1, s => if isParts s = true then partsR (readN n) s else leafR s
theorem tr_leaf {k : Str} {t : V} (h : nodeAB k t = true) (hk : nodeKinds.contains k = false) : Tr (.leaf k t) := by
  refine ⟨by rw [plOk, hk]; rfl, fun n hn => ?_⟩
  rw [nodesOf] at hn
  rw [List.mem_singleton.mp hn]
  exact h
theorem tr_all : ∀ {ps : List Pl}, (∀ p ∈ ps, Tr p) → plsOk ps = true ∧ GoodN (nodesAll ps)
  | [], _ => ⟨by rw [plsOk], fun n hn => by rw [nodesAll] at hn; cases hn⟩
  | p :: ps, h => by
    obtain ⟨a, b⟩ := tr_all fun q hq => h q (List.mem_cons_of_mem _ hq)
    obtain ⟨c, d⟩ := h p List.mem_cons_self
    refine ⟨by rw [plsOk, c, a]; rfl, fun n hn => ?_⟩
    rw [nodesAll] at hn
    rcases List.mem_append.mp hn with hn | hn
    · exact d n hn
    · exact b n hn
theorem tr_node {k : Str} {ps : List Pl} (hk : nodeKinds.contains k = true) (h2 : 2 ≤ ps.length) (h4 : ps.length ≤ 4) (h : ∀ p ∈ ps, Tr p) : Tr (.node k ps) := by
  obtain ⟨a, b⟩ := tr_all h
  refine ⟨by rw [plOk, hk, a]; rfl, fun n hn => ?_⟩
  rw [nodesOf] at hn
  rcases List.mem_cons.mp hn with rfl | hn
  · have e1 : fewV (.int (ps.length : Int)) = true := by
      show (decide ((2 : Int) ≤ ps.length) && decide ((ps.length : Int) ≤ 4)) = true
      rw [Bool.and_eq_true, decide_eq_true_eq, decide_eq_true_eq]
      omega
    show nodeAB k (.int (ps.length : Int)) = true
    unfold nodeAB
    rcases node_cases (k := k) hk with rfl | rfl | rfl | rfl <;> (rw [if_neg (by decide +kernel), if_neg (by decide +kernel), hk, e1]; rfl)
  · exact b n hn
theorem leaf_sound {s : List Nat} {p : Pl} (h : leafR s = some p) : tx p = s ∧ Tr p := by
  unfold leafR at h
  split at h
  · cases h
    rename_i e
    exact ⟨by rw [e]; decide +kernel, tr_leaf (by decide +kernel) (by decide +kernel)⟩
  · split at h
    · cases h
      rename_i e
      exact ⟨by rw [e]; decide +kernel, tr_leaf (by decide +kernel) (by decide +kernel)⟩
    · split at h
      · split at h
        · cases h
          rename_i e1 e2
          refine ⟨?_, tr_leaf (by show factV (.str (sOf (s.drop 1))) = true; exact e2) (by decide +kernel)⟩
          rw [tx_leaf, plain_not, bang_tl, tl_sOf]
          have := List.take_append_drop 1 s
          rw [e1] at this
          exact this
        · cases h
      · split at h
        · cases h
          rename_i e2
          refine ⟨?_, tr_leaf (by show factV (.str (sOf s)) = true; exact e2) (by decide +kernel)⟩
          rw [tx_leaf, plain_fact, tl_sOf]
        · cases h
theorem leaf_complete {k : Str} {t : V} (h : Tr (.leaf k t)) : leafR (tx (.leaf k t)) = some (.leaf k t) := by
  obtain ⟨h1, h2⟩ := h.leaf
  rw [tx_leaf]
  rcases leaf_form h1 h2 with ⟨z, hz, rfl, ⟨rfl, e⟩ | ⟨rfl, e⟩⟩ | ⟨rfl, rfl, e⟩ | ⟨rfl, rfl, e⟩
  · obtain ⟨ne, lw, ny, nn⟩ := fact_low hz
    have n1 : tl z ≠ [121, 101, 115] := fun q => ny (tl_inj (q.trans (by decide +kernel)))
    have n2 : tl z ≠ [110, 111] := fun q => nn (tl_inj (q.trans (by decide +kernel)))
    have n3 : (tl z).take 1 ≠ [33] := fun q => by
      cases hx : tl z with
      | nil => exact ne hx
      | cons c r =>
        rw [hx, List.take_succ_cons] at q
        have h33 := (List.cons.inj q).1
        have := low_33 (lw c (by rw [hx]; exact List.mem_cons_self))
        rw [h33] at this
        cases this
    rw [e]
    unfold leafR
    rw [if_neg n1, if_neg n2, if_neg n3, sOf_tl, if_pos hz]
  · rw [e]
    unfold leafR
    rw [if_neg (by simp), if_neg (by simp), if_pos (by rfl), List.drop_succ_cons, List.drop_zero, sOf_tl, if_pos hz]
  · rw [e]; rfl
  · rw [e]; rfl
end Eh

set_option Elab.async false
set_option linter.all false
set_option maxRecDepth 100000
set_option maxHeartbeats 2000000
namespace Eh
open PySem PySem.Spec PyProof.Rows L2
open TL
theorem ends_form {s : List Nat} (h : endsB s = true) : ∃ m, (s = 40 :: (m ++ [41]) ∨ s = 91 :: (m ++ [93])) ∧ innerL s = m := by
  have key : ∀ a b : Nat, s.take 1 ++ s.drop (s.length - 1) = [a, b] → a ≠ b → ∃ m, s = a :: (m ++ [b]) ∧ innerL s = m := fun a b e hn => by
    match s, e with
    | [], e => cases e
    | [x], e =>
      simp at e
      exact absurd (e.1.symm.trans e.2) hn
    | x :: y :: r, e =>
      have hl : (x :: y :: r).length - 1 = (y :: r).length := rfl
      rw [hl] at e
      have e1 : (x :: y :: r).take 1 = [x] := rfl
      rw [e1] at e
      have ex : x = a := (List.cons.inj e).1
      have e2 : (x :: y :: r).drop (y :: r).length = [b] := (List.cons.inj e).2
      have e3 : (y :: r).drop ((y :: r).length - 1) = [b] := e2
      have e4 : (y :: r) = (y :: r).take ((y :: r).length - 1) ++ [b] := by
        conv => lhs; rw [← List.take_append_drop ((y :: r).length - 1) (y :: r), e3]
      refine ⟨(y :: r).take ((y :: r).length - 1), by rw [ex, ← e4], rfl⟩
  unfold endsB at h
  rw [Bool.or_eq_true, decide_eq_true_eq, decide_eq_true_eq] at h
  rcases h with h | h
  · obtain ⟨m, e, i⟩ := key 40 41 h (by decide)
    exact ⟨m, .inl e, i⟩
  · obtain ⟨m, e, i⟩ := key 91 93 h (by decide)
    exact ⟨m, .inr e, i⟩
theorem ends_of {a b : Nat} {m : List Nat} (h : (a = 40 ∧ b = 41) ∨ (a = 91 ∧ b = 93)) : endsB (a :: (m ++ [b])) = true ∧ innerL (a :: (m ++ [b])) = m := by
  have e1 : (a :: (m ++ [b])).drop ((a :: (m ++ [b])).length - 1) = [b] := by
    have : (a :: (m ++ [b])).length - 1 = (a :: m).length := by simp
    rw [this, ← List.cons_append, List.drop_left]
  refine ⟨?_, ?_⟩
  · unfold endsB
    rw [e1, show (a :: (m ++ [b])).take 1 = [a] from rfl]
    rcases h with ⟨rfl, rfl⟩ | ⟨rfl, rfl⟩ <;> decide
  · unfold innerL
    rw [List.drop_succ_cons, List.drop_zero, show (a :: (m ++ [b])).length - 2 = m.length by simp, List.take_left]
theorem fit_of {ps : List (Option Pl)} (h : fitB ps = true) : 2 ≤ ps.length ∧ ps.length ≤ 4 ∧ ps = (ps.filterMap id).map some := by
  unfold fitB at h
  rw [Bool.and_eq_true, decide_eq_true_eq, List.all_eq_true] at h
  obtain ⟨⟨h1, h2⟩, h3⟩ := h
  refine ⟨h1, h2, ?_⟩
  clear h1 h2
  induction ps with
  | nil => rfl
  | cons x r ih =>
    cases x with
    | none => cases h3 none List.mem_cons_self
    | some p =>
      show some p :: r = some p :: (r.filterMap id).map some
      rw [← ih fun q hq => h3 q (List.mem_cons_of_mem _ hq)]
theorem map_some {rd : List Nat → Option Pl} : ∀ {ls : List (List Nat)} {qs : List Pl}, ls.map rd = qs.map some → (∀ l p, rd l = some p → tx p = l ∧ Tr p) → ls = qs.map tx ∧ ∀ q ∈ qs, Tr q
  | [], [], _, _ => ⟨rfl, fun q h => by cases h⟩
  | [], q :: qs, h, _ => by cases h
  | l :: ls, [], h, _ => by cases h
  | l :: ls, q :: qs, h, g => by
    obtain ⟨h1, h2⟩ := List.cons.inj h
    obtain ⟨a, b⟩ := map_some h2 g
    obtain ⟨c, d⟩ := g l q h1
    refine ⟨by rw [List.map_cons, c, a], fun q' hq => ?_⟩
    rcases List.mem_cons.mp hq with rfl | hq
    · exact d
    · exact b q' hq
theorem try_sound {rd : List Nat → Option Pl} {inner : List Nat} (g : ∀ l p, rd l = some p → tx p = l ∧ Tr p) : ∀ {rows : List (Nat × Str)} {p : Pl}, tryRows rd inner rows = some p → ∃ sg k qs, (sg, k) ∈ rows ∧ p = .node k qs ∧ inner = joinL [32, sg, 32] (qs.map tx) ∧ 2 ≤ qs.length ∧ qs.length ≤ 4 ∧ ∀ q ∈ qs, Tr q
  | [], p, h => by cases h
  | (sg, k) :: r, p, h => by
    rw [tryRows] at h
    split at h
    · rename_i hf
      cases h
      obtain ⟨f2, f4, fe⟩ := fit_of hf
      have fl : ((piecesL sg inner).map rd).length = (((piecesL sg inner).map rd).filterMap id).length := (congrArg List.length fe).trans (List.length_map _)
      rw [fl] at f2 f4
      obtain ⟨a, b⟩ := map_some fe g
      exact ⟨sg, k, _, List.mem_cons_self, rfl, by rw [← a, pieces_join], f2, f4, b⟩
    · obtain ⟨sg', k', qs, hm, e⟩ := try_sound g h
      exact ⟨sg', k', qs, List.mem_cons_of_mem _ hm, e⟩
theorem parts_sound {rd : List Nat → Option Pl} (g : ∀ l p, rd l = some p → tx p = l ∧ Tr p) {s : List Nat} {p : Pl} (h : partsR rd s = some p) : tx p = s ∧ Tr p := by
  unfold partsR at h
  split at h
  · rename_i he
    obtain ⟨m, es, im⟩ := ends_form he
    obtain ⟨sg, k, qs, hm, rfl, ei, h2, h4, hq⟩ := try_sound g h
    rw [im] at ei
    unfold rowsOf at hm
    rcases es with es | es
    · rw [es, if_pos (by rfl)] at hm
      have hk : nodeKinds.contains k = true ∧ signC k = sg ∧ openC k = 40 ∧ closeC k = 41 := by
        rcases List.mem_cons.mp hm with hm | hm
        · cases hm
          decide +kernel
        · rcases List.mem_cons.mp hm with hm | hm
          · cases hm
            decide +kernel
          · cases hm
      refine ⟨?_, tr_node hk.1 h2 h4 hq⟩
      rw [tx_node hk.1, hk.2.1, hk.2.2.1, hk.2.2.2, ← ei, es]
    · rw [es, if_neg (by rw [List.take_succ_cons]; simp)] at hm
      have hk : nodeKinds.contains k = true ∧ signC k = sg ∧ openC k = 91 ∧ closeC k = 93 := by
        rcases List.mem_cons.mp hm with hm | hm
        · cases hm
          decide +kernel
        · rcases List.mem_cons.mp hm with hm | hm
          · cases hm
            decide +kernel
          · cases hm
      refine ⟨?_, tr_node hk.1 h2 h4 hq⟩
      rw [tx_node hk.1, hk.2.1, hk.2.2.1, hk.2.2.2, ← ei, es]
  · cases h
theorem read_sound : ∀ (n : Nat) {s : List Nat} {p : Pl}, readN n s = some p → tx p = s ∧ Tr p
  | 0, s, p, h => by
    rw [readN] at h
    split at h
    · cases h
    · exact leaf_sound h
  | n + 1, s, p, h => by
    rw [readN] at h
    split at h
    · exact parts_sound (fun l q hq => read_sound n hq) h
    · exact leaf_sound h
theorem leaf_noparts {k : Str} {t : V} (h : Tr (.leaf k t)) : isParts (tx (.leaf k t)) = false := by
  obtain ⟨hw, ne⟩ := tx_leafW h
  unfold isParts
  rw [Bool.or_eq_false_iff]
  refine ⟨?_, ?_⟩
  · cases hx : tx (.leaf k t) with
    | nil => rfl
    | cons c r => exact (wordC_not (hw c (by rw [hx]; exact List.mem_cons_self))).1
  · cases hc : (tx (.leaf k t)).contains 32 with
    | false => rfl
    | true => exact absurd rfl (wordC_not (hw 32 (List.contains_iff_mem.mp hc))).2.2.1
theorem joinL_len {S : List Nat} : ∀ {ls : List (List Nat)} {l : List Nat}, l ∈ ls → l.length ≤ (joinL S ls).length
  | [x], l, h => by
    rw [List.mem_singleton.mp h]
    exact Nat.le_refl _
  | x :: y :: r, l, h => by
    show l.length ≤ (x ++ (S ++ joinL S (y :: r))).length
    rw [List.length_append, List.length_append]
    rcases List.mem_cons.mp h with rfl | h
    · omega
    · have := joinL_len (S := S) h
      omega
theorem tx_short {k : Str} {ps : List Pl} (hk : nodeKinds.contains k = true) {p : Pl} (h : p ∈ ps) : (tx p).length + 2 ≤ (tx (.node k ps)).length := by
  rw [tx_node hk, List.length_cons, List.length_append, List.length_singleton]
  have := joinL_len (S := [32, signC k, 32]) (List.mem_map_of_mem (f := tx) h)
  omega
theorem fit_map {ps : List Pl} (h2 : 2 ≤ ps.length) (h4 : ps.length ≤ 4) : fitB (ps.map some) = true ∧ (ps.map some).filterMap id = ps := by
  refine ⟨?_, by simp⟩
  unfold fitB
  rw [List.length_map, decide_eq_true ⟨h2, h4⟩, Bool.true_and, List.all_eq_true]
  intro x hx
  obtain ⟨p, _, rfl⟩ := List.mem_map.mp hx
  rfl
theorem pieces_own {sg : Nat} (h1 : opn sg = false) (h2 : cls2 sg = false) {ls : List (List Nat)} (hn : ls ≠ []) (ht : ∀ l ∈ ls, Thru sg l) : piecesL sg (joinL [32, sg, 32] ls) = ls := by
  unfold piecesL
  rw [scan_split h1 h2 hn ht, List.nil_append]
  cases ls with
  | nil => exact absurd rfl hn
  | cons x r => rfl
theorem try_complete {rd : List Nat → Option Pl} {k : Str} {ps : List Pl} (hk : nodeKinds.contains k = true) (h2 : 2 ≤ ps.length) (h4 : ps.length ≤ 4) (hp : ∀ p ∈ ps, Tr p) (hr : ∀ p ∈ ps, rd (tx p) = some p) :
    tryRows rd (joinL [32, signC k, 32] (ps.map tx)) (rowsOf (tx (.node k ps))) = some (.node k ps) := by
  obtain ⟨_, s1, s2, s3⟩ := signC_ok hk
  have ne : ps.map tx ≠ [] := fun e => by
    rw [List.map_eq_nil_iff.mp e] at h2
    simp at h2
  have own : fitB ((piecesL (signC k) (joinL [32, signC k, 32] (ps.map tx))).map rd) = true ∧ ((piecesL (signC k) (joinL [32, signC k, 32] (ps.map tx))).map rd).filterMap id = ps := by
    rw [pieces_own s1 s2 ne fun l hl => by
      obtain ⟨p, hm, rfl⟩ := List.mem_map.mp hl
      exact thru_text p (hp p hm), List.map_map]
    have e : ps.map (rd ∘ tx) = ps.map some := List.map_congr_left fun p hm => hr p hm
    rw [e]
    exact fit_map h2 h4
  have other : ∀ sg, sg ≠ signC k → (sg = 38 ∨ sg = 43) → fitB ((piecesL sg (joinL [32, signC k, 32] (ps.map tx))).map rd) = false := fun sg hs hg => by
    have e : piecesL sg (joinL [32, signC k, 32] (ps.map tx)) = [[] ++ joinL [32, signC k, 32] (ps.map tx)] := by
      unfold piecesL
      refine scan_other s1 s2 s3 hs (fun l hl => ?_) (fun l hl => ?_) []
      · obtain ⟨p, hm, rfl⟩ := List.mem_map.mp hl
        refine ⟨thru_text p (hp p hm), fun c r e => ?_⟩
        obtain ⟨c', r', e', h'⟩ := tx_ne (hp p hm)
        rw [e] at e'
        have ec := (List.cons.inj e').1
        subst ec
        intro q
        subst q
        rcases hg with rfl | rfl
        · rcases h' with h' | h'
          · cases h'
          · exact absurd rfl (wordC_not h').2.2.2.1
        · rcases h' with h' | h'
          · cases h'
          · exact absurd rfl (wordC_not h').2.2.2.2.1
      · obtain ⟨p, hm, rfl⟩ := List.mem_map.mp hl
        obtain ⟨c', r', e', _⟩ := tx_ne (hp p hm)
        rw [e']
        simp
    rw [e]
    rfl
  rcases node_cases (k := k) hk with rfl | rfl | rfl | rfl
  · rw [show signC "all" = 38 from by decide +kernel] at own other ⊢
    have er : rowsOf (tx (.node "all" ps)) = ([(38, "all"), (124, "some")] : List (Nat × Str)) := by rw [tx_node hk]; rfl
    rw [er, tryRows, if_pos own.1]
    exact congrArg (fun q => some (Pl.node "all" q)) own.2
  · rw [show signC "some" = 124 from by decide +kernel] at own other ⊢
    have er : rowsOf (tx (.node "some" ps)) = ([(38, "all"), (124, "some")] : List (Nat × Str)) := by rw [tx_node hk]; rfl
    rw [er, tryRows, if_neg (by rw [other 38 (by decide) (.inl rfl)]; decide), tryRows, if_pos own.1]
    exact congrArg (fun q => some (Pl.node "some" q)) own.2
  · rw [show signC "mine" = 43 from by decide +kernel] at own other ⊢
    have er : rowsOf (tx (.node "mine" ps)) = ([(43, "mine"), (42, "yours")] : List (Nat × Str)) := by rw [tx_node hk]; rfl
    rw [er, tryRows, if_pos own.1]
    exact congrArg (fun q => some (Pl.node "mine" q)) own.2
  · rw [show signC "yours" = 42 from by decide +kernel] at own other ⊢
    have er : rowsOf (tx (.node "yours" ps)) = ([(43, "mine"), (42, "yours")] : List (Nat × Str)) := by rw [tx_node hk]; rfl
    rw [er, tryRows, if_neg (by rw [other 43 (by decide) (.inr rfl)]; decide), tryRows, if_pos own.1]
    exact congrArg (fun q => some (Pl.node "yours" q)) own.2
theorem open_close (k : Str) : (openC k = 40 ∧ closeC k = 41) ∨ (openC k = 91 ∧ closeC k = 93) := by
  unfold openC closeC
  split
  · exact .inr ⟨rfl, rfl⟩
  · exact .inl ⟨rfl, rfl⟩
theorem read_complete : ∀ (n : Nat) {p : Pl}, Tr p → (tx p).length ≤ 2 * n + 1 → readN n (tx p) = some p
  | n, .leaf k t, h, hl => by
    have hi := leaf_noparts h
    cases n with
    | zero =>
      rw [readN, if_neg (by rw [hi]; decide)]
      exact leaf_complete h
    | succ n =>
      rw [readN, if_neg (by rw [hi]; decide)]
      exact leaf_complete h
  | 0, .node k ps, h, hl => by
    obtain ⟨hk, h2, h4, hp⟩ := h.node
    rw [tx_node hk, List.length_cons, List.length_append, List.length_singleton] at hl
    omega
  | n + 1, .node k ps, h, hl => by
    obtain ⟨hk, h2, h4, hp⟩ := h.node
    have ip : isParts (tx (.node k ps)) = true := by
      rw [tx_node hk]
      unfold isParts
      rw [show opnH (openC k :: _) = opn (openC k) from rfl, (open_cls k).1]
      rfl
    rw [readN, if_pos ip]
    obtain ⟨e1, e2⟩ := ends_of (m := joinL [32, signC k, 32] (ps.map tx)) (open_close k)
    rw [← tx_node hk] at e1 e2
    unfold partsR
    rw [if_pos e1, e2]
    exact try_complete hk h2 h4 hp fun p hm => read_complete n (hp p hm) (by
      have := tx_short hk hm
      omega)
theorem read_none {n : Nat} {s : List Nat} (h : readN n s = none) (hl : s.length ≤ 2 * n + 1) {p : Pl} (hp : Tr p) : tx p ≠ s := fun e => by
  subst e
  rw [read_complete n hp hl] at h
  cases h
end Eh

set_option Elab.async false
set_option linter.all false
set_option maxRecDepth 100000
set_option maxHeartbeats 2000000
/-! What Promise.read finds in any plain string. -/
namespace Eh
open PySem PySem.Spec PyProof.Rows L2
open TL
/-! ### the words of a string -/
theorem spl_mem (S : List Nat) : ∀ (l acc : List Nat) (k : Nat) (x : List Nat), x ∈ spl S k acc l → (∀ c ∈ x, c ∈ acc ∨ c ∈ l) ∧ x.length ≤ acc.length + l.length
  | [], acc, k, x, h => by
    rw [spl_nil] at h
    rw [List.mem_singleton.mp h]
    exact ⟨fun c hc => .inl hc, Nat.le_add_right _ _⟩
  | c :: r, acc, 0, x, h => by
    cases hp : pre S (c :: r) with
    | true =>
      rw [spl_hit hp] at h
      rcases List.mem_cons.mp h with rfl | h
      · exact ⟨fun c hc => .inl hc, Nat.le_add_right _ _⟩
      · obtain ⟨a, b⟩ := spl_mem S r [] _ x h
        refine ⟨fun d hd => .inr ?_, ?_⟩
        · rcases a d hd with q | q
          · cases q
          · exact List.mem_cons_of_mem _ q
        · simp at b ⊢
          omega
    | false =>
      rw [spl_miss hp] at h
      obtain ⟨a, b⟩ := spl_mem S r _ _ x h
      refine ⟨fun d hd => ?_, ?_⟩
      · rcases a d hd with q | q
        · rcases List.mem_append.mp q with q | q
          · exact .inl q
          · rw [List.mem_singleton.mp q]
            exact .inr List.mem_cons_self
        · exact .inr (List.mem_cons_of_mem _ q)
      · simp at b ⊢
        omega
  | c :: r, acc, k + 1, x, h => by
    have h' : x ∈ spl S k acc r := h
    obtain ⟨a, b⟩ := spl_mem S r acc k x h'
    refine ⟨fun d hd => (a d hd).imp id fun q => List.mem_cons_of_mem _ q, ?_⟩
    simp at b ⊢
    omega
theorem spl_count (S : List Nat) : ∀ (l acc : List Nat) (k : Nat), (spl S k acc l).length ≤ l.length + 1
  | [], acc, k => by
    rw [spl_nil]
    exact Nat.le_refl _
  | c :: r, acc, 0 => by
    cases hp : pre S (c :: r) with
    | true =>
      rw [spl_hit hp, List.length_cons, List.length_cons]
      have := spl_count S r [] (S.length - 1)
      omega
    | false =>
      rw [spl_miss hp, List.length_cons]
      have := spl_count S r (acc ++ [c]) 0
      omega
  | c :: r, acc, k + 1 => by
    have := spl_count S r acc k
    show (spl S k acc r).length ≤ (c :: r).length + 1
    rw [List.length_cons]
    omega
theorem sp4_mem {c d : Nat} (h : d ∈ sp4 c) : d = c ∨ d = 32 := by
  unfold sp4 at h
  split at h
  · simp at h; omega
  · split at h
    · simp at h; omega
    · split at h
      · simp at h; omega
      · split at h
        · simp at h; omega
        · exact .inl (List.mem_singleton.mp h)
theorem sp4_len (c : Nat) : (sp4 c).length ≤ 2 := by
  unfold sp4
  split
  · decide
  · split
    · decide
    · split
      · decide
      · split
        · decide
        · exact Nat.le_succ 1
theorem flat_len : ∀ l : List Nat, (l.flatMap sp4).length ≤ 2 * l.length
  | [] => Nat.le_refl _
  | c :: l => by
    rw [List.flatMap_cons, List.length_append, List.length_cons]
    have := flat_len l
    have := sp4_len c
    omega
theorem words_asc {z : Str} (hz : z.length ≤ 9000) (ha : ∀ c ∈ tl z, c < 128) : (split4 z).length < 100000 ∧ (∀ x ∈ split4 z, x.length ≤ 900000) ∧ ∀ x ∈ split4 z, Asc x := by
  have e : (split4 z).map tl = spl [32] 0 [] ((tl z).flatMap sp4) := by
    unfold split4
    rw [split_spl _ " " (by decide +kernel) (kind_ok (by decide +kernel)), tl_repl4, show tl " " = [32] from by decide +kernel]
  have hl : ((tl z).flatMap sp4).length ≤ 18000 := by
    have := flat_len (tl z)
    have e : (tl z).length = z.length := by simp [Str.length]
    omega
  have each : ∀ x ∈ split4 z, (tl x).length ≤ 18000 ∧ ∀ c ∈ tl x, c < 128 := fun x hx => by
    have hm : tl x ∈ spl [32] 0 [] ((tl z).flatMap sp4) := by
      rw [← e]
      exact List.mem_map_of_mem hx
    obtain ⟨a, b⟩ := spl_mem _ _ _ _ _ hm
    refine ⟨by simp only [List.length_nil] at b; omega, fun c hc => ?_⟩
    rcases a c hc with q | q
    · cases q
    · obtain ⟨d, hd, hs⟩ := List.mem_flatMap.mp q
      rcases sp4_mem hs with rfl | rfl
      · exact ha _ hd
      · decide
  have ln : ∀ x : Str, (tl x).length = x.length := fun x => by simp [Str.length]
  refine ⟨?_, fun x hx => ?_, fun x hx => ⟨?_, (each x hx).2⟩⟩
  · have := spl_count [32] ((tl z).flatMap sp4) [] 0
    rw [← e, List.length_map] at this
    omega
  · have := (each x hx).1
    rw [ln] at this
    omega
  · have := (each x hx).1
    rw [ln] at this
    omega
/-! ### what stands in the nodes -/
def CElt (v : V) : Prop := (∃ i, v = .int i) ∨ ∃ w, v = .str w ∧ Asc w
structure Asc3 (s : St3) : Prop where
  ks : ∀ k ∈ s.ks, Asc k
  cs : ∀ v ∈ s.cs, CElt v
theorem asc_lit {z : Str} (h : (decide (z.length < 1000000) && z.cps.toList.all fun c => decide (c < 128)) = true) : Asc z := by
  rw [Bool.and_eq_true, decide_eq_true_eq, List.all_eq_true] at h
  exact ⟨h.1, fun c hc => of_decide_eq_true (h.2 c hc)⟩
theorem asc_kindZ (w : Str) : Asc (kindOfSign w) := by
  unfold kindOfSign
  split
  · exact asc_lit (by decide +kernel)
  · split
    · exact asc_lit (by decide +kernel)
    · split
      · exact asc_lit (by decide +kernel)
      · exact asc_lit (by decide +kernel)
theorem asc_plain {w : Str} (h : Asc w) : Asc (plainN w).1 ∧ CElt (plainN w).2 := by
  unfold plainN
  split
  · exact ⟨h, .inl ⟨0, rfl⟩⟩
  · split
    · rename_i hb
      refine ⟨show Asc "not" from asc_lit (by decide +kernel), .inr ⟨_, rfl, ?_⟩⟩
      rw [starts_bang] at hb
      cases hx : tl w with
      | nil =>
        rw [hx] at hb
        cases hb
      | cons c r =>
        rw [hx] at hb
        have hc : c = 33 := by simpa using hb
        have ew : w = "!" ++ sOf r := tl_inj (by rw [bang_tl, tl_sOf, hx, hc])
        have er : tl w = 33 :: r := by rw [hx, hc]
        rw [ew, cut_bang]
        refine ⟨?_, fun d hd => h.2 d (by rw [show w.cps.toList = 33 :: r from er]; exact List.mem_cons_of_mem _ hd)⟩
        have l1 : (tl w).length = w.length := by simp [Str.length]
        have l2 : (sOf r).length = r.length := by simp [Str.length, sOf]
        rw [er, List.length_cons] at l1
        have := h.1
        omega
    · exact ⟨show Asc "fact" from asc_lit (by decide +kernel), .inr ⟨w, rfl, h⟩⟩
theorem mem_set {α : Type} {l : List α} {i : Nat} {a b : α} (h : b ∈ l.set i a) : b ∈ l ∨ b = a := List.mem_or_eq_of_mem_set h
theorem asc_step {s : St3} (o : Asc3 s) {w : Str} (h : Asc w) : Asc3 (step3 s w) := by
  have app : ∀ {k : Str} {v : V}, Asc k → CElt v → Asc3 ⟨s.ks ++ [k], s.cs ++ [v], s.ar⟩ := fun {k v} hk hv => by
    refine ⟨fun x hx => ?_, fun x hx => ?_⟩
    · rcases List.mem_append.mp hx with hx | hx
      · exact o.ks x hx
      · rw [List.mem_singleton.mp hx]
        exact hk
    · rcases List.mem_append.mp hx with hx | hx
      · exact o.cs x hx
      · rw [List.mem_singleton.mp hx]
        exact hv
  unfold step3
  split
  · have := app (k := "") (v := .int 1) (asc_lit (by decide +kernel)) (.inl ⟨1, rfl⟩)
    exact ⟨this.ks, this.cs⟩
  · split
    · refine ⟨fun x hx => ?_, fun x hx => ?_⟩
      · rcases mem_set hx with hx | rfl
        · exact o.ks x hx
        · exact asc_kindZ _
      · have hx : x ∈ bump s.cs (s.ar.getLast?.getD 0) := hx
        unfold bump at hx
        split at hx
        · rename_i v hv
          rcases mem_set hx with hx | rfl
          · exact o.cs x hx
          · have hc := o.cs v (List.mem_of_getElem? hv)
            rcases hc with ⟨i, rfl⟩ | ⟨w', rfl, hw'⟩
            · exact .inl ⟨i + 1, rfl⟩
            · exact .inr ⟨w', rfl, hw'⟩
        · exact o.cs x hx
    · split
      · exact ⟨o.ks, o.cs⟩
      · exact app (asc_plain h).1 (asc_plain h).2
theorem asc_run : ∀ (ws : List Str) (s : St3), Asc3 s → (∀ w ∈ ws, Asc w) → Asc3 (ws.foldl step3 s)
  | [], _, o, _ => o
  | w :: ws, s, o, h => asc_run ws (step3 s w) (asc_step o (h w List.mem_cons_self)) fun x hx => h x (List.mem_cons_of_mem _ hx)
theorem nodes_asc {z : Str} (hz : z.length ≤ 9000) (ha : ∀ c ∈ tl z, c < 128) : ∀ n ∈ nodesIn z, Asc n.1 ∧ CElt n.2 := fun n hn => by
  have o : Asc3 (run3 (split4 z)) := asc_run _ ⟨[], [], []⟩ ⟨fun k h => (nomatch h), fun k h => (nomatch h)⟩ (words_asc hz ha).2.2
  have := List.of_mem_zip (a := n.1) (b := n.2) hn
  exact ⟨o.ks _ this.1, o.cs _ this.2⟩
/-! ### due nodes are those of a tree -/
theorem run_due : ∀ {ns : List (Str × V)} {st : List Int} {d : Int}, Stk st → GoodN ns → (1 ≤ d ∨ 0 < st.sum) → 0 ≤ d →
    (1 ≤ (if (runD st d ns).1 = 0 then (runD st d ns).2 else 0) ↔ dueGo st.sum.toNat ns = true)
  | [], st, d, hs, _, ho, hd => by
    have h0 : 0 ≤ st.sum := hs.sum
    rw [runD]
    show 1 ≤ (if st.sum = 0 then d else 0) ↔ dueGo st.sum.toNat [] = true
    rw [dueGo.eq_1 st.sum.toNat, decide_eq_true_eq]
    split
    · omega
    · omega
  | n :: ns, st, d, hs, hg, ho, hd => by
    have zero : ∀ {st : List Int}, popz st = [] → st.sum = 0 := fun {st} => by
      induction st with
      | nil => exact fun _ => rfl
      | cons x r ih =>
        intro h
        rw [popz] at h
        split at h
        · rename_i e
          rw [List.sum_cons, ih h, e]
          rfl
        · cases h
    have some_ : ∀ {st : List Int} {x : Int} {r : List Int}, popz st = x :: r → x ≠ 0 ∧ st.sum = x + r.sum ∧ (Stk st → Stk (x :: r)) := fun {st} => by
      induction st with
      | nil => intro x r h; cases h
      | cons y t ih =>
        intro x r h
        rw [popz] at h
        split at h
        · rename_i e
          obtain ⟨a, b, c⟩ := ih h
          refine ⟨a, ?_, fun g => c fun q hq => g q (List.mem_cons_of_mem _ hq)⟩
          rw [List.sum_cons, b, e]
          omega
        · rename_i e
          cases h
          exact ⟨e, rfl, id⟩
    cases hp : popz st with
    | nil =>
      rw [run_none hp, zero hp]
      show 1 ≤ (if (1 : Int) = 0 then (0 : Int) else 0) ↔ dueGo 0 (n :: ns) = true
      rw [if_neg (by decide)]
      exact ⟨fun h => by omega, fun h => by cases h⟩
    | cons x r =>
      obtain ⟨hx, hsum, hst⟩ := some_ hp
      have hst := hst hs
      have hx0 : 0 ≤ x := hst x List.mem_cons_self
      have hr : Stk r := fun q hq => hst q (List.mem_cons_of_mem _ hq)
      have hrs : 0 ≤ r.sum := hr.sum
      have hgn := hg n List.mem_cons_self
      have hgr : GoodN ns := fun q hq => hg q (List.mem_cons_of_mem _ hq)
      rw [run_step hp]
      have el : st.sum.toNat = (x - 1 + r.sum).toNat + 1 := by omega
      rw [el]
      show _ ↔ dueGo ((x - 1 + r.sum).toNat + partsN n) ns = true
      have h1 : Stk ((x - 1) :: r) := fun q hq => by
        rcases List.mem_cons.mp hq with rfl | hq
        · omega
        · exact hr q hq
      cases ek : nodeKinds.contains n.1 with
      | true =>
        rw [if_pos rfl]
        obtain ⟨i, e, i1, i2⟩ := good_int hgn ek
        have ep : partsN n = i.toNat := by
          unfold partsN
          rw [if_pos ek, e]
          rfl
        have ei : intOf n.2 = i := by rw [e]; rfl
        rw [ep, ei]
        have h2 : Stk (i :: (x - 1) :: r) := fun q hq => by
          rcases List.mem_cons.mp hq with rfl | hq
          · omega
          · exact h1 q hq
        have := run_due (ns := ns) (st := i :: (x - 1) :: r) (d := max d ((r.length : Int) + 1)) h2 hgr (.inl (by omega)) (by omega)
        rw [this, List.sum_cons, List.sum_cons, show (i + (x - 1 + r.sum)).toNat = (x - 1 + r.sum).toNat + i.toNat by omega]
      | false =>
        rw [if_neg Bool.false_ne_true]
        have ep : partsN n = 0 := by
          unfold partsN
          rw [if_neg (by rw [ek]; decide)]
        rw [ep]
        have := run_due (ns := ns) (st := (x - 1) :: r) (d := max d ((r.length : Int) + 1)) h1 hgr (.inl (by omega)) (by omega)
        rw [this, List.sum_cons]
        rfl
theorem depth_due {ns : List (Str × V)} (hg : GoodN ns) : 1 ≤ depthN ns ↔ dueGo 1 ns = true :=
  run_due (st := [1]) (d := 0) (fun x hx => by rw [List.mem_singleton.mp hx]; decide) hg (.inr (by decide)) (by decide)
theorem tree_all : ∀ {ns : List (Str × V)} {l : Nat}, GoodN ns → dueGo l ns = true → ∃ ps : List Pl, ps.length = l ∧ plsOk ps = true ∧ nodesAll ps = ns
  | [], l, _, h => by
    rw [dueGo.eq_1, decide_eq_true_eq] at h
    exact ⟨[], h.symm, by rw [plsOk], by rw [nodesAll]⟩
  | n :: ns, 0, _, h => by cases h
  | n :: ns, l + 1, hg, h => by
    obtain ⟨ps, h1, h2, h3⟩ := tree_all (ns := ns) (l := l + partsN n) (fun q hq => hg q (List.mem_cons_of_mem _ hq)) h
    have hgn := hg n List.mem_cons_self
    cases ek : nodeKinds.contains n.1 with
    | true =>
      obtain ⟨i, e, i1, i2⟩ := good_int hgn ek
      have ep : partsN n = i.toNat := by
        unfold partsN
        rw [if_pos ek, e]
        rfl
      have hs := List.take_append_drop (partsN n) ps
      have hk := plsOk_app (ps.take (partsN n)) (ps.drop (partsN n))
      rw [hs, h2] at hk
      obtain ⟨k1, k2⟩ := (Bool.and_eq_true _ _).mp hk.symm
      have hn := nodesAll_append (ps.take (partsN n)) (ps.drop (partsN n))
      rw [hs, h3] at hn
      have lt : (ps.take (partsN n)).length = partsN n := by rw [List.length_take]; omega
      refine ⟨.node n.1 (ps.take (partsN n)) :: ps.drop (partsN n), ?_, ?_, ?_⟩
      · rw [List.length_cons, List.length_drop]
        omega
      · rw [plsOk, plOk, ek, k1, k2]
        rfl
      · rw [nodesAll, nodesOf, lt, hn, show ((partsN n : Nat) : Int) = i by omega, ← e]
        rfl
    | false =>
      have ep : partsN n = 0 := by
        unfold partsN
        rw [if_neg (by rw [ek]; decide)]
      rw [ep] at h1
      refine ⟨.leaf n.1 n.2 :: ps, by rw [List.length_cons, h1, Nat.add_zero], ?_, ?_⟩
      · rw [plsOk, plOk, ek, h2]
        rfl
      · rw [nodesAll, nodesOf, h3]
        rfl
theorem tree_of {ns : List (Str × V)} (hg : GoodN ns) (h : dueGo 1 ns = true) : ∃ p, Tr p ∧ nodesOf p = ns := by
  obtain ⟨ps, h1, h2, h3⟩ := tree_all hg h
  match ps, h1 with
  | [p], _ =>
    rw [plsOk, plsOk, Bool.and_true] at h2
    rw [nodesAll, nodesAll, List.append_nil] at h3
    exact ⟨p, ⟨h2, by rw [h3]; exact hg⟩, h3⟩
mutual
theorem tree_stack : ∀ (p : Pl), plOk p = true → ∀ rest, stackT (nodesOf p ++ rest) = textOf p :: stackT rest
  | .leaf k t, h, rest => by
    rw [plOk] at h
    rw [nodesOf, textOf]
    show (if nodeKinds.contains k = true then _ else _) = _
    rw [if_neg fun z => by rw [show nodeKinds.contains k = true from z] at h; cases h]
    rfl
  | .node k ps, h, rest => by
    rw [plOk, Bool.and_eq_true] at h
    have ih := trees_stack ps h.2 rest
    rw [nodesOf, textOf]
    show (if nodeKinds.contains k = true then brack k ((stackT (nodesAll ps ++ rest)).take (partsN (k, .int (ps.length : Int)))) :: (stackT (nodesAll ps ++ rest)).drop (partsN (k, .int (ps.length : Int))) else _) = _
    have e : partsN (k, .int (ps.length : Int)) = (textAll ps).length := by
      rw [textAll_length]
      unfold partsN
      rw [if_pos h.1]
      exact Int.toNat_natCast _
    rw [if_pos h.1, ih, e, List.take_left, List.drop_left]
theorem trees_stack : ∀ (ps : List Pl), plsOk ps = true → ∀ rest, stackT (nodesAll ps ++ rest) = textAll ps ++ stackT rest
  | [], _, rest => by
    rw [nodesAll, textAll]
    rfl
  | p :: ps, h, rest => by
    rw [plsOk, Bool.and_eq_true] at h
    rw [nodesAll, textAll, List.append_assoc, tree_stack p h.1, trees_stack ps h.2]
    rfl
end
/-! ### what is read -/
def readZ (z : Str) : Option Pl := match readN z.length (tl z) with
  | some p => if okB (nodesOf p) = true then some p else none
  | none => none
def ndsZ (z : Str) : List (Option (Str × V)) := (nodesIn z).map fun n => pairNd (.str n.1) n.2
theorem readZ_some {z : Str} {p : Pl} (h : readZ z = some p) : Tr p ∧ textOf p = z ∧ okB (nodesOf p) = true ∧ nodesIn z = nodesOf p := by
  unfold readZ at h
  split at h
  · rename_i q hq
    split at h
    · rename_i ho
      cases h
      obtain ⟨a, b⟩ := read_sound _ hq
      have e : textOf p = z := tl_inj a
      exact ⟨b, e, ho, by rw [← e]; exact read_back b⟩
    · cases h
  · cases h
theorem readZ_of {p : Pl} (h : Tr p) (ho : okB (nodesOf p) = true) : readZ (textOf p) = some p := by
  unfold readZ
  rw [read_complete (textOf p).length h (by
    have : (tx p).length = (textOf p).length := by simp [Str.length, tx]
    omega)]
  show (if okB (nodesOf p) = true then some p else none) = some p
  rw [if_pos ho]
theorem pairs_good {ns : List (Str × V)} (h : GoodN ns) : (ns.map fun n => pairNd (.str n.1) n.2) = ns.map some := List.map_congr_left fun n hn => by
  show (if nodeAB n.1 n.2 = true then some (n.1, n.2) else none) = some n
  rw [if_pos (h n hn)]
theorem good_pairs {ns : List (Str × V)} (h : (ns.map fun n => pairNd (.str n.1) n.2).all Option.isSome = true) : GoodN ns := fun n hn => by
  have := List.all_eq_true.mp h _ (List.mem_map_of_mem hn)
  have : (if nodeAB n.1 n.2 = true then some (n.1, n.2) else none).isSome = true := this
  split at this
  · rename_i g
    exact g
  · cases this
theorem near_bad {z : Str} (h : areB (ndsZ z) = false) : readZ z = none := by
  cases hr : readZ z with
  | none => rfl
  | some p =>
    obtain ⟨a, b, c, d⟩ := readZ_some hr
    unfold ndsZ at h
    rw [d, pairs_good a.2, are_some, c] at h
    cases h
theorem near_good {z : Str} (h : areB (ndsZ z) = true) : ∃ p, Tr p ∧ nodesOf p = nodesIn z ∧ ndsZ z = (nodesIn z).map some ∧ dueGo 1 (nodesIn z) = true ∧ okB (nodesIn z) = true ∧ stackT (nodesIn z) = [textOf p] ∧ (textOf p = z → readZ z = some p) ∧ (textOf p ≠ z → readZ z = none) := by
  have hg : GoodN (nodesIn z) := by
    have h' := h
    unfold areB at h'
    rw [Bool.and_eq_true, Bool.and_eq_true] at h'
    exact good_pairs h'.2.1
  have en : ndsZ z = (nodesIn z).map some := pairs_good hg
  have ho : okB (nodesIn z) = true := by rw [← are_some, ← en]; exact h
  have hd : dueGo 1 (nodesIn z) = true := by
    have h' := ho
    unfold okB boundB at h'
    simp only [Bool.and_eq_true, decide_eq_true_eq] at h'
    exact (depth_due hg).mp h'.2.2.1
  obtain ⟨p, hp, ep⟩ := tree_of hg hd
  refine ⟨p, hp, ep, en, hd, ho, ?_, fun e => ?_, fun e => ?_⟩
  · have := tree_stack p hp.1 []
    rw [List.append_nil, ep] at this
    exact this
  · have := readZ_of hp (by rw [ep]; exact ho)
    rw [e] at this
    exact this
  · cases hr : readZ z with
    | none => rfl
    | some q =>
      obtain ⟨a, b, c, d⟩ := readZ_some hr
      have := (nodes_eq hp.1 a.1).mp (by rw [ep, d])
      rw [this] at e
      exact absurd b e
end Eh

set_option Elab.async false
set_option linter.all false
set_option maxRecDepth 100000
set_option maxHeartbeats 4000000
/-! Promise.read of any value. -/
namespace Eh
open PySem PySem.Spec PyProof.Rows L2
open TL
theorem CElt.elt {K : PySem.W.Frag} {H : Hp} {v : V} (h : CElt v) : Elt K H v := h.elim (fun h => .inr (.inl h)) fun ⟨w, e, a⟩ => .inl ⟨w, e, a⟩
theorem nds_pairs {K : PySem.W.Frag} {H : Hp} : ∀ {xs : List V} {ns : List (Str × V)}, NdsAt K H xs ns → (∀ n ∈ ns, Asc n.1 ∧ CElt n.2) → NdAll K H xs (ns.map fun n => pairNd (.str n.1) n.2)
  | _, _, .nil, _ => .nil
  | _, _, .cons (k := k) (t := t) (ns := ns) h r, g => by
    obtain ⟨e1, e2⟩ := g _ List.mem_cons_self
    exact .cons (NdV.pair h (.inl ⟨k, rfl, e1⟩) e2.elt) (nds_pairs r fun n hn => g n (List.mem_cons_of_mem _ hn))
/-- a value that may be read, and what is read -/
inductive RdV (K : PySem.W.Frag) (H : Hp) : V → Option Pl → Prop
  | str {z : Str} : z.length ≤ 9000 → (∀ c ∈ tl z, c < 128) → RdV K H (.str z) (readZ z)
  | other {v : V} {t : Value} : (∀ z, v ≠ .str z) → TyX K H v t → PySem.W.kitOne K t (.type "str") = some false → RdV K H v none
section
variable {P : Program} {w : World} {K : PySem.W.Frag} {mg : Str → Option Value} {base : Heap}
def spReadZ (K : PySem.W.Frag) (C CP : Addr) : Sp := fun vs H Q E => ∃ v ro, vs = [.ref C, v] ∧ RdV K H v ro ∧
  (∀ p, ro = some p → ∀ a H', Same H H' → H a = none → PrG K C H' a (nodesOf p) → Q (.ref a) H') ∧
  (ro = none → ∀ d H', Same H H' → H d = none → H' d = some (.xd [("line", .non)]) → E (.ref CP) (some d) H')
theorem ok_readZ {C CE CP fI fL fN fA fT fPI f : Addr} {fdI fdN fdA fdT fdPI fd : FuncData} (F : Fun K "read" "Promise.read" s_Promise_read f fd) (T : Txt mg) (PC : PromC K mg C fI fL) (C_nodes_in : Cal P w K mg base 2 "nodes_in" fN fdN ["text"] (spNodesIn K))
    (C__are_nodes : Cal P w K mg base 3 "_are_nodes" fA fdA ["value"] (spAreE K)) (C_text_of : Cal P w K mg base 2 "text_of" fT fdT ["nodes"] (spText K)) (GI : FnOk P w K mg base (L2.CX P w) 4 fI fdI ["self", "nodes"] (spInitE K C CE)) (bI : Binds K fdI ["self", "nodes"] [])
    (TP : OexB K CP "ValueError" "ValueError.__new__" "ValueError.__init__" veB) (gP : mg "ParseError" = some (.ref CP)) (iP : PySem.W.findIn K (.ref CP) "__init__" = some (some (.ref fPI))) (tP : PySem.W.typeIn K (.ref fPI) = some (.type "function")) (GP : FnOk P w K mg base CX0 2 fPI fdPI ["self", "line"] (spKeep1 CP "line")) (bP : Binds K fdPI ["self", "line"] []) :
    FnOk P w K mg base (L2.CX P w) 6 f fd ["cls", "text"] (spReadZ K C CP) := by
  refine F.okX sc_Promise_read (fun vs H Q E h => ?_) (fun cdv A outer s H vs Q E hr h => ?_)
  · obtain ⟨v, ro, rfl, _⟩ := h
    rfl
  · obtain ⟨v, ro, rfl, hv, q1, q2⟩ := h
    have hr2 := hr.mono (j := 2) (by omega)
    have hr3 := hr.mono (j := 3) (by omega)
    refine ⟨_, (pss_cons (ps_if (pt_not (pt_val (pe_callB (isiQ (K := K) rfl) (by rfl) T.isinstance_ (by decide +kernel) (pa_cons (pv 1) (pa_cons (pe_bltn (v := .ty "str") (by rfl) T.str_ (by decide +kernel) rfl) pa_nil)))))
        (pss_one (ps_raise rfl (takes_of rfl rfl rfl rfl) (pmk_keep baseVE TP iP tP GP hr3 bP pass0 (by rfl) gP (pa_cons pe_non pa_nil)))) pss_nil)
      (pss_cons (ps_set (i := 2) sc_Promise_read.nd rfl (.inl rfl) (pe_call C_nodes_in.G hr2 (by rfl) C_nodes_in.m C_nodes_in.k C_nodes_in.b .nil pass0 (pa_cons (pv 1) pa_nil)))
      (pss_cons (ps_if (PW.pt (pw_or (pt_not (pt_val (pe_call C__are_nodes.G hr3 (by rfl) C__are_nodes.m C__are_nodes.k C__are_nodes.b .nil pass0 (pa_cons (pv 2) pa_nil)))) (pw_or1 (pt_cmpR op_ne (pe_call C_text_of.G hr2 (by rfl) C_text_of.m C_text_of.k C_text_of.b .nil pass0 (pa_cons (pv 2) pa_nil)) (pv 1) (nomark _)))))
        (pss_one (ps_raise rfl (takes_of rfl rfl rfl rfl) (pmk_keep baseVE TP iP tP GP hr3 bP pass0 (by rfl) gP (pa_cons pe_non pa_nil)))) pss_nil)
      (pss_one (ps_ret (pe_makeL (i := 0) (E := fun _ => E) PC.mkC GI hr rfl (by first | exact Or.inl rfl | exact Or.inr (Or.inl rfl)) bI (fun σ => passAt (takes_of rfl rfl rfl rfl) σ) (pa_cons (pv 2) pa_nil))))))), ?_⟩
    cases hv with
    | other hn ht hk =>
      refine ⟨_, rfl, v, .ty "str", _, .type "str", false, rfl, .ty _, ht, hk, _, rfl, iteT ⟨by show 1 ≤ 1000; decide, mk_keep (.inl rfl) fun d H' s' nd ed => ?_⟩⟩
      exact q2 rfl d H' s' nd ed
    | str hz ha =>
      rename_i z
      obtain ⟨hw, hx, hasc⟩ := words_asc hz ha
      refine ⟨_, rfl, .str z, .ty "str", .type "str", .type "str", true, rfl, .ty _, .base (.str z), kit_ty (by decide +kernel), _, rfl, iteF ?_⟩
      refine ⟨_, rfl, z, rfl, hz, hw, hx, fun p ys H1 s1 n1 e1 N1 => ?_⟩
      have NA : NdAll K H1 ys (ndsZ z) := nds_pairs N1 (nodes_asc hz ha)
      refine ⟨_, rfl, .ref p, _, rfl, .tup (SqT.of e1) NA, fun H2 s2 => ⟨_, rfl, ?_⟩⟩
      have N2 := N1.tk (stk s2)
      have e2 := (stk s2).seq (SqT.of e1 : SqT K H1 p ys)
      cases ho : areB (ndsZ z) with
      | false =>
        refine iteT ⟨by show 1 ≤ 1000; decide, mk_keep (.inl rfl) fun d H' s' nd ed => ?_⟩
        exact q2 (near_bad ho) d H' (s1.trans (s2.trans s')) ((s1.trans s2).free nd) ed
      | true =>
        obtain ⟨t, ht, et, en, hd, hok, hst, r1, r2⟩ := near_good ho
        have hg : GoodN (nodesIn z) := by rw [← et]; exact ht.2
        have hl : (nodesIn z).length ≤ 40 := by
          unfold okB at hok
          rw [Bool.and_eq_true, decide_eq_true_eq] at hok
          exact hok.1
        refine iteF ⟨_, rfl, p, ys, nodesIn z, textOf t, rfl, e2, N2, hg, hd, by rw [N1.length]; omega, hst, fun H3 s3 => ⟨_, rfl, rfl, _, rfl, ?_⟩⟩
        have s03 := s1.trans (s2.trans s3)
        by_cases etz : textOf t = z
        · refine iteF' (by rw [etz]; simp) ⟨rfl, _, rfl, fun x dx nx nd ne => ?_⟩
          have N3 := N2.tk (stk s3)
          have e3 := (stk s3).seq e2
          have u3 : Same H3 (upd (upd H3 dx (.own x)) x (.ins C dx [])) := fun b' o' eb => by
            rw [upd_ne (ne_of_none eb nx), upd_ne (ne_of_none eb nd)]
            exact eb
          refine ⟨x, dx, .ref p, okB (nodesIn z), rfl, upd_same, (good_W e3 N3 hg).ku (ku_same u3), fun eb H4 bt e4 => ⟨rfl, ?_⟩, fun eb H4 s4 => ?_⟩
          · obtain ⟨s5, pr⟩ := made_steps nx nd e3 N3 hg bt e4
            exact q1 t (r1 etz) x H4 (s03.trans s5) (s03.free nx) (by rw [et]; exact pr)
          · rw [hok] at eb
            cases eb
        · refine iteT' (by simpa using etz) ⟨by show 1 ≤ 1000; decide, mk_keep (.inl rfl) fun d H' s' nd ed => ?_⟩
          exact q2 (r2 etz) d H' (s03.trans s') (s03.free nd) ed
end
end Eh

set_option Elab.async false
set_option linter.all false
set_option maxRecDepth 100000
set_option maxHeartbeats 4000000
/-! The law's pieces. -/
namespace Eh
open PySem PySem.Spec PyProof.Rows L2
open TL
theorem len_tl (z : Str) : (tl z).length = z.length := by simp [Str.length]
theorem cut_ab (z : Str) (a b : Nat) : tl (cutS z (some (a : Int)) (some (b : Int))) = ((tl z).drop a).take (b - a) := by
  unfold cutS
  rw [HT.sIx_nat, HT.sIx_nat]
  show ((tl z).drop (min a z.length)).take (min b z.length - min a z.length) = _
  rw [← len_tl]
  by_cases ha : a ≤ (tl z).length
  · rw [Nat.min_eq_left ha]
    by_cases hb : b ≤ (tl z).length
    · rw [Nat.min_eq_left hb]
    · rw [Nat.min_eq_right (by omega), List.take_of_length_le (by rw [List.length_drop]; exact Nat.le_refl _), List.take_of_length_le (by rw [List.length_drop]; omega)]
  · rw [Nat.min_eq_right (show (tl z).length ≤ a by omega), List.drop_length, List.drop_of_length_le (show (tl z).length ≤ a by omega), List.take_nil, List.take_nil]
theorem cut_a (z : Str) (a : Nat) : tl (cutS z (some (a : Int)) none) = (tl z).drop a := by
  unfold cutS
  rw [HT.sIx_nat, HT.sIx_none]
  show ((tl z).drop (min a z.length)).take (z.length - min a z.length) = _
  rw [← len_tl]
  by_cases ha : a ≤ (tl z).length
  · rw [Nat.min_eq_left ha, List.take_of_length_le (by rw [List.length_drop]; exact Nat.le_refl _)]
  · rw [Nat.min_eq_right (by omega), List.drop_length, List.drop_of_length_le (by omega), List.take_nil]
theorem cut_b (z : Str) (b : Nat) : tl (cutS z none (some (b : Int))) = (tl z).take b := by
  unfold cutS
  rw [HT.sIx_nat, HT.sIx_none]
  show ((tl z).drop 0).take (min b z.length - 0) = _
  rw [← len_tl, List.drop_zero, Nat.sub_zero]
  by_cases hb : b ≤ (tl z).length
  · rw [Nat.min_eq_left hb]
  · rw [Nat.min_eq_right (by omega), List.take_of_length_le (Nat.le_refl _), List.take_of_length_le (by omega)]
theorem six_neg (n d k : Nat) (h : 0 < k) : HT.sIx n d (some (-(k : Int))) = n - k := by
  show (if -(k : Int) < 0 then (-(k : Int) + (n : Int)).toNat else min (-(k : Int)).toNat n) = n - k
  rw [if_pos (by omega)]
  omega
theorem cut_last (z : Str) : tl (cutS z (some (-1)) none) = (tl z).drop ((tl z).length - 1) := by
  unfold cutS
  rw [show (-1 : Int) = -((1 : Nat) : Int) from rfl, six_neg _ _ 1 (by decide), HT.sIx_none]
  show ((tl z).drop (z.length - 1)).take (z.length - (z.length - 1)) = _
  rw [← len_tl, List.take_of_length_le (by rw [List.length_drop]; exact Nat.le_refl _)]
theorem cut_inner (z : Str) : tl (cutS z (some 1) (some (-1))) = innerL (tl z) := by
  unfold cutS innerL
  rw [show (-1 : Int) = -((1 : Nat) : Int) from rfl, six_neg _ _ 1 (by decide), show (1 : Int) = ((1 : Nat) : Int) from rfl, HT.sIx_nat]
  show ((tl z).drop (min 1 z.length)).take (z.length - 1 - min 1 z.length) = _
  rw [← len_tl]
  by_cases h : 1 ≤ (tl z).length
  · rw [Nat.min_eq_left h, show (tl z).length - 1 - 1 = (tl z).length - 2 by omega]
  · have e : tl z = [] := List.length_eq_zero_iff.mp (by omega)
    rw [e]
    rfl
section
variable {P : Program} {w : World} {K : PySem.W.Frag} {mg : Str → Option Value} {base : Heap}
def strsOf (ls : List (List Nat)) : List V := ls.map fun l => V.str (sOf l)
def spPieces : Sp := fun vs H Q _ => ∃ z sg c, vs = [.str z, .str sg] ∧ tl sg = [c] ∧ z.length ≤ 9000 ∧ ∀ l H', Same H H' → H l = none → H' l = some (.lst (strsOf (piecesL c (tl z)))) → Q (.ref l) H'
theorem scan_count (sg : Nat) : ∀ (r cur : List Nat) (d : Int) (sk : Nat), (scanL sg cur d sk r).length ≤ r.length + 1
  | [], cur, d, sk => by rw [scanL]; exact Nat.le_refl _
  | c :: r, cur, d, sk => by
    rw [scanL, List.length_cons]
    split
    · have := scan_count sg r (addC cur sk c) (d + 1) (sk - 1); omega
    · split
      · have := scan_count sg r (addC cur sk c) (d - 1) (sk - 1); omega
      · split
        · have := scan_count sg r [] d 2
          rw [List.length_cons]
          omega
        · have := scan_count sg r (addC cur sk c) d (sk - 1); omega
theorem cur_step {xs : List Nat} {i st c : Nat} (h : xs[i]? = some c) : addC ((xs.drop st).take (i - st)) (st - i) c = (xs.drop st).take (i + 1 - st) := by
  unfold addC
  by_cases hs : st ≤ i
  · rw [if_pos (by omega), show i + 1 - st = (i - st) + 1 by omega]
    refine (take_succ' ?_).symm
    rw [List.getElem?_drop, show st + (i - st) = i by omega]
    exact h
  · rw [if_neg (by omega), show i - st = 0 by omega, show i + 1 - st = 0 by omega]
theorem ok_pieces {f : Addr} {fd : FuncData} (F : Fun K "_law_pieces" "_law_pieces" s__law_pieces f fd) (T : Txt mg) : FnOk P w K mg base CX0 1 f fd ["text", "sign"] spPieces := by
  refine F.ok sc__law_pieces (fun vs H Q E h => ?_) (fun cdv A outer s H vs Q E hr h => ?_)
  · obtain ⟨z, sg, c, rfl, _⟩ := h
    rfl
  · obtain ⟨z, sg, c, rfl, hsg, hz, q⟩ := h
    refine ⟨_, (pss_cons (ps_par3 (i := 2) (j := 3) (l := 4) (by rfl) sc__law_pieces.nd rfl rfl rfl (by decide) (by decide) (by decide) (by rfl) (by rfl) (by rfl) (pa_cons (pe_lst pa_nil) (pa_cons pe_int (pa_cons pe_int pa_nil))) (by rfl))
  (pss_cons (ps_for PassesOwn.never (by rfl) (pi_range1 (by rfl) T.range_ (pa_cons (pe_callB (lenQ (K := K) rfl) (by rfl) T.len_ (by decide +kernel) (pa_cons (pv 0) pa_nil)) pa_nil)) (pg_name (i := 5) sc__law_pieces.nd rfl (.inl rfl))
  (pss_one (ps_if (pt_cmpR op_in_sign (pe_ix ix_str (pv 0) (pv 5) (fun _ _ => rfl)) pe_str (by rfl))
  (pss_one (ps_set (i := 4) sc__law_pieces.nd rfl (.inl rfl) (pe_op op_add (pv 4) pe_int)))
  (pss_one (ps_if (pt_cmpR op_in_sign (pe_ix ix_str (pv 0) (pv 5) (fun _ _ => rfl)) pe_str (by rfl))
  (pss_one (ps_set (i := 4) sc__law_pieces.nd rfl (.inl rfl) (pe_op op_sub (pv 4) pe_int)))
  (pss_one (ps_if (PW.pt (pw_and (pt_cmpR op_eq (pv 4) pe_int (nomark _)) (pw_and (pt_cmpR op_ge (pv 5) (pv 3) (nomark _)) (pw_and1 (pt_cmpR op_eq (pe_slice sl_str (pv 0) (po_some (pv 5)) (po_some (pe_op op_add (pv 5) pe_int))) (pe_op op_add_str (pe_op op_add_str pe_str (pv 1)) pe_str) (nomark _))))))
  (pss_cons (ps_expr (bmK (K := K) rfl (pe_bm PySem.F.plainAttrs_list PySem.F.slot_list_append PySem.F.type_list_append mt_append (pv 2) (pa_cons (pe_slice sl_str (pv 0) (po_some (pv 3)) (po_some (pv 5))) pa_nil))))
  (pss_one (ps_set (i := 3) sc__law_pieces.nd rfl (.inl rfl) (pe_op op_add (pv 5) pe_int))))
  pss_nil)))))))
  (pss_one (ps_ret (pe_op op_cat (pv 2) (pe_lst (pa_cons (pe_slice sl_str (pv 0) (po_some (pv 3)) po_none) pa_nil))))))), ?_⟩
    have hl := len_tl z
    refine ⟨Nat.zero_le _, fun l nl => ?_⟩
    have s1 : Same H (upd H l (.lst [])) := same_new nl
    have nlH : H l = none := nl
    have small9 : ∀ n : Nat, n ≤ 20000 → n ≤ sizeLine := fun n hn => Nat.le_of_lt (small (by omega))
    refine ⟨_, _, _, rfl, _, rfl, .inr ⟨z, rfl, small9 _ (by omega), _, rfl, by omega, by omega, ?_⟩⟩
    refine for_range (lo := 0) (n := z.length) (fun i σ H2 => ∃ (st : Nat) (dp : Int) (fs : List (List Nat)) (x5 : Option V), σ = [some (.str z), some (.str sg), some (.ref l), some (.int (st : Int)), some (.int dp), x5] ∧ Same H H2 ∧ H2 l = some (.lst (strsOf fs)) ∧ st ≤ z.length ∧ fs.length ≤ i ∧
      piecesL c (tl z) = fs ++ scanL c (((tl z).drop st).take (i - st)) dp (st - i) ((tl z).drop i)) ?_ ?_ ?_
    · exact ⟨0, 0, [], none, rfl, s1, upd_same, Nat.zero_le _, Nat.le_refl _, rfl⟩
    · rintro i σ H2 hi ⟨st, dp, fs, x5, rfl, s2, e2, hst, hfs, hp⟩
      have hc : ∃ ch, (tl z)[i]? = some ch := ⟨_, List.getElem?_eq_getElem (by omega)⟩
      obtain ⟨ch, hch⟩ := hc
      have hdr : (tl z).drop i = ch :: (tl z).drop (i + 1) := drop_at hch
      have ei : ((0 : Int) + (i : Int)) = (i : Int) := Int.zero_add _
      rw [ei]
      have hat : atI z.cps.toList (i : Int) = some ch := atI_nat hch
      have opE : opn ch = decide (ch ∈ ("([" : Str).cps.toList) := by
        rw [show ("([" : Str).cps.toList = [40, 91] from by decide +kernel]
        unfold opn
        simp [Bool.decide_or, Bool.beq_eq_decide_eq]
      have clE : cls2 ch = decide (ch ∈ (")]" : Str).cps.toList) := by
        rw [show (")]" : Str).cps.toList = [41, 93] from by decide +kernel]
        unfold cls2
        simp [Bool.decide_or, Bool.beq_eq_decide_eq]
      have hcur := cur_step (st := st) hch
      have hsk : st - i - 1 = st - (i + 1) := by omega
      have hp' := hp
      rw [hdr, scanL] at hp'
      have keepN : ∀ {dp' : Int}, piecesL c (tl z) = fs ++ scanL c (addC (((tl z).drop st).take (i - st)) (st - i) ch) dp' (st - i - 1) ((tl z).drop (i + 1)) → ∃ (st' : Nat) (dp'' : Int) (fs' : List (List Nat)) (x5 : Option V), [some (V.str z), some (.str sg), some (.ref l), some (.int (st : Int)), some (.int dp'), some (.int (i : Int))] = [some (.str z), some (.str sg), some (.ref l), some (.int (st' : Int)), some (.int dp''), x5] ∧ Same H H2 ∧ H2 l = some (.lst (strsOf fs')) ∧ st' ≤ z.length ∧ fs'.length ≤ i + 1 ∧
          piecesL c (tl z) = fs' ++ scanL c (((tl z).drop st').take (i + 1 - st')) dp'' (st' - (i + 1)) ((tl z).drop (i + 1)) := fun {dp'} h => by
        rw [hcur, hsk] at h
        exact ⟨st, dp', fs, _, rfl, s2, e2, hst, by omega, h⟩
      refine ⟨_, rfl, _, rfl, z, _, ch, rfl, rfl, small9 _ (by omega), hat, ch, _, rfl, rfl, _, rfl, ?_⟩
      cases ho : opn ch with
      | true =>
        rw [if_pos ho] at hp'
        refine iteT' (by rw [← opE]; exact ho) ⟨_, rfl, _, _, rfl, rfl, keepN hp'⟩
      | false =>
        rw [if_neg (by rw [ho]; decide)] at hp'
        refine iteF' (by rw [← opE]; exact ho) ⟨_, rfl, _, rfl, z, _, ch, rfl, rfl, small9 _ (by omega), hat, ch, _, rfl, rfl, _, rfl, ?_⟩
        cases hq : cls2 ch with
        | true =>
          rw [if_pos hq] at hp'
          refine iteT' (by rw [← clE]; exact hq) ⟨_, rfl, _, _, rfl, rfl, keepN hp'⟩
        | false =>
          rw [if_neg (by rw [hq]; decide)] at hp'
          refine iteF' (by rw [← clE]; exact hq) ?_
          have eint : ∀ a b : Int, decide (V.int a = V.int b) = decide (a = b) := fun a b => by
            by_cases h : a = b
            · rw [h, decide_eq_true rfl, decide_eq_true rfl]
            · rw [decide_eq_false h, decide_eq_false fun e => h (by injection e)]
          refine ⟨_, rfl, rfl, _, rfl, ?_⟩
          rw [eint]
          by_cases h0 : dp = 0
          · rw [decide_eq_true h0]
            refine iteT ⟨_, rfl, _, rfl, _, _, rfl, rfl, _, rfl, ?_⟩
            by_cases h1 : st ≤ i
            · rw [decide_eq_true (show (st : Int) ≤ (i : Int) by omega)]
              refine iteT ?_
              refine ⟨_, rfl, _, rfl, _, rfl, _, rfl, _, _, rfl, rfl, _, rfl, z, rfl, small9 _ (by omega), ?_⟩
              have lsg : sg.length = 1 := by rw [← len_tl, hsg]; rfl
              have l1 : ((" " : Str) ++ sg).length = 2 := by rw [← len_tl, tl_append, hsg, show tl " " = [32] from by decide +kernel]; rfl
              refine ⟨_, rfl, " ", sg, rfl, rfl, small9 _ (by rw [lsg]; decide +kernel), _, " ", rfl, rfl, small9 _ (by rw [l1]; decide +kernel), rfl, _, rfl, ?_⟩
              have ecut : tl (cutS z (some (i : Int)) (some ((i : Int) + 3))) = (ch :: (tl z).drop (i + 1)).take 3 := by
                rw [show (i : Int) + 3 = ((i + 3 : Nat) : Int) from rfl, cut_ab, hdr, show i + 3 - i = 3 by omega]
              have esg : tl ((" " : Str) ++ sg ++ " ") = [32, c, 32] := by
                rw [tl_append, tl_append, hsg, show tl " " = [32] from by decide +kernel]
                rfl
              by_cases h3 : (ch :: (tl z).drop (i + 1)).take 3 = [32, c, 32]
              · have e3 : cutS z (some (i : Int)) (some ((i : Int) + 3)) = (" " : Str) ++ sg ++ " " := tl_inj (by rw [ecut, esg, h3])
                refine iteT' (by rw [e3]; exact decide_eq_true rfl) ?_
                rw [if_pos ⟨h0, by omega, h3⟩] at hp'
                have l3 : i + 3 ≤ z.length := by
                  have := congrArg List.length h3
                  rw [List.length_take, ← hdr, List.length_drop, hl] at this
                  simp at this
                  omega
                have lf : (strsOf fs).length = fs.length := List.length_map ..
                refine ⟨_, rfl, .inl ⟨rfl, _, SqL.of e2⟩, _, rfl, _, rfl, _, rfl, _, rfl, _, rfl, z, rfl, small9 _ (by omega), l, _, _, rfl, rfl, e2, small (by rw [lf]; omega), ?_⟩
                refine ⟨_, rfl, _, _, rfl, rfl, i + 3, dp, fs ++ [((tl z).drop st).take (i - st)], _, rfl, ?_, ?_, l3, by rw [List.length_append, List.length_singleton]; omega, ?_⟩
                · exact fun b o eb => by
                    rw [upd_ne (ne_of_none eb nlH)]
                    exact s2 b o eb
                · have es : sOf (((tl z).drop st).take (i - st)) = cutS z (some (st : Int)) (some (i : Int)) := tl_inj (by rw [cut_ab]; rfl)
                  unfold strsOf
                  rw [List.map_append, List.map_singleton, es]
                  exact upd_same
                · rw [hp', h0, List.append_assoc, show i + 1 - (i + 3) = 0 by omega, List.take_zero, show i + 3 - (i + 1) = 2 by omega]
                  rfl
              · have e3 : ¬ (V.str (cutS z (some (i : Int)) (some ((i : Int) + 3))) = V.str ((" " : Str) ++ sg ++ " ")) := fun e => h3 (by
                  injection e with e
                  rw [← ecut, e, esg])
                refine iteF' (decide_eq_false e3) ?_
                rw [if_neg (by rintro ⟨_, _, h⟩; exact h3 h)] at hp'
                exact keepN hp'
            · rw [decide_eq_false (show ¬ (st : Int) ≤ (i : Int) by omega)]
              refine iteF ?_
              rw [if_neg (by rintro ⟨_, h, _⟩; omega)] at hp'
              exact keepN hp'
          · rw [decide_eq_false h0]
            refine iteF ?_
            rw [if_neg (by rintro ⟨h, _⟩; exact h0 h)] at hp'
            exact keepN hp'
    · rintro σ H2 ⟨st, dp, fs, x5, rfl, s2, e2, hst, hfs, hp⟩
      have ed : (tl z).drop z.length = [] := by rw [← hl, List.drop_length]
      rw [ed, scanL, List.take_of_length_le (by rw [List.length_drop]; omega)] at hp
      refine ⟨_, rfl, _, rfl, _, rfl, _, rfl, z, rfl, small9 _ (by omega), ?_⟩
      have es : sOf ((tl z).drop st) = cutS z (some (st : Int)) none := tl_inj (by rw [cut_a]; rfl)
      have lf : (strsOf fs).length = fs.length := List.length_map ..
      refine ⟨lenOk 1, fun p np => ?_⟩
      have nlp : p ≠ l := fun e => by rw [e, e2] at np; cases np
      refine ⟨l, p, _, _, rfl, rfl, by rw [upd_ne nlp.symm]; exact e2, upd_same, small9 _ (by rw [lf]; show fs.length + 1 ≤ 20000; omega), fun p6 n6 => ?_⟩
      have s6 : Same H2 (upd (upd H2 p (.lst [V.str (cutS z (some (st : Int)) none)])) p6 (.lst (strsOf fs ++ [V.str (cutS z (some (st : Int)) none)]))) := (same_new np).trans (same_new n6)
      refine q p6 _ (s2.trans s6) ((s2.trans (same_new np)).free n6) ?_
      rw [hp, ← es]
      unfold strsOf
      rw [List.map_append]
      exact upd_same
end
end Eh

set_option Elab.async false
set_option linter.all false
set_option maxRecDepth 100000
set_option maxHeartbeats 4000000
/-! The law's reading of a string in brackets. -/
namespace Eh
open PySem PySem.Spec PyProof.Rows L2
open TL
/-! ### None not in a list of tuples and Nones -/
def isNon : V → Bool
  | .non => true
  | _ => false
def isNoneU : Value → Bool
  | .none => true
  | _ => false
def NonTup (K : PySem.W.Frag) (H : Hp) (v : V) : Prop := v = .non ∨ ∃ a ys, v = .ref a ∧ SqT K H a ys
def rNoN (K : PySem.W.Frag) : R2 := fun x y H Q => ∃ p xs, x = .non ∧ y = .ref p ∧ SqL K H p xs ∧ (∀ v ∈ xs, NonTup K H v) ∧ Q (.bl (!xs.any isNon)) H
theorem none_any {K : PySem.W.Frag} {H : Hp} : ∀ {xs : List V} {us : List Value}, Vals xs us → (∀ v ∈ xs, NonTup K H v) → us.any isNoneU = xs.any isNon
  | _, _, .nil, _ => rfl
  | v :: xs, u :: us, .cons r t, h => by
    rw [List.any_cons, List.any_cons, none_any t fun w hw => h w (List.mem_cons_of_mem _ hw)]
    rcases h v List.mem_cons_self with rfl | ⟨a, ys, rfl, _⟩
    · cases r; rfl
    · cases r; rfl
theorem op_noN {X : Cx} (hu : X.A.units + 1 < cLine) : OpR X (compareOp .NotIn) (rNoN X.K) := by
  intro pins s σ H x y v u Q I rx ry h
  obtain ⟨p, xs, rfl, rfl, hq, hx, q⟩ := h
  cases ry
  cases rx
  obtain ⟨its, r, pl, hz⟩ := I.list hq
  have each : ∀ w ∈ its, SeqAt.EqAt X.A.in1 s w .none (isNoneU w) := by
    clear hz pl hq q
    induction r with
    | nil => intro w hw; cases hw
    | cons r t ih =>
      rename_i v' u' xs' us'
      intro w hw
      rcases List.mem_cons.mp hw with rfl | hw
      · rcases hx v' List.mem_cons_self with rfl | ⟨a, ys, rfl, hs⟩
        · cases r
          exact eqAt_V (x := .non) (y := .non) rfl rfl rfl rfl
        · cases r
          obtain ⟨i2, r2, p2, _⟩ := I.tuple hs
          exact SeqAt.EqAt.tuple_none p2 hu
      · exact ih (fun v hv => hx v (List.mem_cons_of_mem _ hv)) w hw
  refine SeqAt.notIn_listAt isNoneU pl.isList (fun w hw => each w (by simpa using hw)) ⟨.bl _, H, I, rfl, ?_⟩
  rw [show its.toArray.any isNoneU = its.any isNoneU by simp, none_any r hx]
  exact q
theorem noN {X : Cx} {K : PySem.W.Frag} (h : X.K = K) (hu : X.A.units + 1 < cLine) : OpR X (compareOp .NotIn) (rNoN K) := by subst h; exact op_noN hu
/-! ### what is read -/
def TupO (K : PySem.W.Frag) (H : Hp) (v : V) : Option Pl → Prop
  | none => v = .non
  | some p => At K H v p
theorem TupO.tk {K : PySem.W.Frag} {H H' : Hp} (t : Tk H H') {v : V} : ∀ {o : Option Pl}, TupO K H v o → TupO K H' v o
  | none, h => h
  | some p, h => At.tk t h
theorem TupO.nonTup {K : PySem.W.Frag} {H : Hp} {v : V} : ∀ {o : Option Pl}, TupO K H v o → NonTup K H v ∧ isNon v = o.isNone
  | none, h => by
    have h : v = .non := h
    subst h
    exact ⟨.inl rfl, rfl⟩
  | some p, h => by
    have h : At K H v p := h
    cases h with
    | leaf h2 o => exact ⟨.inr ⟨_, _, rfl, h2⟩, rfl⟩
    | node h2 _ _ _ _ _ => exact ⟨.inr ⟨_, _, rfl, h2⟩, rfl⟩
inductive TupOs (K : PySem.W.Frag) (H : Hp) : List V → List (Option Pl) → Prop
  | nil : TupOs K H [] []
  | cons {v : V} {vs : List V} {o : Option Pl} {os : List (Option Pl)} : TupO K H v o → TupOs K H vs os → TupOs K H (v :: vs) (o :: os)
theorem TupOs.tk {K : PySem.W.Frag} {H H' : Hp} (t : Tk H H') : ∀ {vs : List V} {os : List (Option Pl)}, TupOs K H vs os → TupOs K H' vs os
  | _, _, .nil => .nil
  | _, _, .cons h r => .cons (h.tk t) (r.tk t)
theorem TupOs.snoc {K : PySem.W.Frag} {H : Hp} {v : V} {o : Option Pl} (h : TupO K H v o) : ∀ {vs : List V} {os : List (Option Pl)}, TupOs K H vs os → TupOs K H (vs ++ [v]) (os ++ [o])
  | _, _, .nil => .cons h .nil
  | _, _, .cons k r => .cons k (r.snoc h)
theorem TupOs.length {K : PySem.W.Frag} {H : Hp} : ∀ {vs : List V} {os : List (Option Pl)}, TupOs K H vs os → vs.length = os.length
  | _, _, .nil => rfl
  | _, _, .cons _ r => by rw [List.length_cons, List.length_cons, r.length]
theorem TupOs.non {K : PySem.W.Frag} {H : Hp} : ∀ {vs : List V} {os : List (Option Pl)}, TupOs K H vs os → (∀ v ∈ vs, NonTup K H v) ∧ (!vs.any isNon) = os.all Option.isSome
  | _, _, .nil => ⟨fun v hv => (nomatch hv), rfl⟩
  | _, _, .cons (v := v) (o := o) h r => by
    obtain ⟨a, b⟩ := r.non
    obtain ⟨c, d⟩ := h.nonTup
    refine ⟨fun w hw => ?_, ?_⟩
    · rcases List.mem_cons.mp hw with rfl | hw
      · exact c
      · exact a w hw
    · rw [List.any_cons, List.all_cons, d, Bool.not_or, b]
      cases o <;> rfl
theorem TupOs.all {K : PySem.W.Frag} {H : Hp} : ∀ {vs : List V} {os : List (Option Pl)}, TupOs K H vs os → os.all Option.isSome = true → AtAll K H vs (os.filterMap id)
  | _, _, .nil, _ => .nil
  | _, _, .cons (o := none) h r, e => by cases e
  | _, _, .cons (o := some p) h r, e => by
    rw [List.all_cons, Bool.and_eq_true] at e
    exact .cons h (r.all e.2)
def partsF : Nat → List Nat → Option Pl
  | 0, _ => none
  | n + 1, s => partsR (readN n) s
theorem readN_eq (n : Nat) (s : List Nat) : readN n s = if isParts s = true then partsF n s else leafR s := by
  cases n <;> rfl
theorem scan_len (sg : Nat) : ∀ (r cur : List Nat) (d : Int) (sk : Nat), ∀ x ∈ scanL sg cur d sk r, x.length ≤ cur.length + r.length
  | [], cur, d, sk, x, h => by
    rw [scanL] at h
    rw [List.mem_singleton.mp h]
    exact Nat.le_add_right _ _
  | c :: r, cur, d, sk, x, h => by
    have ha : (addC cur sk c).length ≤ cur.length + 1 := by
      unfold addC
      split
      · rw [List.length_append, List.length_singleton]; exact Nat.le_refl _
      · omega
    rw [List.length_cons]
    rw [scanL] at h
    split at h
    · have := scan_len sg r _ _ _ x h; omega
    · split at h
      · have := scan_len sg r _ _ _ x h; omega
      · split at h
        · rcases List.mem_cons.mp h with rfl | h
          · omega
          · have := scan_len sg r _ _ _ x h
            rw [List.length_nil] at this
            omega
        · have := scan_len sg r _ _ _ x h; omega
/-- the list of the signs and kinds -/
def RowsAt (H : Hp) (xs : List V) (rows : List (Nat × Str)) : Prop := xs.length = rows.length ∧ ∀ (i : Nat) (x : V), xs[i]? = some x → ∃ r g c k, x = V.ref r ∧ H r = some (.lst [.str g, .str k]) ∧ tl g = [c] ∧ rows[i]? = some (c, k) ∧ nodeKinds.contains k = true
theorem RowsAt.same {H H' : Hp} {xs : List V} {rows : List (Nat × Str)} (s : Same H H') (h : RowsAt H xs rows) : RowsAt H' xs rows := ⟨h.1, fun i x e => by
  obtain ⟨r, g, c, k, a, b, d⟩ := h.2 i x e
  exact ⟨r, g, c, k, a, s _ _ b, d⟩⟩
theorem rows_two {H : Hp} {r1 r2 : Addr} {g1 g2 k1 k2 : Str} {c1 c2 : Nat} (e1 : H r1 = some (.lst [.str g1, .str k1])) (e2 : H r2 = some (.lst [.str g2, .str k2])) (t1 : tl g1 = [c1]) (t2 : tl g2 = [c2]) (n1 : nodeKinds.contains k1 = true) (n2 : nodeKinds.contains k2 = true) : RowsAt H [.ref r1, .ref r2] [(c1, k1), (c2, k2)] := by
  refine ⟨rfl, fun i x e => ?_⟩
  match i, e with
  | 0, e => exact ⟨r1, g1, c1, k1, (Option.some.inj e).symm, e1, t1, rfl, n1⟩
  | 1, e => exact ⟨r2, g2, c2, k2, (Option.some.inj e).symm, e2, t2, rfl, n2⟩
  | i + 2, e => simp at e
section
variable {P : Program} {w : World} {K : PySem.W.Frag} {mg : Str → Option Value} {base : Heap}
def spReadL (K : PySem.W.Frag) (m : Nat) : Sp := fun vs H Q _ => ∃ z, vs = [.str z] ∧ z.length < 2 * m ∧ z.length ≤ 9000 ∧ ∀ v H', Same H H' → TupO K H' v (readN (m - 1) (tl z)) → Q v H'
def spPartsL (K : PySem.W.Frag) (m : Nat) : Sp := fun vs H Q _ => ∃ z, vs = [.str z] ∧ z.length < 2 * (m + 1) ∧ z.length ≤ 9000 ∧ ∀ v H', Same H H' → TupO K H' v (partsF m (tl z)) → Q v H'
theorem ok_read_parts {fP fR f : Addr} {fdP fdR fd : FuncData} (F : Fun K "_law_read_parts" "_law_read_parts" s__law_read_parts f fd) (T : Txt mg) (C__law_pieces : Cal P w K mg base 1 "_law_pieces" fP fdP ["text", "sign"] spPieces) {m : Nat}
    (C__law_read : Cal P w K mg base (2 * m + 2) "_law_read" fR fdR ["text"] (spReadL K m)) : FnOk P w K mg base CX0 (2 * m + 3) f fd ["text"] (spPartsL K m) := by
  refine F.ok sc__law_read_parts (fun vs H Q E h => ?_) (fun cdv A outer s H vs Q E hr h => ?_)
  · obtain ⟨z, rfl, _⟩ := h
    rfl
  · obtain ⟨z, rfl, hm, hz, q⟩ := h
    have hr1 := hr.mono (j := 1) (by omega)
    refine ⟨_, (pss_cons (ps_if (pt_cmpR (niQ (K := K) rfl) (pe_op op_add_str (pe_slice sl_str (pv 0) po_none (po_some pe_int)) (pe_slice sl_str (pv 0) (po_some (pe_un un_neg pe_int)) po_none)) (pe_lst (pa_cons pe_str (pa_cons pe_str pa_nil))) (by rfl))
  (pss_one (ps_ret pe_non))
  pss_nil)
  (pss_cons (ps_set (i := 1) sc__law_read_parts.nd rfl (.inl rfl) (pe_ifExp (pt_cmpR op_eq (pe_ix ix_str (pv 0) pe_int (fun _ _ => rfl)) pe_str (nomark _)) (pe_lst (pa_cons (pe_lst (pa_cons pe_str (pa_cons pe_str pa_nil))) (pa_cons (pe_lst (pa_cons pe_str (pa_cons pe_str pa_nil))) pa_nil))) (pe_lst (pa_cons (pe_lst (pa_cons pe_str (pa_cons pe_str pa_nil))) (pa_cons (pe_lst (pa_cons pe_str (pa_cons pe_str pa_nil))) pa_nil)))))
  (pss_cons (ps_for PassesOwn.never (by rfl) (piL (K := K) rfl (pv 1)) (pg_lst (by rfl) (pgs_cons (pg_name (i := 2) sc__law_read_parts.nd rfl (.inl rfl)) (pgs_cons (pg_name (i := 3) sc__law_read_parts.nd rfl (.inl rfl)) pgs_nil)))
  (pss_cons (ps_set (i := 4) sc__law_read_parts.nd rfl (.inl rfl) (pe_call C__law_pieces.G hr1 (by rfl) C__law_pieces.m C__law_pieces.k C__law_pieces.b .nil pass0 (pa_cons (pe_slice sl_str (pv 0) (po_some pe_int) (po_some (pe_un un_neg pe_int))) (pa_cons (pv 2) pa_nil))))
  (pss_cons (ps_setLc (i := 5) (own := [("piece", 6)]) (g := gName 6) (by rfl) sc__law_read_parts.nd rfl rfl (sw_true rfl rfl rfl (by decide +kernel)) (piL (K := K) rfl (pv 4)) (blkOk_by (by kernel_rfl)) (fun _ _ _ _ _ => (pg_name (i := 6) sc__law_read_parts.nd rfl (.inl rfl))) (fun _ _ _ _ _ => pts_nil) (fun _ _ _ _ _ => (pe_call C__law_read.G hr (by rfl) C__law_read.m C__law_read.k C__law_read.b .nil pass0 (pa_cons (pv 6) pa_nil))))
  (pss_one (ps_if (PW.pt (pw_and (pt_chain op_le op_le pe_int (pe_callB (lenQ (K := K) rfl) (by rfl) T.len_ (by decide +kernel) (pa_cons (pv 4) pa_nil)) pe_int) (pw_and1 (pt_cmpR (noN (K := K) rfl (hu1e hr)) pe_non (pv 5) (by rfl)))))
  (pss_one (ps_ret (pe_tup (pa_cons (pv 3) (pa_cons (pe_callTy call_tuple_of (by rfl) T.tuple_ (by decide +kernel) (pa_cons (pv 5) pa_nil)) pa_nil)))))
  pss_nil)))))
  (pss_one (ps_ret pe_non))))), ?_⟩
    have hl := len_tl z
    have small9 : ∀ n : Nat, n ≤ 20000 → n ≤ sizeLine := fun n hn => Nat.le_of_lt (small (by omega))
    refine ⟨_, rfl, _, rfl, z, rfl, small9 _ (by omega), _, rfl, _, rfl, _, rfl, z, rfl, small9 _ (by omega), ?_⟩
    have le1 : (cutS z none (some 1)).length ≤ 9000 := by
      rw [← len_tl, show (1 : Int) = ((1 : Nat) : Int) from rfl, cut_b, List.length_take]
      omega
    have le2 : (cutS z (some (-1)) none).length ≤ 9000 := by
      rw [← len_tl, cut_last, List.length_drop]
      omega
    refine ⟨_, _, rfl, rfl, small9 _ (by show (cutS z none (some 1)).length + (cutS z (some (-1)) none).length ≤ 20000; omega), lenOk 2, fun l1 n1 => ?_⟩
    have s1 : Same H (upd H l1 (.lst ((["()", "[]"] : List Str).map V.str))) := same_new n1
    refine ⟨l1, (["()", "[]"] : List Str).map V.str, rfl, .inl (SqL.of upd_same), rfl, flat_strs _, _, rfl, ?_⟩
    have et : tl (cutS z none (some 1) ++ cutS z (some (-1)) none) = (tl z).take 1 ++ (tl z).drop ((tl z).length - 1) := by
      rw [tl_append, cut_last, show (1 : Int) = ((1 : Nat) : Int) from rfl, cut_b]
    have eb : (["()", "[]"] : List Str).contains (cutS z none (some 1) ++ cutS z (some (-1)) none) = endsB (tl z) := by
      unfold endsB
      rw [← et]
      have two : ∀ (u : Str) (l : List Nat), tl u = l → ∀ y : Str, (y == u) = decide (tl y = l) := fun u l e y => by
        by_cases h : y = u
        · rw [h, e, decide_eq_true rfl]
          exact beq_self_eq_true u
        · rw [decide_eq_false fun q => h (tl_inj (q.trans e.symm))]
          exact beq_eq_false_iff_ne.mpr h
      rw [List.contains_cons, List.contains_cons, List.contains_nil, Bool.or_false, two "()" [40, 41] (by decide +kernel), two "[]" [91, 93] (by decide +kernel)]
    have ei := (inV_strs (cutS z none (some 1) ++ cutS z (some (-1)) none) ["()", "[]"]).trans eb
    cases he : endsB (tl z) with
    | false =>
      rw [he] at ei
      refine iteT' (show (!inV _ _) = true by rw [ei]; rfl) (q .non _ s1 ?_)
      cases m with
      | zero => exact rfl
      | succ n =>
        show TupO K _ .non (partsR (readN n) (tl z))
        unfold partsR
        rw [he, if_neg (by decide)]
        exact rfl
    | true =>
      rw [he] at ei
      refine iteF' (show (!inV _ _) = false by rw [ei]; rfl) ?_
      obtain ⟨mid, esm, eim⟩ := ends_form he
      have hlen : (tl z).length = mid.length + 2 := by
        rcases esm with e | e <;> (rw [e]; simp)
      obtain ⟨n, rfl⟩ : ∃ n, m = n + 1 := ⟨m - 1, by omega⟩
      have eF : partsF (n + 1) (tl z) = tryRows (readN n) (innerL (tl z)) (rowsOf (tl z)) := by
        show partsR (readN n) (tl z) = _
        unfold partsR
        rw [he, if_pos rfl]
      rw [eF] at q
      obtain ⟨ch, hch⟩ : ∃ ch, (tl z)[0]? = some ch := ⟨_, List.getElem?_eq_getElem (by omega)⟩
      refine ⟨_, rfl, z, 0, ch, rfl, rfl, small9 _ (by omega), atI_nat (j := 0) hch, rfl, _, rfl, ?_⟩
      have hc40 : decide (V.str (⟨#[ch]⟩ : Str) = V.str "(") = decide ((tl z).take 1 = [40]) := by
        have e1 : (tl z).take 1 = [ch] := by
          cases hx : tl z with
          | nil => rw [hx] at hch; cases hch
          | cons a r => rw [hx] at hch; cases hch; rfl
        rw [e1]
        by_cases h : ch = 40
        · subst h
          rw [decide_eq_true (by rfl), decide_eq_true (by decide +kernel)]
        · rw [decide_eq_false (show ¬ [ch] = [40] by simpa using h), decide_eq_false]
          intro e
          injection e with e
          have := congrArg tl e
          rw [show tl ("(" : Str) = [40] from by decide +kernel] at this
          exact h (List.cons.inj this).1
      refine' join2 (C := fun (v : V) H1 => ∃ l xs, v = .ref l ∧ Same H H1 ∧ H1 l = some (.lst xs) ∧ RowsAt H1 xs (rowsOf (tl z))) (ha := ?ha) (hb := ?hb) (tail := ?tl)
      case ha =>
        intro hc tail
        rw [hc40, decide_eq_true_eq] at hc
        refine ⟨lenOk 2, fun r1 m1 => ⟨lenOk 2, fun r2 m2 => ⟨lenOk 2, fun l m3 => ?_⟩⟩⟩
        have t1 : Same _ (upd _ r1 (.lst [V.str "&", V.str "all"])) := same_new m1
        have t2 : Same _ (upd _ r2 (.lst [V.str "|", V.str "some"])) := same_new m2
        have t3 : Same _ (upd _ l (.lst [V.ref r1, V.ref r2])) := same_new m3
        show gName 1 (.ref l) ?ss ?hh ?kk
        have er : rowsOf (tl z) = ([(38, "all"), (124, "some")] : List (Nat × Str)) := by unfold rowsOf; rw [if_pos hc]
        have fin : ∃ l' xs, V.ref l = .ref l' ∧ Same H ?hh ∧ ?hh l' = some (.lst xs) ∧ RowsAt ?hh xs (rowsOf (tl z)) := by
          refine ⟨l, _, rfl, s1.trans (t1.trans (t2.trans t3)), upd_same, ?_⟩
          rw [er]
          exact rows_two (t3 _ _ (t2 _ _ upd_same)) (t3 _ _ upd_same) (by decide +kernel) (by decide +kernel) (by decide +kernel) (by decide +kernel)
        generalize ?hh = H9 at fin ⊢
        generalize V.ref l = v at fin ⊢
        exact tail v H9 fin
      case hb =>
        intro hc tail
        rw [hc40, decide_eq_false_iff_not] at hc
        refine ⟨lenOk 2, fun r1 m1 => ⟨lenOk 2, fun r2 m2 => ⟨lenOk 2, fun l m3 => ?_⟩⟩⟩
        have t1 : Same _ (upd _ r1 (.lst [V.str "+", V.str "mine"])) := same_new m1
        have t2 : Same _ (upd _ r2 (.lst [V.str "*", V.str "yours"])) := same_new m2
        have t3 : Same _ (upd _ l (.lst [V.ref r1, V.ref r2])) := same_new m3
        show gName 1 (.ref l) ?ss2 ?hh2 ?kk2
        have er : rowsOf (tl z) = ([(43, "mine"), (42, "yours")] : List (Nat × Str)) := by unfold rowsOf; rw [if_neg hc]
        have fin : ∃ l' xs, V.ref l = .ref l' ∧ Same H ?hh2 ∧ ?hh2 l' = some (.lst xs) ∧ RowsAt ?hh2 xs (rowsOf (tl z)) := by
          refine ⟨l, _, rfl, s1.trans (t1.trans (t2.trans t3)), upd_same, ?_⟩
          rw [er]
          exact rows_two (t3 _ _ (t2 _ _ upd_same)) (t3 _ _ upd_same) (by decide +kernel) (by decide +kernel) (by decide +kernel) (by decide +kernel)
        generalize ?hh2 = H9 at fin ⊢
        generalize V.ref l = v at fin ⊢
        exact tail v H9 fin
      intro v0 H1 hC
      obtain ⟨l, xs, rfl, s2, el, hrows⟩ := hC
      refine ⟨_, rfl, l, rfl, ⟨xs, SqL.of el⟩, for_list (K := K) (a := l) (xs := xs) (fun i σ H2 => ∃ x2 x3 x4 x5 x6, σ = [some (.str z), some (.ref l), x2, x3, x4, x5, x6] ∧ Same H1 H2 ∧ tryRows (readN n) (innerL (tl z)) (rowsOf (tl z)) = tryRows (readN n) (innerL (tl z)) ((rowsOf (tl z)).drop i)) ?_ (fun i σ H2 _ h => ?_) ?_ ?_⟩
      · exact ⟨none, none, none, none, none, rfl, Same.refl _, rfl⟩
      · obtain ⟨_, _, _, _, _, _, s3, _⟩ := h
        exact SqL.of (s3 _ _ el)
      · rintro i x σ H2 hi ⟨x2, x3, x4, x5, x6, rfl, s3, hT⟩
        obtain ⟨r, g, c, k, rfl, er, hg, hrow, hk⟩ := hrows.2 i x hi
        rw [drop_at hrow, tryRows] at hT
        refine ⟨r, _, rfl, SqL.of (s3 _ _ er), rfl, _, _, rfl, _, _, rfl, rfl, ?_⟩
        have lz : (cutS z (some 1) (some (-1))).length = (innerL (tl z)).length := by rw [← len_tl, cut_inner]
        have lz2 : (innerL (tl z)).length = mid.length := by rw [eim]
        refine ⟨_, rfl, _, rfl, _, rfl, _, rfl, z, rfl, small9 _ (by omega), _, rfl, cutS z (some 1) (some (-1)), g, c, rfl, hg, by omega, fun lp H3 s4 np ep => ?_⟩
        rw [cut_inner] at ep
        have hpl : (piecesL c (innerL (tl z))).length ≤ mid.length + 1 := by
          have := scan_count c (innerL (tl z)) [] 0 0
          show (scanL c [] 0 0 (innerL (tl z))).length ≤ _
          omega
        have hpe : ∀ y ∈ piecesL c (innerL (tl z)), y.length ≤ mid.length := fun y hy => by
          have := scan_len c (innerL (tl z)) [] 0 0 y hy
          rw [List.length_nil] at this
          omega
        refine ⟨_, rfl, lp, rfl, ⟨_, SqL.of ep⟩, fun D nD => ?_⟩
        have nDl : lp ≠ D := ne_of_none ep nD
        refine lcL (fun j acc H4 => Same H3 H4 ∧ TupOs K H4 acc (((piecesL c (innerL (tl z))).take j).map (readN n))) ⟨same_new nD, ?_⟩ (fun j acc H4 h => SqL.of (h.1 _ _ ep)) ?_ ?_
        · rw [List.take_zero]
          exact .nil
        · rintro j x acc H4 hx hl2 e4 ⟨s5, ta⟩
          obtain ⟨y, hy, rfl⟩ : ∃ y, (piecesL c (innerL (tl z)))[j]? = some y ∧ x = V.str (sOf y) := by
            unfold strsOf at hx
            rw [List.getElem?_map] at hx
            cases hy : (piecesL c (innerL (tl z)))[j]? with
            | none => rw [hy] at hx; cases hx
            | some y => rw [hy] at hx; cases hx; exact ⟨y, rfl, rfl⟩
          have hym := hpe y (List.mem_of_getElem? hy)
          have hj : j < (piecesL c (innerL (tl z))).length := (List.getElem?_eq_some_iff.mp hy).1
          have ly : (sOf y).length = y.length := by rw [← len_tl, tl_sOf]
          refine ⟨_, rfl, sOf y, rfl, by omega, by omega, fun v H5 s6 tv => ?_⟩
          have tv : TupO K H5 v (readN n y) := tv
          have e5 := s6 _ _ e4
          have s7 : Same H5 (upd H5 D (.lst (acc ++ [v]))) ∨ True := .inr trivial
          refine LcK.mk hl2 (by omega) e5 ⟨fun b o eb => ?_, ?_⟩
          · rw [upd_ne (ne_of_none eb nD)]
            exact s6 _ _ (s5 _ _ eb)
          · have tp : Tk H5 (upd H5 D (.lst (acc ++ [v]))) := Tk.put e5
            rw [take_succ' hy, List.map_append]
            exact ((ta.tk (stk s6)).tk tp).snoc (tv.tk tp)
        · rintro acc H4 hl2 e4 ⟨s5, ta⟩
          rw [show (strsOf (piecesL c (innerL (tl z)))).length = (piecesL c (innerL (tl z))).length from List.length_map .., List.take_length] at ta
          have lL : (strsOf (piecesL c (innerL (tl z)))).length = ((piecesL c (innerL (tl z))).map (readN n)).length := by
            rw [List.length_map]
            exact List.length_map ..
          obtain ⟨ps, eps⟩ : ∃ ps, ps = (piecesL c (innerL (tl z))).map (readN n) := ⟨_, rfl⟩
          rw [← eps] at lL ta hT
          have off : fitB ps = false → ∃ x2' x3' x4' x5' x6', [some (V.str z), some (.ref l), some (V.str g), some (.str k), some (.ref lp), some (.ref D), x6] = [some (V.str z), some (.ref l), x2', x3', x4', x5', x6'] ∧ Same H1 H4 ∧ tryRows (readN n) (innerL (tl z)) (rowsOf (tl z)) = tryRows (readN n) (innerL (tl z)) ((rowsOf (tl z)).drop (i + 1)) := fun hf => by
            rw [if_neg (by rw [hf]; decide)] at hT
            exact ⟨_, _, _, _, _, rfl, s3.trans (s4.trans s5), hT⟩
          have lists := SqL.of (K := K) (s5 _ _ ep)
          refine ⟨_, rfl, .inl ⟨lp, _, rfl, .inl lists, _, _, rfl, rfl, _, rfl, ?_⟩⟩
          rw [lL]
          by_cases h2 : 2 ≤ ps.length
          · rw [decide_eq_true (show (2 : Int) ≤ (ps.length : Int) by omega)]
            refine iteT ⟨_, _, rfl, rfl, _, rfl, ?_⟩
            by_cases h4 : ps.length ≤ 4
            · rw [decide_eq_true (show (ps.length : Int) ≤ 4 by omega)]
              obtain ⟨tn, ts⟩ := ta.non
              refine iteT ⟨_, rfl, D, acc, rfl, rfl, SqL.of e4, tn, _, rfl, ?_⟩
              cases hs : ps.all Option.isSome with
              | true =>
                rw [hs] at ts
                refine iteT' ts ?_
                refine ⟨_, rfl, _, rfl, D, acc, rfl, .inl ⟨SqL.of e4, fun t nt => ⟨lenOk 2, fun t2 nt2 => ?_⟩⟩⟩
                have u1 : Same H4 (upd H4 t (.tup acc)) := same_new nt
                have u2 : Same _ (upd (upd H4 t (.tup acc)) t2 (.tup [V.str k, .ref t])) := same_new nt2
                have ne : t ≠ t2 := ne_of_none upd_same nt2
                have lps := fit_of (ps := ps) (by unfold fitB; rw [hs, decide_eq_true ⟨h2, h4⟩]; rfl)
                have lfm : (ps.filterMap id).length = ps.length := by
                  have := congrArg List.length lps.2.2
                  rw [List.length_map] at this
                  exact this.symm
                rw [if_pos (show fitB ps = true by unfold fitB; rw [hs, decide_eq_true ⟨h2, h4⟩]; rfl)] at hT
                refine q (.ref t2) _ (s2.trans (s3.trans (s4.trans (s5.trans (u1.trans u2))))) ?_
                rw [hT]
                exact At.node (SqT.of upd_same) (SqT.of (by rw [upd_ne ne]; exact upd_same)) hk (by omega) (by omega) ((ta.tk (stk (u1.trans u2))).all hs)
              | false =>
                rw [hs] at ts
                exact iteF' ts (off (by unfold fitB; rw [hs, Bool.and_false]))
            · rw [decide_eq_false (show ¬ (ps.length : Int) ≤ 4 by omega)]
              exact iteF (off (by unfold fitB; rw [decide_eq_false (by omega)]; rfl))
          · rw [decide_eq_false (show ¬ (2 : Int) ≤ (ps.length : Int) by omega)]
            exact iteF ⟨_, rfl, iteF (off (by unfold fitB; rw [decide_eq_false (by omega)]; rfl))⟩
      · rintro σ H2 ⟨x2, x3, x4, x5, x6, rfl, s3, hT⟩
        refine q .non H2 (s2.trans s3) ?_
        rw [hT, hrows.1, List.drop_length]
        exact rfl
end
end Eh

set_option Elab.async false
set_option linter.all false
set_option maxRecDepth 100000
set_option maxHeartbeats 4000000
/-! The law's reading of any string. -/
namespace Eh
open PySem PySem.Spec PyProof.Rows L2
open TL
/-- a list != the empty one -/
def rNeEL (K : PySem.W.Frag) : R2 := fun x y H Q => ∃ p q xs, x = .ref p ∧ y = .ref q ∧ SqL K H p xs ∧ SqL K H q [] ∧ Q (.bl (!decide (xs.length = 0))) H
theorem neEL {X : Cx} {K : PySem.W.Frag} (h : X.K = K) (hu : X.A.units < cLine) : OpR X (compareOp .NotEq) (rNeEL K) := by
  subst h
  intro pins s σ H x y v u Q I rx ry h
  obtain ⟨p, q, xs, rfl, rfl, hp, hq, hQ⟩ := h
  cases rx
  cases ry
  obtain ⟨its, r, pl, hz⟩ := I.list hp
  obtain ⟨its2, r2, pl2, hz2⟩ := I.list hq
  cases r2
  have hl := r.length
  by_cases e : xs.length = 0
  · rw [decide_eq_true e] at hQ
    have hs : its.toArray.size = 0 := by rw [List.size_toArray, ← hl, e]
    refine SeqAt.RcNeAt.lists (e := fun _ => true) pl.isList pl2.isList hs hu (fun j h1 h2 => absurd h2 (Nat.not_lt_zero _)) X.prog X.w _ _ ⟨.bl _, H, I, rfl, ?_⟩
    rw [hs]
    exact hQ
  · rw [decide_eq_false e] at hQ
    have hs : its.toArray.size ≠ 0 := by rw [List.size_toArray, ← hl]; exact e
    exact SeqAt.RcNeAt.lists_lengths pl.isList pl2.isList (by show (its.toArray.size != 0) = true; exact bne_iff_ne.mpr hs) hu X.prog X.w _ _ ⟨.bl _, H, I, rfl, hQ⟩
theorem hu0k {A : Around} {k : Nat} (hr : Room k A) : A.units < cLine := by
  have := hr.un
  omega
/-- the rest, written once -/
theorem iteR {c : Bool} {A R : Prop} (rest : R) (h : c = true → R → A) : if c = true then A else R := by
  cases c with
  | true => exact iteT (h rfl rest)
  | false => exact iteF rest
theorem join1 {α : Type} {C Pm : α → Prop} {c : Bool} {A B : Prop} (ha : c = true → (∀ x, C x → Pm x) → A) (hb : c = false → (∀ x, C x → Pm x) → B) (tail : ∀ x, C x → Pm x) : if c = true then A else B := by
  cases c with
  | true => exact iteT (ha rfl tail)
  | false => exact iteF (hb rfl tail)
theorem str_eq_iff {u y : Str} : decide (V.str u = V.str y) = decide (tl u = tl y) := by
  by_cases h : tl u = tl y
  · rw [tl_inj h, decide_eq_true rfl, decide_eq_true rfl]
  · rw [decide_eq_false h]
    exact decide_eq_false fun e => h (by injection e with e; rw [e])
theorem opnH_sign {z : Str} {ch : Nat} (h : (tl z)[0]? = some ch) : opnH (tl z) = opn ch := by
  cases hx : tl z with
  | nil => rw [hx] at h; cases h
  | cons c r => rw [hx] at h; cases h; rfl
theorem opn_in (ch : Nat) : opn ch = decide (ch ∈ ("([" : Str).cps.toList) := by
  rw [show ("([" : Str).cps.toList = [40, 91] from by decide +kernel]
  unfold opn
  simp [Bool.decide_or, Bool.beq_eq_decide_eq]
def WordOf (z wd : Str) : Prop := ((tl z).take 1 = [33] ∧ wd = sOf ((tl z).drop 1)) ∨ ((tl z).take 1 ≠ [33] ∧ wd = z)
theorem leafR_sure {z : Str} (h : sureKinds.contains z = true) : leafR (tl z) = some (.leaf z (.int 0)) := by
  rcases sure_two h with rfl | rfl
  · unfold leafR
    rw [if_pos (by decide +kernel)]
  · unfold leafR
    rw [if_neg (by decide +kernel), if_pos (by decide +kernel)]
theorem leafR_word {z wd : Str} (h : sureKinds.contains z = false) (hw : WordOf z wd) : leafR (tl z) = if factS wd = true then some (.leaf (if (tl z).take 1 = [33] then "not" else "fact") (.str wd)) else none := by
  have n1 : tl z ≠ [121, 101, 115] := fun e => by
    have : z = "yes" := tl_inj (e.trans (by decide +kernel))
    rw [this] at h
    exact absurd h (by decide +kernel)
  have n2 : tl z ≠ [110, 111] := fun e => by
    have : z = "no" := tl_inj (e.trans (by decide +kernel))
    rw [this] at h
    exact absurd h (by decide +kernel)
  unfold leafR
  rw [if_neg n1, if_neg n2]
  rcases hw with ⟨h1, rfl⟩ | ⟨h1, rfl⟩
  · rw [if_pos h1, if_pos h1]
  · rw [if_neg h1, if_neg h1, sOf_tl]
section
variable {P : Program} {w : World} {K : PySem.W.Frag} {mg : Str → Option Value} {base : Heap}
theorem ok_law_read {fP f : Addr} {fdP fd : FuncData} (F : Fun K "_law_read" "_law_read" s__law_read f fd) (T : Txt mg) {m : Nat}
    (C__law_read_parts : Cal P w K mg base (2 * m + 3) "_law_read_parts" fP fdP ["text"] (spPartsL K m)) : FnOk P w K mg base CX0 (2 * m + 4) f fd ["text"] (spReadL K (m + 1)) := by
  refine F.ok sc__law_read (fun vs H Q E h => ?_) (fun cdv A outer s H vs Q E hr h => ?_)
  · obtain ⟨z, rfl, _⟩ := h
    rfl
  · obtain ⟨z, rfl, hm, hz, q⟩ := h
    refine ⟨_, (pss_cons (ps_if (PW.pt (pw_and (pt_cmpR op_ne (pv 0) pe_str (nomark _)) (pw_and1 (PW.pt (pw_or (pt_cmpR op_in_sign (pe_ix ix_str (pv 0) pe_int (fun _ _ => rfl)) pe_str (by rfl)) (pw_or1 (pt_cmpR op_in_sign pe_str (pv 0) (by rfl))))))))
  (pss_one (ps_ret (pe_call C__law_read_parts.G hr (by rfl) C__law_read_parts.m C__law_read_parts.k C__law_read_parts.b .nil pass0 (pa_cons (pv 0) pa_nil))))
  pss_nil)
  (pss_cons (ps_set (i := 1) sc__law_read.nd rfl (.inl rfl) (pe_ifExp (pt_cmpR op_eq (pe_slice sl_str (pv 0) po_none (po_some pe_int)) pe_str (nomark _)) (pe_slice sl_str (pv 0) (po_some pe_int) po_none) (pv 0)))
  (pss_cons (ps_if (pt_cmpR (inQ (K := K) rfl) (pv 0) (pe_lst (pa_cons pe_str (pa_cons pe_str pa_nil))) (by rfl))
  (pss_one (ps_ret (pe_tup (pa_cons (pv 0) (pa_cons pe_int pa_nil)))))
  pss_nil)
  (pss_cons (ps_if (PW.pt (pw_or (pt_not (pt_chain op_lt op_lt pe_int (pe_callB (lenQ (K := K) rfl) (by rfl) T.len_ (by decide +kernel) (pa_cons (pv 1) pa_nil)) pe_int)) (pw_or (pt_cmpR (inQ (K := K) rfl) (pv 1) (pe_lst (pa_cons pe_str (pa_cons pe_str pa_nil))) (by rfl)) (pw_or1 (pt_cmpR (neEL (K := K) rfl (hu0k hr)) (pe_lc (own := [("sign", 2)]) (g := gName 2) (by rfl) sc__law_read.nd (pi_str (pv 1)) (blkOk_by (by kernel_rfl)) (fun _ _ _ _ _ => (pg_name (i := 2) sc__law_read.nd rfl (.inl rfl))) (fun _ _ _ _ _ => (pts_one (pt_not (pt_chain op_le_str op_le_str pe_str (pv 2) pe_str)))) (fun _ _ _ _ _ => (pv 2))) (pe_lst pa_nil) (nomark _))))))
  (pss_one (ps_ret pe_non))
  pss_nil)
  (pss_one (ps_ret (pe_tup (pa_cons (pe_ifExp (pt_cmpR op_eq (pe_ix ix_str (pv 0) pe_int (fun _ _ => rfl)) pe_str (nomark _)) pe_str pe_str) (pa_cons (pv 1) pa_nil))))))))), ?_⟩
    have hl := len_tl z
    have small9 : ∀ n : Nat, n ≤ 20000 → n ≤ sizeLine := fun n hn => Nat.le_of_lt (small (by omega))
    rw [show m + 1 - 1 = m from rfl, readN_eq] at q
    have e32 : (" " : Str) = ⟨#[32]⟩ := by decide +kernel
    -- behind the first test
    have parts : isParts (tl z) = true → ∃ z', [V.str z] = [.str z'] ∧ z'.length < 2 * (m + 1) ∧ z'.length ≤ 9000 ∧ ∀ v H', Same H H' → TupO K H' v (partsF m (tl z')) → Q v H' := fun hi => by
      rw [if_pos hi] at q
      exact ⟨z, rfl, hm, hz, q⟩
    refine ⟨_, rfl, rfl, _, rfl, ?_⟩
    by_cases hi : isParts (tl z) = true
    · obtain ⟨ch, hch⟩ : ∃ ch, (tl z)[0]? = some ch := by
        cases hx : tl z with
        | nil => rw [hx] at hi; exact absurd hi (by decide)
        | cons c r => exact ⟨c, rfl⟩
      have h0 : 0 < (tl z).length := (List.getElem?_eq_some_iff.mp hch).1
      have zne : (!decide (V.str z = V.str "")) = true := by
        rw [str_eq_iff, decide_eq_false]
        · rfl
        · intro e
          rw [e] at h0
          exact absurd h0 (by decide +kernel)
      refine iteT' zne ?_
      refine ⟨_, rfl, z, 0, ch, rfl, rfl, small9 _ (by omega), atI_nat (j := 0) hch, ch, _, rfl, rfl, _, rfl, ?_⟩
      rw [← opn_in]
      cases ho : opn ch with
      | true => exact iteT (iteT ⟨_, rfl, parts hi⟩)
      | false =>
        unfold isParts at hi
        rw [opnH_sign hch, ho, Bool.false_or] at hi
        refine iteF ⟨_, rfl, 32, z, congrArg V.str e32, rfl, _, rfl, ?_⟩
        refine iteT' (decide_eq_true (List.contains_iff_mem.mp hi)) ⟨_, rfl, parts (by unfold isParts; rw [hi, Bool.or_true])⟩
    · rw [if_neg hi] at q
      refine' iteR (rest := ?rest) (h := ?main)
      case main =>
        intro hne rest
        obtain ⟨ch, hch⟩ : ∃ ch, (tl z)[0]? = some ch := by
          cases hx : tl z with
          | nil =>
            rw [str_eq_iff, hx] at hne
            exact absurd hne (by decide +kernel)
          | cons c r => exact ⟨c, rfl⟩
        have hif : isParts (tl z) = false := by simpa using hi
        unfold isParts at hif
        rw [opnH_sign hch, Bool.or_eq_false_iff] at hif
        refine ⟨_, rfl, z, 0, ch, rfl, rfl, small9 _ (by omega), atI_nat (j := 0) hch, ch, _, rfl, rfl, _, rfl, ?_⟩
        rw [← opn_in, hif.1]
        refine iteF ⟨_, rfl, 32, z, congrArg V.str e32, rfl, _, rfl, ?_⟩
        refine iteF' (decide_eq_false fun h => ?_) rest
        rw [List.contains_iff_mem.mpr h] at hif
        exact absurd hif.2 (by decide)
      case rest =>
        refine ⟨_, rfl, _, rfl, z, rfl, small9 _ (by omega), rfl, _, rfl, ?_⟩
        have eb : decide (V.str (cutS z none (some 1)) = V.str "!") = decide ((tl z).take 1 = [33]) := by
          rw [str_eq_iff, show (1 : Int) = ((1 : Nat) : Int) from rfl, cut_b, show tl ("!" : Str) = [33] from by decide +kernel]
        rw [eb]
        refine' join1 (C := fun (v : V) => ∃ w : Str, v = .str w ∧ w.length ≤ 9000 ∧ (((tl z).take 1 = [33] ∧ w = sOf ((tl z).drop 1)) ∨ ((tl z).take 1 ≠ [33] ∧ w = z))) (ha := ?ha) (hb := ?hb) (tail := ?tl)
        case ha =>
          intro hc tail
          have hc := of_decide_eq_true hc
          refine ⟨_, rfl, _, rfl, z, rfl, small9 _ (by omega), ?_⟩
          show gName 1 (.str (cutS z (some 1) none)) ?ss ?hh ?kk
          have ew : cutS z (some 1) none = sOf ((tl z).drop 1) := tl_inj (by rw [show (1 : Int) = ((1 : Nat) : Int) from rfl, cut_a]; rfl)
          have fin : ∃ w : Str, V.str (cutS z (some 1) none) = .str w ∧ w.length ≤ 9000 ∧ (((tl z).take 1 = [33] ∧ w = sOf ((tl z).drop 1)) ∨ ((tl z).take 1 ≠ [33] ∧ w = z)) :=
            ⟨_, rfl, by rw [ew, ← len_tl, tl_sOf, List.length_drop]; omega, .inl ⟨hc, ew⟩⟩
          generalize V.str (cutS z (some 1) none) = v at fin ⊢
          exact tail v fin
        case hb =>
          intro hc tail
          have hc := of_decide_eq_false hc
          refine ⟨_, rfl, ?_⟩
          show gName 1 (.str z) ?ss2 ?hh2 ?kk2
          have fin : ∃ w : Str, V.str z = .str w ∧ w.length ≤ 9000 ∧ (((tl z).take 1 = [33] ∧ w = sOf ((tl z).drop 1)) ∨ ((tl z).take 1 ≠ [33] ∧ w = z)) :=
            ⟨z, rfl, hz, .inr ⟨hc, rfl⟩⟩
          exact tail (V.str z) fin
        intro v hC
        obtain ⟨wd, rfl, hwl, hwd⟩ := hC
        have hwd : WordOf z wd := hwd
        refine ⟨_, rfl, lenOk 2, fun l1 n1 => ⟨l1, sureKinds.map V.str, rfl, .inl (SqL.of upd_same), rfl, flat_strs _, _, rfl, ?_⟩⟩
        have s1 : Same H (upd H l1 (.lst (sureKinds.map V.str))) := same_new n1
        cases hy : sureKinds.contains z with
        | true =>
          rw [leafR_sure hy] at q
          refine iteT' ((inV_strs z sureKinds).trans hy) ⟨_, rfl, lenOk 2, fun t nt => ?_⟩
          refine q (.ref t) _ (s1.trans (same_new nt)) ?_
          refine At.leaf (SqT.of upd_same) ?_
          rcases sure_two hy with rfl | rfl <;> decide +kernel
        | false =>
          refine iteF' ((inV_strs z sureKinds).trans hy) ?_
          rw [leafR_word hy hwd] at q
          have bad : factS wd = false → ∀ H', Same H H' → Q .non H' := fun e H' s' => q .non H' s' (by rw [e]; exact rfl)
          have good : factS wd = true → ∀ (b : Bool) t H', b = decide ((tl z).take 1 = [33]) → Same H H' → H' t = some (.tup [.str (if b = true then "not" else "fact"), .str wd]) → Q (.ref t) H' := fun e b t H' eb s' et => q (.ref t) H' s' (by
            rw [e, if_pos rfl]
            cases b with
            | true =>
              rw [if_pos (of_decide_eq_true eb.symm)]
              exact At.leaf (SqT.of et) (show (("not" : Str) == "fact" || ("not" : Str) == "not") = true by decide +kernel)
            | false =>
              rw [if_neg (of_decide_eq_false eb.symm)]
              exact At.leaf (SqT.of et) (show (("fact" : Str) == "fact" || ("fact" : Str) == "not") = true by decide +kernel))
          clear q
          refine ⟨_, rfl, .inr ⟨wd, rfl, small9 _ (by omega), 0, _, rfl, rfl, _, rfl, ?_⟩⟩
          by_cases h0 : (0 : Int) < wd.length
          · rw [decide_eq_true h0]
            refine iteT ⟨_, 9, rfl, rfl, _, rfl, ?_⟩
            by_cases h9 : (wd.length : Int) < 9
            · rw [decide_eq_true h9]
              refine iteF ?_
              refine ⟨_, rfl, lenOk 2, fun l4 n4 => ⟨l4, sureKinds.map V.str, rfl, .inl (SqL.of upd_same), rfl, flat_strs _, _, rfl, ?_⟩⟩
              have s4 : Same H _ := s1.trans (same_new (o := .lst (sureKinds.map V.str)) n4)
              cases hy2 : sureKinds.contains wd with
              | true =>
                refine iteT' ((inV_strs wd sureKinds).trans hy2) (bad ?_ _ s4)
                rcases sure_two hy2 with e | e <;> (rw [e]; decide +kernel)
              | false =>
                refine iteF' ((inV_strs wd sureKinds).trans hy2) ?_
                have en2 : factS wd = wd.cps.toList.all low := by
                  unfold factS
                  have y1 : wd ≠ "yes" := fun e => by rw [e] at hy2; exact absurd hy2 (by decide +kernel)
                  have y2 : wd ≠ "no" := fun e => by rw [e] at hy2; exact absurd hy2 (by decide +kernel)
                  rw [decide_eq_true (show 1 ≤ wd.length ∧ wd.length ≤ 8 from ⟨by omega, by omega⟩), decide_eq_false y1, decide_eq_false y2]
                  rfl
                refine ⟨_, rfl, wd, rfl, fun D nD => ?_⟩
                have s5 := s4.trans (same_new (o := .lst []) nD)
                have nD1 : H D = none := s4.free nD
                refine lcS (fun j acc H2 => Same H H2 ∧ (acc.length = 0 ↔ (wd.cps.toList.take j).all low = true)) ⟨s5, ⟨fun _ => rfl, fun _ => rfl⟩⟩ ?_ ?_
                · rintro j c acc H2 hc hl e ⟨s6, ea⟩
                  have hj : j < 9 := by
                    have := (Array.getElem?_eq_some_iff.mp hc).1
                    have e2 : wd.cps.size = wd.length := rfl
                    omega
                  have et : (wd.cps.toList.take (j + 1)).all low = ((wd.cps.toList.take j).all low && low c) := by
                    rw [take_succ' (by rw [Array.getElem?_toList]; exact hc), List.all_append]
                    show (_ && (low c && true)) = _
                    rw [Bool.and_true]
                  have yes : low c = false → LcK (fun j acc H2 => Same H H2 ∧ (acc.length = 0 ↔ (wd.cps.toList.take j).all low = true)) D j (.str ⟨#[c]⟩) H2 := fun el => by
                    refine LcK.mk hl (by omega) e ⟨fun b o eb => ?_, ?_⟩
                    · rw [upd_ne (ne_of_none eb nD1)]
                      exact s6 b o eb
                    · rw [List.length_append, et, el, Bool.and_false]
                      exact ⟨(fun z => by have z : acc.length + 1 = 0 := z; omega), (fun z => nomatch z)⟩
                  have no : low c = true → LcP (fun j acc H2 => Same H H2 ∧ (acc.length = 0 ↔ (wd.cps.toList.take j).all low = true)) D (j + 1) H2 := fun el =>
                    ⟨acc, by omega, e, s6, by rw [et, el, Bool.and_true]; exact ea⟩
                  refine ⟨_, rfl, "a", _, rfl, rfl, _, rfl, ?_⟩
                  rw [le_sign]
                  by_cases h97 : 97 ≤ c
                  · rw [decide_eq_true h97]
                    refine iteT ⟨_, "z", rfl, rfl, _, rfl, ?_⟩
                    rw [ge_sign]
                    by_cases h122 : c ≤ 122
                    · rw [decide_eq_true h122]
                      exact iteF (no (decide_eq_true ⟨h97, h122⟩))
                    · rw [decide_eq_false h122]
                      exact iteT ⟨_, rfl, yes (decide_eq_false fun h => h122 h.2)⟩
                  · rw [decide_eq_false h97]
                    exact iteF ⟨_, rfl, iteT ⟨_, rfl, yes (decide_eq_false fun h => h97 h.1)⟩⟩
                · rintro acc H2 hl e ⟨s6, ea⟩
                  refine ⟨Nat.zero_le _, fun l5 n5 => ⟨D, l5, acc, rfl, rfl, SqL.of (same_new n5 _ _ e), SqL.of upd_same, _, rfl, ?_⟩⟩
                  have s7 := s6.trans (same_new (o := .lst []) n5)
                  rw [List.take_of_length_le (by rw [Array.length_toList]; exact Nat.le_refl _)] at ea
                  by_cases h : acc.length = 0
                  · rw [decide_eq_true h]
                    refine iteF ?_
                    have hg := en2.trans (ea.mp h)
                    obtain ⟨ch, hch⟩ : ∃ ch, (tl z)[0]? = some ch := by
                      cases hx : tl z with
                      | nil =>
                        exfalso
                        have lw := len_tl wd
                        rcases hwd with ⟨h1, _⟩ | ⟨_, rfl⟩
                        · rw [hx] at h1
                          cases h1
                        · rw [hx] at lw
                          simp at lw
                          omega
                      | cons c r => exact ⟨c, rfl⟩
                    have h00 : 0 < (tl z).length := (List.getElem?_eq_some_iff.mp hch).1
                    have e33 : decide (V.str (⟨#[ch]⟩ : Str) = V.str "!") = decide ((tl z).take 1 = [33]) := by
                      rw [str_eq_iff, show tl ("!" : Str) = [33] from by decide +kernel]
                      cases hx : tl z with
                      | nil => rw [hx] at hch; cases hch
                      | cons a r => rw [hx] at hch; cases hch; rfl
                    refine ⟨_, rfl, z, 0, ch, rfl, rfl, small9 _ (by omega), atI_nat (j := 0) hch, rfl, _, rfl, ?_⟩
                    rw [e33]
                    cases hb : decide ((tl z).take 1 = [33]) with
                    | true => exact iteT ⟨_, rfl, lenOk 2, fun t nt => good hg true t _ hb.symm (s7.trans (same_new nt)) upd_same⟩
                    | false => exact iteF ⟨_, rfl, lenOk 2, fun t nt => good hg false t _ hb.symm (s7.trans (same_new nt)) upd_same⟩
                  · rw [decide_eq_false h]
                    refine iteT (bad (en2.trans ?_) _ s7)
                    cases ec : wd.cps.toList.all low with
                    | false => rfl
                    | true => exact absurd (ea.mpr ec) h
            · rw [decide_eq_false h9]
              refine iteT (bad ?_ _ s1)
              unfold factS
              rw [decide_eq_false (show ¬ (1 ≤ wd.length ∧ wd.length ≤ 8) by omega)]
              rfl
          · rw [decide_eq_false h0]
            refine iteF ⟨_, rfl, iteT (bad ?_ _ s1)⟩
            unfold factS
            rw [decide_eq_false (show ¬ (1 ≤ wd.length ∧ wd.length ≤ 8) by omega)]
            rfl
/-- the reading of strings of any length under 2 m -/
theorem ok_reads {fP fR fQ : Addr} {fdP fdR fdQ : FuncData} (FR : Fun K "_law_read" "_law_read" s__law_read fR fdR) (FQ : Fun K "_law_read_parts" "_law_read_parts" s__law_read_parts fQ fdQ) (T : Txt mg) (C__law_pieces : Cal P w K mg base 1 "_law_pieces" fP fdP ["text", "sign"] spPieces)
    (mR : mg "_law_read" = some (.ref fR)) (kR : PySem.W.keepIn K (.ref fR) = true) (bR : Binds K fdR ["text"] []) (mQ : mg "_law_read_parts" = some (.ref fQ)) (kQ : PySem.W.keepIn K (.ref fQ) = true) (bQ : Binds K fdQ ["text"] []) :
    ∀ m : Nat, FnOk P w K mg base CX0 (2 * m + 2) fR fdR ["text"] (spReadL K m)
  | 0 => FR.ok sc__law_read (fun vs H Q E h => by
      obtain ⟨z, rfl, _⟩ := h
      rfl) (fun cdv A outer s H vs Q E hr h => by
      obtain ⟨z, rfl, h0, _⟩ := h
      omega)
  | m + 1 => ok_law_read FR T ⟨ok_read_parts FQ T C__law_pieces ⟨ok_reads FR FQ T C__law_pieces mR kR bR mQ kQ bQ m, mR, kR, bR⟩, mQ, kQ, bQ⟩
end
end Eh

set_option Elab.async false
set_option linter.all false
set_option maxRecDepth 100000
set_option maxHeartbeats 4000000
/-! _law_got: the promise that is read, or what is kept by the refusal. -/
namespace Eh
open PySem PySem.Spec PyProof.Rows L2
open TL
open ClX
section
variable {P : Program} {w : World} {K : PySem.W.Frag} {mg : Str → Option Value} {base : Heap}
def spGotZ (K : PySem.W.Frag) (C : Addr) : Sp := fun vs H Q _ => ∃ v ro, vs = [v] ∧ RdV K H v ro ∧
  (∀ p, ro = some p → ∀ a H', Same H H' → H a = none → PrG K C H' a (nodesOf p) → Q (.ref a) H') ∧
  (ro = none → ∀ l H', Same H H' → H l = none → H' l = some (.lst [.non]) → Q (.ref l) H')
theorem ok_law_got {C CP fI fL q r f : Addr} {mc : Value} {frd fd : FuncData} (F : Fun K "_law_got" "_law_got" s__law_got f fd) (T : Txt mg) (PC : PromC K mg C fI fL) (CR : CRead K C mc) (MR : CMet K C mc "read" q r)
    (GR : FnOk P w K mg base (L2.CX P w) 6 r frd ["cls", "text"] (spReadZ K C CP)) (bR : Binds K frd ["cls", "text"] []) (eP : PySem.W.exmOne K (.ref CP) (.ref CP) = some true) (gP : mg "ParseError" = some (.ref CP)) (XF : XfC K CP) (hno : PySem.W.findIn K (.ref CP) "line" = some none) :
    FnOk P w K mg base CX0 7 f fd ["text"] (spGotZ K C) := by
  refine F.ok sc__law_got (fun vs H Q E h => ?_) (fun cdv A outer s H vs Q E hr h => ?_)
  · obtain ⟨v, ro, rfl, _⟩ := h
    rfl
  · obtain ⟨v, ro, rfl, hv, q1, q2⟩ := h
    refine ⟨_, pss_one (ps_try_mix
      (tb := fun W D σ H => ∃ Ech : XK, (∀ cls d σ' H', Ech cls d H' → W cls d σ' H') ∧ tCMeth C (spReadZ K C CP) Ech (tC (.ref C)) (tCons (tVar 0) tNil) σ H D.rt)
      rfl rfl sc__law_got.nd LamX.takes0 (fun W pn xe tk _ => ?_)
      (.named (n := "error") (i := 1) rfl (by rfl) ⟨by rfl, by decide, .inl gP⟩ (fun a oe cls d pn hz hf => pss_one (ps_ret (pe_lst (pa_cons (pe_xf XF hno hz hf (pv 1)) pa_nil)))) .nil)), ?_⟩
    · refine ⟨fun pins s' σ H' D I h' => ?_⟩
      obtain ⟨Ech, hW, h1⟩ := h'
      exact PSs.run (X := (cxOf CX0 P w K mg base ["text", "error"] "_law_got" (defScope s__law_got) f cdv A outer s H E).nox.tr pn xe) (pss_one (ps_ret (pe_cmeth (E := Ech) (pe_glob (v := .ref C) (by rfl) PC.g (by rfl)) CR MR (toR GR bR) hr (passes_call tk fun cls d σ' H'' h => hW cls d σ' H'' h) (pa_cons (pv 0) pa_nil)))) pins s' σ H' D I h1
    · refine ⟨fun cls d H' => cls = .ref CP ∧ ro = none ∧ ∃ dd, d = some dd ∧ Same H H' ∧ H' dd = some (.xd [("line", .non)]), fun cls d σ' H' h' => ?_, rfl, ?_⟩
      · obtain ⟨rfl, hro, dd, rfl, s', ed⟩ := h'
        exact ⟨true, eP, fun _ hl a _ => ⟨_, List.getElem?_set_self (by rw [hl]; exact (show 1 < 2 by decide)), rfl, rfl, dd, _, _, rfl, ed, rfl, lenOk 1, fun l nl => q2 hro l _ (s'.trans (same_new nl)) (s'.free nl) upd_same⟩, fun z => nomatch z⟩
      · refine ⟨_, rfl, v, ro, rfl, hv, fun p e a H' s' na pr => q1 p e a H' s' na pr, fun e d H' s' nd ed => ⟨rfl, e, d, rfl, s', ed⟩⟩
end
end Eh

set_option Elab.async false
set_option linter.all false
set_option maxRecDepth 100000
set_option maxHeartbeats 4000000
/-! A string near one. -/
namespace Eh
open PySem PySem.Spec PyProof.Rows L2
open TL
def bentS : List Str := [" ", "(", ")", "[", "]", " & ", " | ", " + ", " * ", "a", "!", "yes", "no", "b c", "", "A"]
/-- a piece put in the place of a few signs -/
def Near (s t : List Nat) : Prop := ∃ (a k : Nat) (p : Str), p ∈ bentS ∧ a ≤ s.length ∧ k ≤ 3 ∧ t = s.take a ++ (tl p ++ s.drop (a + k))
theorem bent_len {p : Str} (h : p ∈ bentS) : p.length ≤ 3 ∧ ∀ c ∈ tl p, c < 128 := by
  have : (bentS.all fun p => decide (p.length ≤ 3) && (tl p).all fun c => decide (c < 128)) = true := by decide +kernel
  have := List.all_eq_true.mp this p h
  rw [Bool.and_eq_true, decide_eq_true_eq, List.all_eq_true] at this
  exact ⟨this.1, fun c hc => of_decide_eq_true (this.2 c hc)⟩
theorem Near.length {s t : List Nat} (h : Near s t) : t.length ≤ s.length + 3 := by
  obtain ⟨a, k, p, hp, ha, hk, rfl⟩ := h
  have h1 := (bent_len hp).1
  have h2 : (tl p).length = p.length := len_tl p
  rw [List.length_append, List.length_append, List.length_take, List.length_drop]
  omega
theorem Near.asc {s t : List Nat} (h : Near s t) (hs : ∀ c ∈ s, c < 128) : ∀ c ∈ t, c < 128 := fun c hc => by
  obtain ⟨a, k, p, hp, ha, hk, rfl⟩ := h
  rcases List.mem_append.mp hc with hc | hc
  · exact hs c (List.mem_of_mem_take hc)
  · rcases List.mem_append.mp hc with hc | hc
    · exact (bent_len hp).2 c hc
    · exact hs c (List.mem_of_mem_drop hc)
section
variable {P : Program} {w : World} {K : PySem.W.Frag} {mg : Str → Option Value} {base : Heap}
def spBent : Sp := fun vs H Q _ => ∃ (d : Addr) (z : Str), vs = [.ref d, .str z] ∧ D3 H d ∧ z.length ≤ 5000 ∧ ∀ y H', Gr d H H' → Near (tl z) (tl y) → Q (.str y) H'
theorem ok_bent {fR fP f : Addr} {fdR fdP fd : FuncData} (F : Fun K "_law_bent" "_law_bent" s__law_bent f fd) (T : Txt mg) (C__law_roll : Cal P w K mg base 1 "_law_roll" fR fdR ["dice", "many"] spRoll) (C__law_pick : Cal P w K mg base 2 "_law_pick" fP fdP ["dice", "items"] (spPick K)) :
    FnOk P w K mg base CX0 3 f fd ["dice", "text"] spBent := by
  refine F.ok sc__law_bent (fun vs H Q E h => ?_) (fun cdv A outer s H vs Q E hr h => ?_)
  · obtain ⟨d, z, rfl, _⟩ := h
    rfl
  · obtain ⟨d, z, rfl, D, hz, q⟩ := h
    have hr1 := hr.mono (j := 1) (by omega)
    refine ⟨_, (pss_cons (ps_par (i := 2) (j := 3) (by rfl) sc__law_bent.nd rfl rfl (by decide) (by rfl) (by rfl) (pa_cons (pe_call C__law_roll.G hr1 (by rfl) C__law_roll.m C__law_roll.k C__law_roll.b .nil pass0 (pa_cons (pv 0) (pa_cons (pe_op op_add (pe_callB (lenQ (K := K) rfl) (by rfl) T.len_ (by decide +kernel) (pa_cons (pv 1) pa_nil)) pe_int) pa_nil))) (pa_cons (pe_call C__law_roll.G hr1 (by rfl) C__law_roll.m C__law_roll.k C__law_roll.b .nil pass0 (pa_cons (pv 0) (pa_cons pe_int pa_nil))) pa_nil)) (by rfl))
  (pss_cons (ps_set (i := 4) sc__law_bent.nd rfl (.inl rfl) (pe_call C__law_pick.G hr (by rfl) C__law_pick.m C__law_pick.k C__law_pick.b .nil pass0 (pa_cons (pv 0) (pa_cons (pe_lst (pa_cons pe_str (pa_cons pe_str (pa_cons pe_str (pa_cons pe_str (pa_cons pe_str (pa_cons pe_str (pa_cons pe_str (pa_cons pe_str (pa_cons pe_str (pa_cons pe_str (pa_cons pe_str (pa_cons pe_str (pa_cons pe_str (pa_cons pe_str (pa_cons pe_str (pa_cons pe_str pa_nil))))))))))))))))) pa_nil))))
  (pss_cons (ps_if (pt_cmpR op_eq (pv 3) pe_int (nomark _))
  (pss_one (ps_ret (pe_op op_add_str (pe_op op_add_str (pe_slice sl_str (pv 1) po_none (po_some (pv 2))) (pv 4)) (pe_slice sl_str (pv 1) (po_some (pv 2)) po_none))))
  pss_nil)
  (pss_cons (ps_if (pt_cmpR op_eq (pv 3) pe_int (nomark _))
  (pss_one (ps_ret (pe_op op_add_str (pe_slice sl_str (pv 1) po_none (po_some (pv 2))) (pe_slice sl_str (pv 1) (po_some (pe_op op_add (pv 2) (pe_call C__law_pick.G hr (by rfl) C__law_pick.m C__law_pick.k C__law_pick.b .nil pass0 (pa_cons (pv 0) (pa_cons (pe_lst (pa_cons pe_int (pa_cons pe_int (pa_cons pe_int pa_nil)))) pa_nil))))) po_none))))
  pss_nil)
  (pss_one (ps_ret (pe_op op_add_str (pe_op op_add_str (pe_slice sl_str (pv 1) po_none (po_some (pv 2))) (pv 4)) (pe_slice sl_str (pv 1) (po_some (pe_op op_add (pv 2) pe_int)) po_none)))))))), ?_⟩
    have hl := len_tl z
    have small9 : ∀ n : Nat, n ≤ 20000 → n ≤ sizeLine := fun n hn => Nat.le_of_lt (small (by omega))
    refine ⟨_, rfl, _, rfl, .inr ⟨z, rfl, small9 _ (by omega), _, _, rfl, rfl, d, _, rfl, D, by omega, by omega, fun a H1 a0 a1 D1 k1 => ?_⟩⟩
    refine ⟨_, rfl, d, 3, rfl, D1, by decide, by decide, fun b H2 b0 b1 D2 k2 => ?_⟩
    have g2 := (off_gr (H := H) D1 k1).trans (off_gr D2 k2)
    obtain ⟨n, rfl⟩ : ∃ n : Nat, a = (n : Int) := ⟨a.toNat, by omega⟩
    refine ⟨_, _, rfl, _, rfl, lenOk 16, fun l1 n1 => ?_⟩
    have a1' := Gr.laid (o := .lst (bentS.map V.str)) g2.dice n1
    refine ⟨d, l1, _, rfl, a1'.dice, SqL.of upd_same, g2.dice.ne n1, by decide, by decide, fun x H3 hx D3' k3 => ?_⟩
    have g3 := g2.trans (a1'.trans (off_gr D3' k3))
    obtain ⟨p, hp, rfl⟩ : ∃ p, p ∈ bentS ∧ V.str p = x := List.mem_map.mp (show x ∈ bentS.map V.str from hx)
    obtain ⟨hpl, _⟩ := bent_len hp
    have lt : ∀ k : Nat, (cutS z none (some (k : Int))).length ≤ 5000 := fun k => by
      rw [← len_tl, cut_b, List.length_take]
      omega
    have ld : ∀ k : Nat, (cutS z (some (k : Int)) none).length ≤ 5000 := fun k => by
      rw [← len_tl, cut_a, List.length_drop]
      omega
    have eint : ∀ i j : Int, decide (V.int i = V.int j) = decide (i = j) := fun i j => by
      by_cases h : i = j
      · rw [h, decide_eq_true rfl, decide_eq_true rfl]
      · rw [decide_eq_false h, decide_eq_false fun e => h (by injection e)]
    have app : ∀ u v : Str, (u ++ v).length = u.length + v.length := fun u v => by rw [← len_tl, tl_append, List.length_append, len_tl, len_tl]
    have nl : n ≤ (tl z).length := by omega
    have l3 : ∀ k : Nat, (cutS z none (some (n : Int)) ++ p).length + (cutS z (some (k : Int)) none).length ≤ 20000 := fun k => by
      have := lt n
      have := ld k
      rw [app]
      omega
    have near3 : ∀ k : Nat, k ≤ 3 → Near (tl z) (tl (cutS z none (some (n : Int)) ++ p ++ cutS z (some ((n + k : Nat) : Int)) none)) := fun k hk =>
      ⟨n, k, p, hp, nl, hk, by rw [tl_append, tl_append, cut_b, cut_a, List.append_assoc]⟩
    refine ⟨_, rfl, rfl, _, rfl, ?_⟩
    rw [eint]
    by_cases hb : b = 0
    · rw [decide_eq_true hb]
      refine iteT ⟨_, rfl, _, rfl, _, rfl, z, rfl, small9 _ (by omega), _, rfl, _, _, rfl, rfl, small9 _ (by have := lt n; omega), _, rfl, _, rfl, _, rfl, z, rfl, small9 _ (by omega), _, _, rfl, rfl, small9 _ (l3 n), ?_⟩
      exact q _ H3 g3 (near3 0 (by decide))
    · rw [decide_eq_false hb]
      refine iteF ⟨_, rfl, rfl, _, rfl, ?_⟩
      rw [eint]
      by_cases hb1 : b = 1
      · rw [decide_eq_true hb1]
        refine iteT ⟨_, rfl, _, rfl, _, rfl, z, rfl, small9 _ (by omega), _, rfl, _, rfl, _, rfl, lenOk 3, fun l2 n2 => ?_⟩
        have a2 := Gr.laid (o := .lst [.int 1, .int 1, .int 3]) g3.dice n2
        refine ⟨d, l2, _, rfl, a2.dice, SqL.of upd_same, g3.dice.ne n2, by decide, by decide, fun x H4 hx D4 k4 => ?_⟩
        have g4 := g3.trans (a2.trans (off_gr D4 k4))
        obtain ⟨k, rfl, hk⟩ : ∃ k : Nat, x = .int (k : Int) ∧ k ≤ 3 := by
          simp only [List.mem_cons, List.not_mem_nil, or_false] at hx
          rcases hx with rfl | rfl | rfl
          · exact ⟨1, rfl, by decide⟩
          · exact ⟨1, rfl, by decide⟩
          · exact ⟨3, rfl, by decide⟩
        refine ⟨_, _, rfl, rfl, _, rfl, z, rfl, small9 _ (by omega), _, _, rfl, rfl, small9 _ (by have := lt n; have := ld (n + k); show (cutS z none (some (n : Int))).length + (cutS z (some ((n + k : Nat) : Int)) none).length ≤ 20000; omega), ?_⟩
        refine q _ H4 g4 ⟨n, k, "", by decide +kernel, nl, hk, ?_⟩
        show tl (cutS z none (some (n : Int)) ++ cutS z (some ((n + k : Nat) : Int)) none) = _
        rw [tl_append, cut_b, cut_a, show tl ("" : Str) = [] from by decide +kernel, List.nil_append]
      · rw [decide_eq_false hb1]
        refine iteF ⟨_, rfl, _, rfl, _, rfl, z, rfl, small9 _ (by omega), _, rfl, _, _, rfl, rfl, small9 _ (by have := lt n; omega), _, rfl, _, rfl, _, _, rfl, rfl, _, rfl, z, rfl, small9 _ (by omega), _, _, rfl, rfl, small9 _ (l3 (n + 1)), ?_⟩
        exact q _ H3 g3 (near3 1 (by decide))
end
end Eh

set_option Elab.async false
set_option linter.all false
set_option maxRecDepth 100000
set_option maxHeartbeats 4000000
/-! What a string near a drawn promise's text can hold. -/
namespace Eh
open PySem PySem.Spec PyProof.Rows L2
open TL
def cnt (f : Nat → Bool) (s : List Nat) : Nat := (s.filter f).length
theorem cnt_app (f : Nat → Bool) (a b : List Nat) : cnt f (a ++ b) = cnt f a + cnt f b := by
  unfold cnt
  rw [List.filter_append, List.length_append]
theorem cnt_cons (f : Nat → Bool) (c : Nat) (a : List Nat) : cnt f (c :: a) = (if f c = true then 1 else 0) + cnt f a := by
  unfold cnt
  rw [List.filter_cons]
  split
  · rw [List.length_cons]; omega
  · omega
theorem cnt_zero {f : Nat → Bool} {s : List Nat} (h : ∀ c ∈ s, f c = false) : cnt f s = 0 := by
  unfold cnt
  rw [List.filter_eq_nil_iff.mpr fun c hc => by rw [h c hc]; decide]
  rfl
def sgnB (c : Nat) : Bool := c == 38 || c == 43 || c == 124 || c == 42
theorem signC_sgn {k : Str} (h : nodeKinds.contains k = true) : sgnB (signC k) = true := by
  rcases node_cases (k := k) h with rfl | rfl | rfl | rfl <;> decide +kernel
theorem wordC_sgn {c : Nat} (h : wordC c) : sgnB c = false := by
  obtain ⟨_, _, _, a, b, d, e⟩ := wordC_not h
  unfold sgnB
  simp [a, b, d, e]
/-- what the signs of a text tell -/
structure Cts (s : List Nat) (inner nodes depth : Nat) (extra : Nat) : Prop where
  o : cnt opn s = inner
  n : nodes = cnt opn s + cnt sgnB s + 1
  d : depth ≤ cnt opn s + 1
  le : cnt opn s + extra ≤ cnt sgnB s
theorem cts_join {sg : Nat} (h1 : opn sg = false) (h2 : sgnB sg = true) : ∀ {ps : List Pl}, ps ≠ [] → (∀ p ∈ ps, Cts (tx p) (countIn nodeKinds (nodesOf p)) (nodesOf p).length (depthOf p) 0) →
    Cts (joinL [32, sg, 32] (ps.map tx)) (countIn nodeKinds (nodesAll ps)) (nodesAll ps).length (depthAll ps) (ps.length - 1)
  | [], h, _ => absurd rfl h
  | [p], _, h => by
    have hp := h p List.mem_cons_self
    rw [nodesAll, nodesAll, List.append_nil, depthAll, depthAll]
    exact ⟨hp.o, hp.n, by have := hp.d; show max (depthOf p) 0 ≤ cnt opn (tx p) + 1; omega, hp.le⟩
  | p :: q :: r, _, h => by
    have hp := h p List.mem_cons_self
    have ih := cts_join h1 h2 (ps := q :: r) (by simp) fun x hx => h x (List.mem_cons_of_mem _ hx)
    rw [nodesAll, depthAll]
    show Cts (tx p ++ ([32, sg, 32] ++ joinL [32, sg, 32] ((q :: r).map tx))) _ _ _ _
    have e1 : cnt opn (tx p ++ ([32, sg, 32] ++ joinL [32, sg, 32] ((q :: r).map tx))) = cnt opn (tx p) + cnt opn (joinL [32, sg, 32] ((q :: r).map tx)) := by
      rw [cnt_app, cnt_app, show cnt opn [32, sg, 32] = 0 from by rw [cnt_cons, cnt_cons, h1]; rfl, Nat.zero_add]
    have e2 : cnt sgnB (tx p ++ ([32, sg, 32] ++ joinL [32, sg, 32] ((q :: r).map tx))) = cnt sgnB (tx p) + 1 + cnt sgnB (joinL [32, sg, 32] ((q :: r).map tx)) := by
      rw [cnt_app, cnt_app, show cnt sgnB [32, sg, 32] = 1 from by rw [cnt_cons, cnt_cons, h2]; rfl]
      omega
    have := hp.n
    have := ih.n
    have := hp.d
    have := ih.d
    have := hp.le
    have := ih.le
    have := ih.o
    refine ⟨?_, ?_, ?_, ?_⟩
    · rw [e1, hp.o, ih.o, countIn_app]
    · rw [e1, e2, List.length_append]
      omega
    · rw [e1]
      omega
    · rw [e1, e2]
      simp only [List.length_cons] at *
      omega
theorem tx_cts : ∀ p : Pl, Tr p → Cts (tx p) (countIn nodeKinds (nodesOf p)) (nodesOf p).length (depthOf p) 0
  | .leaf k t, h => by
    obtain ⟨hw, _⟩ := tx_leafW h
    have z1 : cnt opn (tx (.leaf k t)) = 0 := cnt_zero fun c hc => (wordC_not (hw c hc)).1
    have z2 : cnt sgnB (tx (.leaf k t)) = 0 := cnt_zero fun c hc => wordC_sgn (hw c hc)
    have hk := h.leaf.2
    rw [nodesOf, depthOf]
    refine ⟨?_, ?_, ?_, ?_⟩
    · rw [z1]
      unfold countIn
      rw [List.filter_cons_of_neg (by rw [hk]; decide)]
      rfl
    · rw [z1, z2]; rfl
    · omega
    · rw [z1, z2]; exact Nat.le_refl _
  | .node k ps, h => by
    obtain ⟨hk, h2, h4, hp⟩ := h.node
    have ih : ∀ p ∈ ps, Cts (tx p) (countIn nodeKinds (nodesOf p)) (nodesOf p).length (depthOf p) 0 := fun p hm => tx_cts p (hp p hm)
    have J := cts_join (signC_ok hk).2.1 (signC_sgn hk) (ps := ps) (fun e => by rw [e] at h2; simp at h2) ih
    obtain ⟨o1, o2, o3⟩ := open_cls k
    have so : sgnB (openC k) = false ∧ sgnB (closeC k) = false := by
      unfold openC closeC
      split <;> decide
    have e1 : cnt opn (tx (.node k ps)) = 1 + cnt opn (joinL [32, signC k, 32] (ps.map tx)) := by
      rw [tx_node hk, cnt_cons, if_pos o1, cnt_app, cnt_cons, if_neg (by rw [o2]; decide)]
      rfl
    have e2 : cnt sgnB (tx (.node k ps)) = cnt sgnB (joinL [32, signC k, 32] (ps.map tx)) := by
      rw [tx_node hk, cnt_cons, if_neg (by rw [so.1]; decide), cnt_app, cnt_cons, if_neg (by rw [so.2]; decide)]
      show 0 + (_ + (0 + 0)) = _
      omega
    have := J.n
    have := J.d
    have := J.le
    have := J.o
    rw [nodesOf, depthOf]
    refine ⟨?_, ?_, ?_, ?_⟩
    · rw [e1, J.o]
      unfold countIn
      rw [List.filter_cons_of_pos (by exact hk), List.length_cons]
      omega
    · rw [e1, e2, List.length_cons]
      omega
    · rw [e1]
      omega
    · rw [e1, e2]
      omega
termination_by p => sizeOf p
decreasing_by
  have := size_mem hm
  simp
  omega
theorem cnt_take_drop (f : Nat → Bool) (s : List Nat) (a k : Nat) : cnt f (s.take a) + cnt f (s.drop (a + k)) ≤ cnt f s := by
  have e : s = s.take a ++ ((s.drop a).take k ++ s.drop (a + k)) := by
    conv => lhs; rw [← List.take_append_drop a s, ← List.take_append_drop k (s.drop a)]
    rw [List.drop_drop]
  have := congrArg (cnt f) e
  rw [cnt_app, cnt_app] at this
  omega
theorem near_cnt {s t : List Nat} (h : Near s t) : cnt opn t ≤ cnt opn s + 1 ∧ cnt sgnB t ≤ cnt sgnB s + 1 := by
  obtain ⟨a, k, p, hp, ha, hk, rfl⟩ := h
  have key : (bentS.all fun p => decide (cnt opn (tl p) ≤ 1) && decide (cnt sgnB (tl p) ≤ 1)) = true := by decide +kernel
  have := List.all_eq_true.mp key p hp
  rw [Bool.and_eq_true, decide_eq_true_eq, decide_eq_true_eq] at this
  have h1 := cnt_take_drop opn s a k
  have h2 := cnt_take_drop sgnB s a k
  rw [cnt_app, cnt_app, cnt_app, cnt_app]
  omega
/-! ### the words of a text -/
def tk : List Nat → List Nat → List (List Nat)
  | cur, [] => [cur]
  | cur, c :: r => if low c = true then tk (cur ++ [c]) r else cur :: tk [] r
def nf (s : List Nat) : List (List Nat) := (tk [] s).filter fun x => !x.isEmpty
theorem tk_low : ∀ (z cur rest : List Nat), (∀ c ∈ z, low c = true) → tk cur (z ++ rest) = tk (cur ++ z) rest
  | [], cur, rest, _ => by rw [List.nil_append, List.append_nil]
  | c :: z, cur, rest, h => by
    rw [List.cons_append, tk, if_pos (h c List.mem_cons_self), tk_low z _ _ fun d hd => h d (List.mem_cons_of_mem _ hd), List.append_assoc, List.singleton_append]
theorem tk_sep {c : Nat} (hc : low c = false) : ∀ (a cur b : List Nat), tk cur (a ++ c :: b) = tk cur a ++ tk [] b
  | [], cur, b => by
    rw [List.nil_append, show tk cur (c :: b) = if low c = true then tk (cur ++ [c]) b else cur :: tk [] b from by rw [tk], hc, if_neg (by decide)]
    rfl
  | d :: a, cur, b => by
    rw [List.cons_append, tk, tk]
    split
    · exact tk_sep hc a _ b
    · rw [tk_sep hc a [] b]
      rfl
theorem nf_sep {c : Nat} (hc : low c = false) (a b : List Nat) : nf (a ++ c :: b) = nf a ++ nf b := by
  unfold nf
  rw [tk_sep hc, List.filter_append]
theorem nf_nil : nf [] = [] := rfl
theorem nf_word {z : List Nat} (h : ∀ c ∈ z, low c = true) (hn : z ≠ []) : nf z = [z] := by
  unfold nf
  have := tk_low z [] [] h
  rw [List.append_nil, List.nil_append] at this
  rw [this, tk]
  cases z with
  | nil => exact absurd rfl hn
  | cons c r => rfl
def wordL : Str → V → List Nat
  | k, .str z => tl z
  | k, _ => if k = "yes" then [121, 101, 115] else [110, 111]
mutual
def wordsOf : Pl → List (List Nat)
  | .leaf k t => [wordL k t]
  | .node _ ps => wordsAll ps
def wordsAll : List Pl → List (List Nat)
  | [] => []
  | p :: ps => wordsOf p ++ wordsAll ps
end
theorem nf_join {sg : Nat} (h : low sg = false) : ∀ {ps : List Pl}, (∀ p ∈ ps, nf (tx p) = wordsOf p) → nf (joinL [32, sg, 32] (ps.map tx)) = wordsAll ps
  | [], _ => by rw [wordsAll]; rfl
  | [p], hp => by
    rw [wordsAll, wordsAll, List.append_nil]
    exact hp p List.mem_cons_self
  | p :: q :: r, hp => by
    have ih := nf_join h (ps := q :: r) fun x hx => hp x (List.mem_cons_of_mem _ hx)
    show nf (tx p ++ (32 :: sg :: 32 :: joinL [32, sg, 32] ((q :: r).map tx))) = _
    have e3 : nf (32 :: joinL [32, sg, 32] ((q :: r).map tx)) = nf [] ++ nf (joinL [32, sg, 32] ((q :: r).map tx)) := nf_sep (c := 32) (by decide) [] _
    have e2 : nf (sg :: 32 :: joinL [32, sg, 32] ((q :: r).map tx)) = nf [] ++ nf (32 :: joinL [32, sg, 32] ((q :: r).map tx)) := nf_sep (c := sg) h [] _
    rw [nf_sep (c := 32) (by decide), e2, e3, ih, hp p List.mem_cons_self, nf_nil, List.nil_append, List.nil_append]
    conv => rhs; rw [wordsAll]
theorem nf_tx : ∀ p : Pl, Tr p → nf (tx p) = wordsOf p
  | .leaf k t, h => by
    obtain ⟨h1, h2⟩ := h.leaf
    rw [tx_leaf, wordsOf]
    rcases leaf_form h1 h2 with ⟨z, hz, rfl, ⟨rfl, e⟩ | ⟨rfl, e⟩⟩ | ⟨rfl, rfl, e⟩ | ⟨rfl, rfl, e⟩
    · rw [e]
      exact nf_word (fact_low hz).2.1 (fact_low hz).1
    · rw [e]
      have := nf_sep (c := 33) (by decide) [] (tl z)
      rw [List.nil_append] at this
      rw [this, nf_nil, List.nil_append]
      exact nf_word (fact_low hz).2.1 (fact_low hz).1
    · rw [e]; decide +kernel
    · rw [e]; decide +kernel
  | .node k ps, h => by
    obtain ⟨hk, h2, h4, hp⟩ := h.node
    have ih : ∀ p ∈ ps, nf (tx p) = wordsOf p := fun p hm => nf_tx p (hp p hm)
    have so : low (openC k) = false ∧ low (closeC k) = false := by
      unfold openC closeC
      split <;> decide
    have sl : low (signC k) = false := by
      rcases node_cases (k := k) hk with rfl | rfl | rfl | rfl <;> decide +kernel
    have e1 := nf_sep so.1 [] (joinL [32, signC k, 32] (ps.map tx) ++ [closeC k])
    rw [List.nil_append] at e1
    rw [tx_node hk, e1, nf_sep so.2, nf_join sl ih, nf_nil, List.nil_append, List.append_nil, wordsOf]
termination_by p => sizeOf p
decreasing_by
  have := size_mem hm
  simp
  omega
end Eh

set_option Elab.async false
set_option linter.all false
set_option maxRecDepth 100000
set_option maxHeartbeats 4000000
/-! What is read from a string near a drawn promise's text stands within the bounds. -/
namespace Eh
open PySem PySem.Spec PyProof.Rows L2
open TL
theorem tk_head : ∀ b : List Nat, ∃ h t, ∀ cur, tk cur b = (cur ++ h) :: t
  | [] => ⟨[], [], fun cur => by rw [tk, List.append_nil]⟩
  | c :: r => by
    obtain ⟨h, t, e⟩ := tk_head r
    cases hc : low c with
    | true => exact ⟨c :: h, t, fun cur => by rw [tk, hc, if_pos rfl, e, List.append_assoc]; rfl⟩
    | false => exact ⟨[], tk [] r, fun cur => by rw [tk, hc, if_neg (by decide), List.append_nil]⟩
theorem tk_last : ∀ (a cur : List Nat), ∃ init last, ∀ b, tk cur (a ++ b) = init ++ tk last b
  | [], cur => ⟨[], cur, fun b => by rw [List.nil_append, List.nil_append]⟩
  | c :: a, cur => by
    cases hc : low c with
    | true =>
      obtain ⟨i, l, e⟩ := tk_last a (cur ++ [c])
      exact ⟨i, l, fun b => by rw [List.cons_append, tk, hc, if_pos rfl, e]⟩
    | false =>
      obtain ⟨i, l, e⟩ := tk_last a []
      exact ⟨cur :: i, l, fun b => by rw [List.cons_append, tk, hc, if_neg (by decide), e]; rfl⟩
theorem near_words {s t : List Nat} (h : Near s t) : ∃ w1 w2, ∀ y ∈ nf t, y ∈ nf s ∨ y = w1 ∨ y = w2 := by
  obtain ⟨a, k, p, hp, ha, hk, rfl⟩ := h
  obtain ⟨iu, lu, eu⟩ := tk_last (s.take a) []
  obtain ⟨im, lm, em⟩ := tk_last (tl p) lu
  obtain ⟨ix, lx, ex⟩ := tk_last ((s.drop a).take k) lu
  obtain ⟨hv, tv, ev⟩ := tk_head (s.drop (a + k))
  obtain ⟨hm, tm, ehm⟩ := tk_head (tl p)
  have es : s = s.take a ++ ((s.drop a).take k ++ s.drop (a + k)) := by
    conv => lhs; rw [← List.take_append_drop a s, ← List.take_append_drop k (s.drop a)]
    rw [List.drop_drop]
  have ets : tk [] s = iu ++ (ix ++ ((lx ++ hv) :: tv)) := by
    conv => lhs; rw [es]
    rw [eu, ex, ev]
  have ett : tk [] (s.take a ++ (tl p ++ s.drop (a + k))) = iu ++ (im ++ ((lm ++ hv) :: tv)) := by rw [eu, em, ev]
  have key : (bentS.all fun p => (tk [] (tl p)).tail.dropLast.all List.isEmpty) = true := by decide +kernel
  have mid := List.all_eq_true.mp key p hp
  rw [ehm [], List.tail_cons] at mid
  have eim : im ++ [lm] = (lu ++ hm) :: tm := by
    have := em []
    rw [List.append_nil, ehm lu, tk] at this
    exact this.symm
  refine ⟨lu ++ hm, lm ++ hv, fun y hy => ?_⟩
  unfold nf at hy
  obtain ⟨hy1, hy2⟩ := List.mem_filter.mp hy
  rw [ett] at hy1
  have ins : y ∈ tk [] s → y ∈ nf s := fun h => List.mem_filter.mpr ⟨h, hy2⟩
  rcases List.mem_append.mp hy1 with h | h
  · exact .inl (ins (by rw [ets]; exact List.mem_append_left _ h))
  · rcases List.mem_append.mp h with h | h
    · refine .inr (.inl ?_)
      cases tm with
      | nil =>
        have := congrArg List.length eim
        rw [List.length_append, List.length_singleton, List.length_singleton] at this
        have e0 : im = [] := List.length_eq_zero_iff.mp (by omega)
        rw [e0] at h
        cases h
      | cons b r =>
        have e2 : im = (lu ++ hm) :: (b :: r).dropLast := by
          have := congrArg List.dropLast eim
          rw [List.dropLast_concat] at this
          rw [this]
          rfl
        rw [e2] at h
        rcases List.mem_cons.mp h with h | h
        · exact h
        · have := List.all_eq_true.mp mid y h
          rw [this] at hy2
          cases hy2
    · rcases List.mem_cons.mp h with h | h
      · exact .inr (.inr h)
      · exact .inl (ins (by rw [ets]; exact List.mem_append_right _ (List.mem_append_right _ (List.mem_cons_of_mem _ h))))
theorem words_mem : ∀ {ps : List Pl} {p : Pl}, p ∈ ps → ∀ w ∈ wordsOf p, w ∈ wordsAll ps
  | q :: ps, p, h, w, hw => by
    rw [wordsAll]
    rcases List.mem_cons.mp h with rfl | h
    · exact List.mem_append_left _ hw
    · exact List.mem_append_right _ (words_mem h w hw)
theorem nodes_part : ∀ {ps : List Pl} {n : Str × V}, n ∈ nodesAll ps → ∃ p, p ∈ ps ∧ n ∈ nodesOf p
  | [], n, h => by rw [nodesAll] at h; cases h
  | q :: r, n, h => by
    rw [nodesAll] at h
    rcases List.mem_append.mp h with h | h
    · exact ⟨q, List.mem_cons_self, h⟩
    · obtain ⟨p, h1, h2⟩ := nodes_part h
      exact ⟨p, List.mem_cons_of_mem _ h1, h2⟩
theorem facts_words : ∀ p : Pl, Tr p → ∀ k z, (k, V.str z) ∈ nodesOf p → tl z ∈ wordsOf p
  | .leaf k t, _, k', z, h => by
    rw [nodesOf] at h
    rw [wordsOf]
    cases List.mem_singleton.mp h
    exact List.mem_singleton_self _
  | .node k ps, h, k', z, hm => by
    rw [nodesOf] at hm
    rcases List.mem_cons.mp hm with e | hm
    · cases e
    · obtain ⟨p, hp, hn⟩ := nodes_part hm
      rw [wordsOf]
      exact words_mem hp _ (facts_words p (h.node.2.2.2 p hp) k' z hn)
termination_by p => sizeOf p
decreasing_by
  have := size_mem hp
  simp
  omega
def plainW (ws : List Str) (w : List Nat) : Prop := w = [121, 101, 115] ∨ w = [110, 111] ∨ ∃ z ∈ ws, w = tl z
mutual
theorem words_in {ws : List Str} : ∀ p : Pl, InW ws (nodesOf p) → ∀ w ∈ wordsOf p, plainW ws w
  | .leaf k t, h, w, hw => by
    rw [wordsOf] at hw
    rw [nodesOf] at h
    rw [List.mem_singleton.mp hw]
    cases t with
    | str z => exact .inr (.inr ⟨z, h k z List.mem_cons_self, rfl⟩)
    | _ =>
      by_cases hk : k = "yes"
      · exact .inl (if_pos hk)
      · exact .inr (.inl (if_neg hk))
  | .node k ps, h, w, hw => by
    rw [wordsOf] at hw
    rw [nodesOf] at h
    exact words_ins ps (fun k z hz => h k z (List.mem_cons_of_mem _ hz)) w hw
theorem words_ins {ws : List Str} : ∀ ps : List Pl, InW ws (nodesAll ps) → ∀ w ∈ wordsAll ps, plainW ws w
  | [], _, w, hw => by rw [wordsAll] at hw; cases hw
  | p :: ps, h, w, hw => by
    rw [wordsAll] at hw
    rw [nodesAll] at h
    rcases List.mem_append.mp hw with hw | hw
    · exact words_in p h.left w hw
    · exact words_ins ps h.right w hw
end
theorem nub_leN {zs us : List Str} (h : ∀ z ∈ zs, z ∈ us) : (nubS zs).length ≤ us.length := by
  obtain ⟨a, b⟩ := nub_fold zs [] List.nodup_nil
  refine nodup_le a fun z hz => h z ?_
  have := (b z).mp hz
  simpa using this
theorem facts_near {s : List Nat} {pl p : Pl} {ws : List Str} (hl : Tr pl) (hp : Tr p) (hw : InW ws (nodesOf pl)) (h : Near (tx pl) (tx p)) : (nubS (factsN (nodesOf p))).length ≤ ws.length + 2 := by
  obtain ⟨w1, w2, hn⟩ := near_words h
  have key : ∀ z ∈ factsN (nodesOf p), z ∈ ws ++ [sOf w1, sOf w2] := fun z hz => by
    unfold factsN at hz
    obtain ⟨⟨k, t⟩, hm, he⟩ := List.mem_filterMap.mp hz
    have he : (if factKinds.contains k = true then (match t with | .str z => some z | _ => none) else none) = some z := he
    split at he
    · rename_i hf
      obtain ⟨z', rfl, hz'⟩ := good_fact (hp.2 _ hm) hf
      have e : z' = z := by simpa using he
      subst e
      obtain ⟨f1, f2, f3, f4⟩ := fact_low hz'
      have hin := facts_words p hp k z' hm
      rw [← nf_tx p hp] at hin
      rcases hn _ hin with h | h | h
      · rw [nf_tx pl hl] at h
        rcases words_in pl hw _ h with h | h | ⟨u, hu, h⟩
        · exact absurd (tl_inj (h.trans (by decide +kernel))) f3
        · exact absurd (tl_inj (h.trans (by decide +kernel))) f4
        · rw [tl_inj h]
          exact List.mem_append_left _ hu
      · have : z' = sOf w1 := tl_inj h
        rw [this]
        exact List.mem_append_right _ List.mem_cons_self
      · have : z' = sOf w2 := tl_inj h
        rw [this]
        exact List.mem_append_right _ (List.mem_cons_of_mem _ List.mem_cons_self)
    · cases he
  have := nub_leN key
  rw [List.length_append] at this
  exact this
theorem tr_full : ∀ p : Pl, Tr p → plFull p = true
  | .leaf k t, _ => by rw [plFull]
  | .node k ps, h => by
    obtain ⟨hk, h2, h4, hp⟩ := h.node
    have ih : ∀ p ∈ ps, plFull p = true := fun p hm => tr_full p (hp p hm)
    have all : ∀ {qs : List Pl}, (∀ p ∈ qs, plFull p = true) → plsFull qs = true := fun {qs} => by
      induction qs with
      | nil => intro _; rw [plsFull]
      | cons q r ihq =>
        intro hq
        rw [plsFull, hq q List.mem_cons_self, ihq fun x hx => hq x (List.mem_cons_of_mem _ hx)]
        rfl
    rw [plFull, all ih]
    cases ps with
    | nil => simp at h2
    | cons q r => rfl
termination_by p => sizeOf p
decreasing_by
  have := size_mem hm
  simp
  omega
theorem depth_pos : ∀ p : Pl, 1 ≤ depthOf p
  | .leaf _ _ => by rw [depthOf]; exact Nat.le_refl _
  | .node _ ps => by rw [depthOf]; omega
theorem choice_le (ns : List (Str × V)) : countIn choiceKinds ns ≤ countIn nodeKinds ns := by
  induction ns with
  | nil => exact Nat.le_refl _
  | cons n r ih =>
    rw [show n :: r = [n] ++ r from rfl, countIn_app, countIn_app, show n = (n.1, n.2) from rfl, countIn_one, countIn_one]
    cases hc : choiceKinds.contains n.1 with
    | true =>
      rw [show nodeKinds.contains n.1 = true from choice_node hc]
      omega
    | false =>
      rw [if_neg Bool.false_ne_true]
      omega
/-- THE BOUNDS -/
theorem near_ok {pl p : Pl} {ws : List Str} (hl : Tr pl) (hp : Tr p) (hw : InW ws (nodesOf pl)) (h3 : ws.length ≤ 3) (h11 : (nodesOf pl).length ≤ 11) (h : Near (tx pl) (tx p)) : okB (nodesOf p) = true := by
  have c1 := tx_cts pl hl
  have c2 := tx_cts p hp
  obtain ⟨n1, n2⟩ := near_cnt h
  have := c1.n
  have := c1.le
  have := c2.n
  have := c2.d
  have := c2.o
  have := choice_le (nodesOf p)
  have := depth_pos p
  have hf := facts_near (s := []) hl hp hw h
  unfold okB boundB
  rw [depth_tree hp.1 (tr_full p hp), decide_eq_true (show (nodesOf p).length ≤ 40 by omega), decide_eq_true (show (nubS (factsN (nodesOf p))).length ≤ 6 by omega), decide_eq_true (show countIn choiceKinds (nodesOf p) ≤ 10 by omega), decide_eq_true (show (1 : Int) ≤ (depthOf p : Int) by omega), decide_eq_true (show (depthOf p : Int) ≤ 8 by omega)]
  rfl
end Eh

set_option Elab.async false
set_option linter.all false
set_option maxRecDepth 100000
set_option maxHeartbeats 4000000
/-! o != x, both of a class with an own == and no own != -/
namespace HNE
open PySem PySem.Spec PyProof.Rows PySem.SeqAt
section
variable {prog : Program} {w : World} {A : Around} {E : Value → Shared → Prop} {h : Heap} {g : Array GenState} {d : Drawn} {t : Nat} {os : OsState} {K : PySem.W.Frag} {x y C f : Addr} {ox : Obj} {od : Option Obj}
theorem ne_entry {Q : Fin → Shared → Prop} (hu : A.units < cLine) (X : K.In h) (I : PySem.W.InstAt h x ox C od) (hs : PySem.W.findIn K (.ref C) "__eq__" = some (some (.ref f))) (hf : PySem.W.isFn K (.ref f) = true)
    (hcall : wpAny (model prog w) A (call (.ref f) [.ref x, .ref y]) (fun v s' => ∃ b, v = .bool b ∧ Q (.done (.ret (.bool (!b)))) s') E ⟨h, g, d, t, os⟩) :
    wpAny (model prog w) A (Builtin.«object.__ne__» ⟨[.ref x, .ref y], []⟩) Q E ⟨h, g, d, t, os⟩ := by
  unfold Builtin.«object.__ne__»
  repeat (first
    | with_reducible refine wpAny_cRoomFor hu ?_
    | (refine wpAny_bind (m := callSpecialIfBound? (.ref x) (Str.ofString "__eq__") [.ref y])
        (PySem.W.ifBound_K X I hs hf (wpAny_mono hcall (fun r s' hr => by
          obtain ⟨b, rfl, hq⟩ := hr
          repeat (first | exact hq | exact wpAny_pure hq | exact wpAny_truthy_bool hq | (refine wpAny_bind (m := truthy (.bool _)) (wpAny_truthy_bool ?_)) | wp_step)) fun _ _ e => e)))
    | wp_step)
theorem ifBound_objNe {M : Model} {s : Shared} {args : List Value} {Q : Option Value → Shared → Prop} (X : K.In s.heap) (I : PySem.W.InstAt s.heap x ox C od) (hs : PySem.W.findIn K (.ref C) "__ne__" = some (some (.builtin "object.__ne__")))
    (h : wpAny M A (call (.builtin "object.__ne__") (.ref x :: args)) (fun v => Q (some v)) E s) : wpAny M A (callSpecialIfBound? (.ref x) "__ne__" args) Q E s := by
  simp only [callSpecialIfBound?, bindSpecialIfBound?]
  refine wpAny_holding (wpAny_bind (wpAny_bind (wpAny_bind (I.type.here ((PySem.W.looks_findIn X hs).here ?_)))))
  refine wpAny_bind (wpAny_askSetting (wpAny_ite ?_))
  have fin : wpAny M A (call (.builtin "object.__ne__") ([.ref x] ++ args) >>= fun v => pure (some v)) Q E s := wpAny_bind (wpAny_mono h (fun v s' h' => wpAny_pure h') fun _ _ h' => h')
  split
  · exact wpAny_bind (wpAny_of_eq (F.cmp_object.ne.bind _) (wpAny_pure (by exact fin)))
  · exact wpAny_tryCatch (wpAny_bind (wpAny_of_eq (F.cmp_object.ne.bind _) (wpAny_pure (by exact fin))))
theorem rc_ne {s : Shared} {Q : Value → Shared → Prop} {oy : Obj} {ody : Option Obj} (hu : A.units + 1 < cLine) (hu2 : A.in1.units < cLine) (X : K.In s.heap) (I : PySem.W.InstAt s.heap x ox C od) (J : PySem.W.InstAt s.heap y oy C ody) (hm : PySem.W.mroIn K C (.type "object") = some true) (hn : PySem.W.findIn K (.ref C) "__ne__" = some (some (.builtin "object.__ne__")))
    (hs : PySem.W.findIn K (.ref C) "__eq__" = some (some (.ref f))) (hf : PySem.W.isFn K (.ref f) = true)
    (hcall : wpAny (model prog w) A.in1 (call (.ref f) [.ref x, .ref y]) (fun v s' => ∃ b, v = .bool b ∧ Q (.bool (!b)) s') E s) : wpAny (model prog w) A (richCompare .NotEq (.ref x) (.ref y)) Q E s := by
  have one : wpAny (model prog w) A (tryCompare (.ref x) "__ne__" (.ref y)) (fun r s' => ∃ v, r = some v ∧ Q v s') E s := by
    unfold tryCompare
    refine wpAny_bind (ifBound_objNe X I hn (wpAny_call (codeAny_call_builtin F.cmp_object.ne.plain F.cmpEntry_ne (PySem.W.check_slot F.cmpKind_ne F.cmpSplit_ne (I.type.andThen (PySem.W.looks_mroIn X hm)) (F.cmpArgs_ne _ _) ?_))))
    obtain ⟨hp, g, d, t, os⟩ := s
    refine ne_entry (A := A.in1) hu2 X I hs hf (wpAny_mono hcall (fun v s' hv => ?_) fun _ _ e => e)
    obtain ⟨b, rfl, hq⟩ := hv
    first | exact ⟨b, rfl, wpAny_pure ⟨_, rfl, hq⟩⟩ | exact ⟨b, rfl, _, rfl, hq⟩ | exact ⟨b, rfl, wpAny_pure (wpAny_pure ⟨_, rfl, hq⟩)⟩
  unfold richCompare
  simp only [oneThing_ref]
  refine wpAny_holding (wpAny_bind (wpAny_cRoomFor (Nat.lt_of_succ_lt hu) ?_))
  rw [PySem.cmpInfo_NotEq]
  dsimp only
  refine wpAny_bind (I.type.here (wpAny_bind (J.type.here ?_)))
  rw [show (Value.ref C != Value.ref C) = false from by simp]
  simp only [Bool.false_eq_true, if_false]
  refine wpAny_bind (wpAny_pure ?_)
  simp only [Bool.false_eq_true, if_false]
  refine wpAny_bind (wpAny_mono one (fun r s' z => ?_) fun _ _ e => e)
  obtain ⟨v, rfl, hq⟩ := z
  exact wpAny_pure hq
end
end HNE
namespace Eh
open PySem PySem.Spec PyProof.Rows L2
section
variable {X : Cx} {n : Nat} {f C : Addr} {fd : FuncData} {ps : List Str} {sp : Sp} {CX : CXT} {E : XK}
def rNeOwn (C : Addr) (sp : Sp) (E : XK) : R2 := fun x y H Q => ∃ a b dx dy fs gs, x = .ref a ∧ y = .ref b ∧ H a = some (.ins C dx fs) ∧ H b = some (.ins C dy gs) ∧ sp [.ref a, .ref b] H (fun v H' => ∃ k, v = .bl k ∧ Q (.bl (!k)) H') E
theorem neOwn (F : FnOk X.prog X.w X.K X.mg X.base CX n f fd ps sp) (hr : Room (n + 1) X.A) (hm : PySem.W.mroIn X.K C (.type "object") = some true) (hn : PySem.W.findIn X.K (.ref C) "__ne__" = some (some (.builtin "object.__ne__"))) (hs : PySem.W.findIn X.K (.ref C) "__eq__" = some (some (.ref f))) (hf : PySem.W.isFn X.K (.ref f) = true) (hb : Binds X.K fd ps []) (hx : Passes CX X E) :
    OpR X (compareOp .NotEq) (rNeOwn C sp E) := by
  intro pins s σ H x y v u Q I rx ry h
  obtain ⟨a, b, dx, dy, fs, gs, rfl, rfl, ha, hb', q⟩ := h
  cases rx
  cases ry
  obtain ⟨mA, J, _⟩ := ins_get I.hok ha
  obtain ⟨mB, J', _⟩ := ins_get I.hok hb'
  obtain ⟨od, J, _⟩ := J.look
  obtain ⟨od', J', _⟩ := J'.look
  have hu : X.A.units + 1 < cLine := by
    have := hr.un
    omega
  show wpAny _ _ (richCompare .NotEq _ _) _ _ _
  refine HNE.rc_ne hu hr.in1.units0 I.kIn J J' hm hn hs hf (wpAny_mono (run_own (us := [.ref a, .ref b]) (vs := [.ref a, .ref b]) F hb hx ⟨hr.in1, rfl⟩ I (.cons rfl (.cons rfl .nil)) q) (fun r s' z => ?_) fun _ _ e => e)
  obtain ⟨z, H', I', rz, k, rfl, q'⟩ := z
  cases rz
  exact ⟨k, rfl, .bl (!k), H', I', rfl, q'⟩
/-- both refs of the class, or both texts -/
def rNeRes (C : Addr) (sp : Sp) : R2 := fun x y H Q => rNeOwn C sp E0 x y H Q ∨ ∃ z z2 : Str, x = .str z ∧ y = .str z2 ∧ Q (.bl (!decide (z = z2))) H
theorem neRes (F : FnOk X.prog X.w X.K X.mg X.base CX n f fd ps sp) (hr : Room (n + 1) X.A) (hm : PySem.W.mroIn X.K C (.type "object") = some true) (hn : PySem.W.findIn X.K (.ref C) "__ne__" = some (some (.builtin "object.__ne__"))) (hs : PySem.W.findIn X.K (.ref C) "__eq__" = some (some (.ref f))) (hf : PySem.W.isFn X.K (.ref f) = true) (hb : Binds X.K fd ps []) (hx : Passes CX X E0) :
    OpR X (compareOp .NotEq) (rNeRes C sp) := by
  intro pins s σ H x y v u Q I rx ry h
  rcases h with h | ⟨z, z2, rfl, rfl, q⟩
  · exact neOwn F hr hm hn hs hf hb hx pins s σ H x y v u Q I rx ry h
  · exact op_ne pins s σ H _ _ v u Q I rx ry ⟨rfl, by rw [show decide (V.str z = V.str z2) = decide (z = z2) from decide_eq_decide.mpr ⟨fun e => by injection e, fun e => by rw [e]⟩]; exact q⟩
end
end Eh

set_option Elab.async false
set_option linter.all false
set_option maxRecDepth 100000
set_option maxHeartbeats 8000000
/-! _law_right -/
namespace Eh
open PySem PySem.Spec PyProof.Rows L2
open TL
section
variable {X : Cx} {n : Nat} {f C : Addr} {fd : FuncData} {ps : List Str} {sp : Sp} {CX : CXT} {E : XK}
/-- [None] != [None] -/
def rNeNL (K : PySem.W.Frag) : R2 := fun x y H Q => ∃ p q, x = .ref p ∧ y = .ref q ∧ SqL K H p [.non] ∧ SqL K H q [.non] ∧ Q (.bl false) H
theorem neNL (hu : X.A.units + 1 < cLine) : OpR X (compareOp .NotEq) (rNeNL X.K) := by
  intro pins s σ H x y v u Q I rx ry h
  obtain ⟨p, q, rfl, rfl, hp, hq, hQ⟩ := h
  cases rx
  cases ry
  obtain ⟨its, r, pl, hz⟩ := I.list hp
  obtain ⟨its2, r2, pl2, hz2⟩ := I.list hq
  cases r with
  | cons a b =>
    cases b
    cases a
    cases r2 with
    | cons a2 b2 =>
      cases b2
      cases a2
      refine SeqAt.RcNeAt.lists (e := fun _ => true) pl.isList pl2.isList rfl (by omega) (fun j h1 h2 => ?_) X.prog X.w _ _ ⟨.bl _, H, I, rfl, ?_⟩
      · have e : j = 0 := Nat.lt_one_iff.mp h1
        subst e
        exact eqAt_V (x := .non) (y := .non) rfl rfl rfl rfl
      · exact hQ
theorem neGot {K : PySem.W.Frag} (hK : X.K = K) (F : FnOk X.prog X.w X.K X.mg X.base CX n f fd ps sp) (hr : Room (n + 1) X.A) (hm : PySem.W.mroIn X.K C (.type "object") = some true) (hn : PySem.W.findIn X.K (.ref C) "__ne__" = some (some (.builtin "object.__ne__"))) (hs : PySem.W.findIn X.K (.ref C) "__eq__" = some (some (.ref f))) (hf : PySem.W.isFn X.K (.ref f) = true) (hb : Binds X.K fd ps []) (hx : Passes CX X E0) :
    OpR X (compareOp .NotEq) (fun x y H Q => rNeOwn C sp E0 x y H Q ∨ rNeNL K x y H Q) := by
  subst hK
  exact (neOwn F hr hm hn hs hf hb hx).or (neNL (by have := hr.un; omega))
end
theorem readN_any {n m : Nat} {s : List Nat} (h1 : s.length ≤ 2 * n + 1) (h2 : s.length ≤ 2 * m + 1) : readN n s = readN m s := by
  cases e : readN n s with
  | some p =>
    obtain ⟨a, b⟩ := read_sound n e
    rw [← a] at h2 ⊢
    exact (read_complete m b h2).symm
  | none =>
    cases e2 : readN m s with
    | none => rfl
    | some q =>
      obtain ⟨a, b⟩ := read_sound m e2
      exact absurd a (read_none e h1 b)
theorem asc_join {sg : Nat} (h : sg < 128) : ∀ {ls : List (List Nat)}, (∀ l ∈ ls, ∀ c ∈ l, c < 128) → ∀ c ∈ joinL [32, sg, 32] ls, c < 128
  | [], _, c, hc => by cases hc
  | [x], hl, c, hc => hl x List.mem_cons_self c hc
  | x :: y :: r, hl, c, hc => by
    have hc : c ∈ x ++ ([32, sg, 32] ++ joinL [32, sg, 32] (y :: r)) := hc
    rcases List.mem_append.mp hc with hc | hc
    · exact hl x List.mem_cons_self c hc
    · rcases List.mem_append.mp hc with hc | hc
      · simp only [List.mem_cons, List.not_mem_nil, or_false] at hc
        omega
      · exact asc_join h (fun l m => hl l (List.mem_cons_of_mem _ m)) c hc
theorem tx_asc : ∀ p : Pl, Tr p → ∀ c ∈ tx p, c < 128
  | .leaf k t, h, c, hc => by
    rcases (tx_leafW h).1 c hc with rfl | h
    · decide
    · have := low_bounds h
      omega
  | .node k ps, h, c, hc => by
    obtain ⟨hk, h2, h4, hp⟩ := h.node
    have ih : ∀ p ∈ ps, ∀ c ∈ tx p, c < 128 := fun p hm => tx_asc p (hp p hm)
    have so : openC k < 128 ∧ closeC k < 128 ∧ signC k < 128 := by
      rcases node_cases (k := k) hk with rfl | rfl | rfl | rfl <;> decide +kernel
    rw [tx_node hk] at hc
    rcases List.mem_cons.mp hc with rfl | hc
    · exact so.1
    · rcases List.mem_append.mp hc with hc | hc
      · refine asc_join so.2.2 (fun l hl => ?_) c hc
        obtain ⟨p, hm, rfl⟩ := List.mem_map.mp hl
        exact ih p hm
      · rw [List.mem_singleton.mp hc]
        exact so.2.1
termination_by p => sizeOf p
decreasing_by
  have := size_mem hm
  simp
  omega
theorem near_self (s : List Nat) : Near s s := ⟨0, 0, "", by decide +kernel, Nat.zero_le _, Nat.zero_le _, by
  rw [show tl ("" : Str) = [] from by decide +kernel]
  rfl⟩
theorem Drawn.tr {pl : Pl} (d : Drawn pl) : Tr pl := ⟨d.ok, d.good⟩
section
variable {P : Program} {w : World} {K : PySem.W.Frag} {mg : Str → Option Value} {base : Heap}
def spTextG (K : PySem.W.Frag) (C : Addr) : Sp := fun vs H Q _ => ∃ a ns t, vs = [.ref a] ∧ PrG K C H a ns ∧ dueGo 1 ns = true ∧ ns.length < 1000 ∧ stackT ns = [t] ∧ ∀ H', Same H H' → Q (.str t) H'
theorem ok_textG {C fI fL fT f : Addr} {fdT fd : FuncData} (F : Fun K "text" "Promise.text" s_Promise_text f fd) (PC : PromC K mg C fI fL) (C_text_of : Cal P w K mg base 2 "text_of" fT fdT ["nodes"] (spText K)) : FnOk P w K mg base CX0 3 f fd ["self"] (spTextG K C) := by
  refine F.ok sc_Promise_text (fun vs H Q E h => ?_) (fun cdv A outer s H vs Q E hr h => ?_)
  · obtain ⟨a, ns, t, rfl, _⟩ := h
    rfl
  · obtain ⟨a, ns, t, rfl, ⟨dx, p, xs, ha, hs, hN, ho⟩, hd, hl, ht, q⟩ := h
    refine ⟨_, (pss_one (ps_ret (pe_call C_text_of.G hr (by rfl) C_text_of.m C_text_of.k C_text_of.b .nil pass0 (pa_cons (pe_fld (pv 0) rfl) pa_nil)))), ?_⟩
    exact ⟨_, rfl, a, C, dx, _, .ref p, rfl, ha, PC.cl, PC.nn, rfl, p, xs, ns, t, rfl, hs, hN, ho, hd, by rw [hN.length]; exact hl, ht, q⟩
theorem prg_same {C a : Addr} {ns : List (Str × V)} {H H' : Hp} (s : Same H H') (h : PrG K C H a ns) : PrG K C H' a ns := by
  obtain ⟨dx, p, xs, e, hs, hN, g⟩ := h
  exact ⟨dx, p, xs, s _ _ e, (stk s).seq hs, hN.tk (stk s), g⟩
theorem eq_own {C a b : Addr} {ns : List (Str × V)} {H : Hp} {Q : VK} (ha : PrG K C H a ns) (hb : PrG K C H b ns) (q : Q (.bl false) H) : rNeOwn C (spEqG K C) E0 (.ref a) (.ref b) H Q := by
  obtain ⟨dx, p, xs, e1, r1⟩ := id ha
  obtain ⟨dy, p2, ys, e2, r2⟩ := id hb
  exact ⟨a, b, dx, dy, _, _, rfl, rfl, e1, e2, a, b, ns, ns, rfl, ha, hb, _, rfl, by rw [decide_eq_true rfl]; exact q⟩
def spRight7 : Sp := fun vs H Q _ => ∃ d, vs = [.ref d] ∧ D3 H d ∧ ∀ H', Gr d H H' → Q (.bl true) H'
theorem ok_right7 {pL : Nat} (hpL : pL ≤ 200) {C CE fI fL fP fT fM fG fR fB fTx pT f : Addr} {fdP fdT fdM fdG fdR fdB fdTx fd : FuncData} (F : Fun K "_law_right" "_law_right" s__law_right f fd) (T : Txt mg) (PC : PromC K mg C fI fL) (IC : IsC K C)
    (C__law_promise : Cal P w K mg base pL "_law_promise" fP fdP ["dice"] (spPromise K)) (C__law_text : Cal P w K mg base 12 "_law_text" fT fdT ["plain"] (spTextL K 11))
    (GM : FnOk P w K mg base (L2.CX P w) 46 fM fdM ["plain"] (spMadeE K C CE 40)) (mM : mg "_law_made" = some (.ref fM)) (kM : PySem.W.keepIn K (.ref fM) = true) (bM : Binds K fdM ["plain"] [])
    (C__law_got : Cal P w K mg base 7 "_law_got" fG fdG ["text"] (spGotZ K C)) (C__law_read : Cal P w K mg base 202 "_law_read" fR fdR ["text"] (spReadL K 100)) (C__law_bent : Cal P w K mg base 3 "_law_bent" fB fdB ["dice", "text"] spBent)
    {d4 : Addr} {fe4 : FuncData} (DE : DunC P w K mg base C "__eq__" 1 ["self", "value"] (spEqG K C) d4 fe4) (hNe : PySem.W.findIn K (.ref C) "__ne__" = some (some (.builtin "object.__ne__"))) (PT : PropC P w K mg base C "text" 3 (spTextG K C) pT fTx fdTx) :
    FnOk P w K mg base CX0 203 f fd ["dice"] spRight7 := by
  refine F.ok sc__law_right (fun vs H Q E h => ?_) (fun cdv A outer s H vs Q E hr h => ?_)
  · obtain ⟨d, rfl, _⟩ := h
    rfl
  · obtain ⟨d, rfl, D, q⟩ := h
    have hrP := hr.mono (j := pL) (by omega)
    have hr46 := hr.mono (j := 46) (by omega)
    have hr12 := hr.mono (j := 12) (by omega)
    have hr7 := hr.mono (j := 7) (by omega)
    have hr4 := hr.mono (j := 4) (by omega)
    have hr3 := hr.mono (j := 3) (by omega)
    have hr2 := hr.mono (j := 2) (by omega)
    refine ⟨_, (pss_cons (ps_set (i := 1) sc__law_right.nd rfl (.inl rfl) (pe_call C__law_promise.G hrP (by rfl) C__law_promise.m C__law_promise.k C__law_promise.b .nil pass0 (pa_cons (pv 0) pa_nil)))
  (pss_cons (ps_set (i := 2) sc__law_right.nd rfl (.inl rfl) (pe_call C__law_text.G hr12 (by rfl) C__law_text.m C__law_text.k C__law_text.b .nil pass0 (pa_cons (pv 1) pa_nil)))
  (pss_cons (ps_if (PW.pt (pw_or (pt_cmpR (neOwn DE.ok hr2 IC.mro hNe DE.s DE.f DE.b pass0) (pe_call C__law_got.G hr7 (by rfl) C__law_got.m C__law_got.k C__law_got.b .nil pass0 (pa_cons (pv 2) pa_nil)) (pe_call (E := E0) GM hr46 (by rfl) mM kM bM .nil passL (pa_cons (pv 1) pa_nil)) (nomark _)) (pw_or1 (pt_cmpR (neD (K := K) rfl (hu64e hr)) (pe_call C__law_read.G hr (by rfl) C__law_read.m C__law_read.k C__law_read.b .nil pass0 (pa_cons (pv 2) pa_nil)) (pv 1) (nomark _)))))
  (pss_one (ps_ret pe_bl))
  pss_nil)
  (pss_cons (ps_for PassesOwn.never (by rfl) (pi_range1 (by rfl) T.range_ (pa_cons pe_int pa_nil)) (pg_name (i := 3) sc__law_right.nd rfl (.inl rfl))
  (pss_cons (ps_set (i := 4) sc__law_right.nd rfl (.inl rfl) (pe_call C__law_bent.G hr3 (by rfl) C__law_bent.m C__law_bent.k C__law_bent.b .nil pass0 (pa_cons (pv 0) (pa_cons (pv 2) pa_nil))))
  (pss_cons (ps_set (i := 5) sc__law_right.nd rfl (.inl rfl) (pe_call C__law_read.G hr (by rfl) C__law_read.m C__law_read.k C__law_read.b .nil pass0 (pa_cons (pv 4) pa_nil)))
  (pss_cons (ps_set (i := 6) sc__law_right.nd rfl (.inl rfl) (pe_call C__law_got.G hr7 (by rfl) C__law_got.m C__law_got.k C__law_got.b .nil pass0 (pa_cons (pv 4) pa_nil)))
  (pss_one (ps_if (PW.pt (pw_or (pt_cmpR (neGot (K := K) rfl DE.ok hr2 IC.mro hNe DE.s DE.f DE.b pass0) (pv 6) (pe_ifExp (pt_cmpR op_isN (pv 5) pe_non (nomark _)) (pe_lst (pa_cons pe_non pa_nil)) (pe_call (E := E0) GM hr46 (by rfl) mM kM bM .nil passL (pa_cons (pv 5) pa_nil))) (nomark _)) (pw_or1 (PW.pt (pw_and (pt_cmpR op_notN (pv 5) pe_non (nomark _)) (pw_and1 (pt_cmpR op_ne (pe_prop (pv 6) PC.cl PT.p PT.ok hr4 PT.b .nil pass0 rfl) (pv 4) (nomark _))))))))
  (pss_one (ps_ret pe_bl))
  pss_nil))))))
  (pss_one (ps_ret pe_bl)))))), ?_⟩
    refine ⟨_, rfl, d, rfl, D, fun v pl ws H1 g1 A1 hw3 hwu hwi hl11 hc4 => ?_⟩
    have dp := Drawn.of A1 hwu hwi hl11
    have hlen := text_len A1 dp.w
    have tr := dp.tr
    refine ⟨_, rfl, v, pl, rfl, A1, dp.w, hl11, by decide, fun H2 s2 => ?_⟩
    have g2 := g1.trans (same_gr g1.dice s2)
    have A2 := A1.tk (stk s2)
    have hz : (textOf pl).length ≤ 180 := by omega
    have hasc : ∀ c ∈ tl (textOf pl), c < 128 := tx_asc pl tr
    have hok : okB (nodesOf pl) = true := near_ok tr tr hwi hw3 hl11 (near_self _)
    have hrz : readZ (textOf pl) = some pl := readZ_of tr hok
    have rd : ∀ {H' : Hp}, RdV K H' (.str (textOf pl)) (some pl) := fun {H'} => by
      rw [← hrz]
      exact .str (by omega) hasc
    have hdep : depthOf pl ≤ 32 := by
      have h8 := hok
      unfold okB boundB at h8
      rw [depth_tree tr.1 (tr_full pl tr)] at h8
      simp only [Bool.and_eq_true, decide_eq_true_eq] at h8
      omega
    refine ⟨_, rfl, .str (textOf pl), some pl, rfl, rd, fun p ep a H3 s3 na pa => ?_, fun e => nomatch e⟩
    cases ep
    refine ⟨_, rfl, ?_⟩
    dsimp only [tNil]
    refine ⟨v, pl, rfl, A2.tk (stk s3), dp.good, by omega, by decide, fun _ x H4 s4 nx px => ?_, fun e => by rw [hok] at e; cases e⟩
    refine eq_own (prg_same s4 pa) px ⟨_, rfl, iteF ?_⟩
    refine ⟨_, rfl, textOf pl, rfl, by omega, by omega, fun u H5 s5 tu => ?_⟩
    have er : readN (100 - 1) (tl (textOf pl)) = some pl := read_complete _ tr (by have := len_tl (textOf pl); show (tl (textOf pl)).length ≤ 2 * (100 - 1) + 1; omega)
    rw [er] at tu
    have A5 := A2.tk (stk (s3.trans (s4.trans s5)))
    have tu : At K H5 u pl := tu
    refine ⟨_, rfl, dataOf pl, dataOf pl, dp_tree tu tr.2, dp_tree A5 tr.2, tree_shaped tr.2 hdep, tree_shaped tr.2 hdep, ?_⟩
    rw [(tree_eqv tr.2 tr.2).mpr rfl]
    refine ⟨_, rfl, iteF ?_⟩
    have g5 : Gr d H H5 := g2.trans (same_gr g2.dice (s3.trans (s4.trans s5)))
    have eG := g5.dice
    refine ⟨12, rfl, by decide, by decide, ?_⟩
    refine for_range (lo := 0) (n := 12) (fun i σ H6 => (∃ x3 x4 x5 x6, σ = [some (.ref d), some v, some (.str (textOf pl)), x3, x4, x5, x6]) ∧ Gr d H H6) ⟨⟨_, _, _, _, rfl⟩, g5⟩ ?_ ?_
    · rintro i σ H6 hi ⟨⟨x3, x4, x5, x6, rfl⟩, g6⟩
      refine ⟨_, rfl, _, rfl, d, textOf pl, rfl, g6.dice, by omega, fun y H7 g7 near => ?_⟩
      have g67 := g6.trans g7
      have ny := near.length
      have yl : y.length ≤ 183 := by
        rw [← len_tl]
        have := len_tl (textOf pl)
        omega
      have ya := near.asc hasc
      refine ⟨_, rfl, y, rfl, by omega, by omega, fun u2 H8 s8 tu2 => ?_⟩
      have tu2 : TupO K H8 u2 (readN 99 (tl y)) := tu2
      have yl2 := len_tl y
      have any : readN y.length (tl y) = readN 99 (tl y) := readN_any (by omega) (by omega)
      cases hrd : readN 99 (tl y) with
      | none =>
        rw [hrd] at tu2 any
        have tu2 : u2 = .non := tu2
        subst tu2
        have rz : readZ y = none := by unfold readZ; rw [any]
        have rdy : RdV K H8 (.str y) none := by rw [← rz]; exact .str (by omega) ya
        refine ⟨_, rfl, .str y, none, rfl, rdy, fun p e => (nomatch e), fun _ l H9 s9 nl el => ?_⟩
        have g9 := g67.trans (same_gr g67.dice (s8.trans s9))
        refine ⟨_, rfl, _, rfl, rfl, _, rfl, iteT' (decide_eq_true rfl) ⟨lenOk 1, fun l2 nl2 => ?_⟩⟩
        have s10 : Same H9 (upd H9 l2 (.lst [.non])) := same_new nl2
        refine .inr ⟨l, l2, rfl, rfl, SqL.of (s10 _ _ el), SqL.of upd_same, _, rfl, iteF ?_⟩
        refine ⟨_, rfl, rfl, _, rfl, iteF' (by rw [decide_eq_true rfl]; rfl) (iteF ?_)⟩
        exact ⟨⟨_, _, _, _, rfl⟩, g9.trans (same_gr g9.dice s10)⟩
      | some p =>
        rw [hrd] at tu2 any
        have tu2 : At K H8 u2 p := tu2
        obtain ⟨etx, trp⟩ := read_sound _ hrd
        have hokp : okB (nodesOf p) = true := near_ok tr trp hwi hw3 hl11 (by rw [etx]; exact near)
        have rz : readZ y = some p := by unfold readZ; rw [any]; show (if okB (nodesOf p) = true then some p else none) = _; rw [if_pos hokp]
        have rdy : RdV K H8 (.str y) (some p) := by rw [← rz]; exact .str (by omega) ya
        refine ⟨_, rfl, .str y, some p, rfl, rdy, fun p' e a9 H9 s9 na9 pa9 => ?_, fun e => nomatch e⟩
        cases e
        have g9 := g67.trans (same_gr g67.dice (s8.trans s9))
        have une : u2 ≠ .non := fun e => by
          subst e
          cases tu2
        refine ⟨_, rfl, _, rfl, rfl, _, rfl, iteF' (decide_eq_false une) ⟨_, rfl, ?_⟩⟩
        dsimp only [tNil]
        have l40 : (nodesOf p).length ≤ 40 := by
          have h8 := hokp
          unfold okB at h8
          rw [Bool.and_eq_true, decide_eq_true_eq] at h8
          exact h8.1
        refine ⟨u2, p, rfl, tu2.tk (stk s9), trp.2, l40, by decide, fun _ x H10 s10 nx px => ?_, fun e => by rw [hokp] at e; cases e⟩
        have pa10 := prg_same s10 pa9
        have g10 := g9.trans (same_gr g9.dice s10)
        refine .inl (eq_own pa10 px ⟨_, rfl, iteF ?_⟩)
        refine ⟨_, rfl, rfl, _, rfl, iteT' (by rw [decide_eq_false une]; rfl) ?_⟩
        obtain ⟨dx9, p9, xs9, e9, r9⟩ := id pa10
        have due : dueGo 1 (nodesOf p) = true := by
          have h8 := hokp
          unfold okB boundB at h8
          simp only [Bool.and_eq_true, decide_eq_true_eq] at h8
          exact (depth_due trp.2).mp h8.2.2.1
        have st := tree_stack p trp.1 []
        rw [List.append_nil] at st
        refine ⟨_, rfl, a9, dx9, _, rfl, e9, a9, nodesOf p, textOf p, rfl, pa10, due, by omega, st, fun H11 s11 => ?_⟩
        have ety : textOf p = y := tl_inj etx
        refine ⟨_, rfl, rfl, _, rfl, iteF' (by rw [ety, decide_eq_true rfl]; rfl) ?_⟩
        exact ⟨⟨_, _, _, _, rfl⟩, g10.trans (same_gr g10.dice s11)⟩
    · rintro σ H6 ⟨_, g6⟩
      exact q H6 g6
end
end Eh

set_option Elab.async false
set_option linter.all false
set_option maxRecDepth 100000
set_option maxHeartbeats 8000000
/-! the law of k07 -/
namespace Eh
open PySem PySem.Spec PyProof.Rows L2
open TL
open ClX
def odd1 : List Str := ["", "a & b", "(a)", "(a & b", "(a & b | c)", "[a & b]", "(a + b)", "!(a & b)", "!!a", "!yes", "( a & b)", "(a &b)"]
def odd2 : List Str := ["(a & a & a & a & a)", "a ", " a", "(a  & b)", "[a]", "()", "a b", "[a + b)"]
def oddB (z : Str) : Bool := (readZ z).isNone && (decide (z.length ≤ 9000) && (tl z).all fun c => decide (c < 128))
theorem odd1_ok : odd1.all oddB = true := by decide +kernel
theorem odd2_ok : odd2.all oddB = true := by decide +kernel
theorem oddB_rd {K : PySem.W.Frag} {H : Hp} {z : Str} (h : oddB z = true) : RdV K H (.str z) none := by
  unfold oddB at h
  rw [Bool.and_eq_true, Bool.and_eq_true, decide_eq_true_eq, List.all_eq_true] at h
  have e : readZ z = none := Option.isNone_iff_eq_none.mp h.1
  rw [← e]
  exact .str h.2.1 fun c hc => of_decide_eq_true (h.2.2 c hc)
def lawP7 : Pl := .node "yours" [.leaf "no" (.int 0), .leaf "yes" (.int 0), .leaf "not" (.str "not")]
def lawN7 : List (Str × V) := [("yours", .int 3), ("no", .int 0), ("yes", .int 0), ("not", .str "not")]
theorem lawP7_nodes : nodesOf lawP7 = lawN7 := by
  unfold lawP7 lawN7
  simp only [nodesOf, nodesAll, List.append_nil, List.cons_append, List.nil_append, List.length_cons, List.length_nil]
  rfl
theorem lawN7_good : GoodN lawN7 := by
  intro n hn
  have h : (lawN7.all fun n => nodeAB n.1 n.2) = true := by decide +kernel
  exact List.all_eq_true.mp h n hn
theorem lawP7_tr : Tr lawP7 := ⟨by decide +kernel, by rw [lawP7_nodes]; exact lawN7_good⟩
theorem lawP7_text : textOf lawP7 = "[no * yes * !not]" := by
  unfold lawP7
  simp only [textOf, textAll]
  decide +kernel
theorem lawP7_ok : okB (nodesOf lawP7) = true := by
  rw [lawP7_nodes]
  decide +kernel
theorem lawZ7 : readZ "[no * yes * !not]" = some lawP7 := by
  rw [← lawP7_text]
  exact readZ_of lawP7_tr lawP7_ok
theorem neNLk {X : Cx} {K : PySem.W.Frag} (h : X.K = K) (hu : X.A.units + 1 < cLine) : OpR X (compareOp .NotEq) (rNeNL K) := by
  subst h
  exact neNL hu
section
variable {P : Program} {w : World} {K : PySem.W.Frag} {mg : Str → Option Value} {base : Heap}
def spLaw (K : PySem.W.Frag) : Sp := fun vs H Q _ => ∃ (a : Addr) (ns : List Int), vs = [.ref a] ∧ SqL K H a (ns.map V.int) ∧ ns.length ≤ 63 ∧ ∀ H', Q (.bl true) H'
theorem ok_law7 {C CP fI fL fD fR fG f : Addr} {fdD fdR fdG fd : FuncData} (F : Fun K "law" "law" s_law f fd) (T : Txt mg) (PC : PromC K mg C fI fL)
    (C__law_dice : Cal P w K mg base 1 "_law_dice" fD fdD ["script", "spot"] (spDice K)) (C__law_right : Cal P w K mg base 203 "_law_right" fR fdR ["dice"] spRight7) (C__law_got : Cal P w K mg base 7 "_law_got" fG fdG ["text"] (spGotZ K C))
    {p1 g1 : Addr} {fd1 : FuncData} (PN : PropC P w K mg base C "nodes" 1 (spNodesP K C) p1 g1 fd1)
    {mc : Value} (CR : CRead K C mc) {q1 r1 : Addr} {fr1 : FuncData} (M1 : CMet K C mc "read" q1 r1) (GR : FnOk P w K mg base (L2.CX P w) 6 r1 fr1 ["cls", "text"] (spReadZ K C CP)) (bR : Binds K fr1 ["cls", "text"] []) :
    FnOk P w K mg base CX0 204 f fd ["script"] (spLaw K) := by
  refine F.ok sc_law (fun vs H Q E h => ?_) (fun cdv A outer s H vs Q E hr h => ?_)
  · obtain ⟨a, ns, rfl, _⟩ := h
    rfl
  · obtain ⟨a, ns, rfl, hS, hl, q⟩ := h
    have hr7 := hr.mono (j := 7) (by omega)
    have hr6 := hr.mono (j := 6) (by omega)
    have hr2 := hr.mono (j := 2) (by omega)
    have hr1 := hr.mono (j := 1) (by omega)
    refine ⟨_, (pss_cons (ps_for PassesOwn.never (by rfl) (pi_range1 (by rfl) T.range_ (pa_cons (pe_callB (call_max2 (by rfl)) (by rfl) T.max_ (by decide +kernel) (pa_cons pe_int (pa_cons (pe_callB (call_min2 (by rfl)) (by rfl) T.min_ (by decide +kernel) (pa_cons pe_int (pa_cons (pe_callB (lenQ (K := K) rfl) (by rfl) T.len_ (by decide +kernel) (pa_cons (pv 0) pa_nil)) pa_nil))) pa_nil))) pa_nil)) (pg_name (i := 1) sc_law.nd rfl (.inl rfl))
  (pss_cons (ps_set (i := 2) sc_law.nd rfl (.inl rfl) (pe_call C__law_dice.G hr1 (by rfl) C__law_dice.m C__law_dice.k C__law_dice.b .nil pass0 (pa_cons (pv 0) (pa_cons (pv 1) pa_nil))))
  (pss_one (ps_for PassesOwn.never (by rfl) (pi_range1 (by rfl) T.range_ (pa_cons pe_int pa_nil)) (pg_name (i := 3) sc_law.nd rfl (.inl rfl))
  (pss_one (ps_if (pt_not (pt_val (pe_call C__law_right.G hr (by rfl) C__law_right.m C__law_right.k C__law_right.b .nil pass0 (pa_cons (pv 2) pa_nil))))
  (pss_one (ps_ret pe_bl))
  pss_nil))))))
  (pss_cons (ps_set (i := 4) sc_law.nd rfl (.inl rfl) (pe_lst (pa_cons pe_non (pa_cons pe_int (pa_cons pe_str (pa_cons pe_str (pa_cons pe_str (pa_cons pe_str (pa_cons pe_str (pa_cons pe_str (pa_cons pe_str (pa_cons pe_str (pa_cons pe_str (pa_cons pe_str (pa_cons pe_str (pa_cons pe_str pa_nil))))))))))))))))
  (pss_cons (ps_set (i := 4) sc_law.nd rfl (.inl rfl) (pe_op op_cat (pv 4) (pe_lst (pa_cons (pe_tup (pa_cons pe_str pa_nil)) (pa_cons (pe_lst (pa_cons pe_str pa_nil)) (pa_cons pe_bl (pa_cons pe_str (pa_cons pe_str (pa_cons pe_str (pa_cons pe_str (pa_cons pe_str (pa_cons pe_str (pa_cons pe_str (pa_cons pe_str pa_nil))))))))))))))
  (pss_cons (ps_if (pt_cmpR (neEL (K := K) rfl (hu0k hr)) (pe_lc (own := [("value", 5)]) (g := gName 5) (by rfl) sc_law.nd (piL (K := K) rfl (pv 4)) (blkOk_by (by kernel_rfl)) (fun _ _ _ _ _ => (pg_name (i := 5) sc_law.nd rfl (.inl rfl))) (fun _ _ _ _ _ => (pts_one (pt_cmpR (neNLk (K := K) rfl (hu1e hr)) (pe_call C__law_got.G hr7 (by rfl) C__law_got.m C__law_got.k C__law_got.b .nil pass0 (pa_cons (pv 5) pa_nil)) (pe_lst (pa_cons pe_non pa_nil)) (nomark _)))) (fun _ _ _ _ _ => (pv 5))) (pe_lst pa_nil) (nomark _))
  (pss_one (ps_ret pe_bl))
  pss_nil)
  (pss_one (ps_ret (pe_cmpR (eqD (K := K) rfl (hu64e hr)) (pe_prop (pe_cmeth (E := E0) (pe_glob (v := .ref C) rfl PC.g rfl) CR M1 (toR GR bR) hr6 passL (pa_cons pe_str pa_nil)) PC.cl PN.p PN.ok hr2 PN.b .nil pass0 rfl) (pe_tup (pa_cons (pe_tup (pa_cons pe_str (pa_cons pe_int pa_nil))) (pa_cons (pe_tup (pa_cons pe_str (pa_cons pe_int pa_nil))) (pa_cons (pe_tup (pa_cons pe_str (pa_cons pe_int pa_nil))) (pa_cons (pe_tup (pa_cons pe_str (pa_cons pe_str pa_nil))) pa_nil))))) (nomark _)))))))), ?_⟩
    refine ⟨_, rfl, .inl ⟨a, _, rfl, .inl hS, _, _, rfl, _, _, rfl, ?_⟩⟩
    obtain ⟨mm, em, hm⟩ : ∃ m : Int, (if (if ((ns.map V.int).length : Int) < 8 then ((ns.map V.int).length : Int) else 8) > 1 then (if ((ns.map V.int).length : Int) < 8 then ((ns.map V.int).length : Int) else 8) else 1) = m ∧ 0 ≤ m ∧ m ≤ 8 := by
      refine ⟨_, rfl, ?_⟩
      split <;> (try split) <;> omega
    rw [em]
    refine ⟨mm, rfl, by omega, by omega, ?_⟩
    refine for_range (lo := 0) (n := mm.toNat) (fun i σ H2 => (∃ x1 x2 x3 x4 x5, σ = [some (.ref a), x1, x2, x3, x4, x5]) ∧ Same H H2) ⟨⟨none, none, none, none, none, rfl⟩, Same.refl H⟩ ?_ ?_
    · rintro i σ H2 hi ⟨⟨x1, x2, x3, x4, x5, rfl⟩, s2⟩
      refine ⟨_, rfl, _, rfl, a, ns, i, by rw [Int.zero_add]; rfl, s2.seq hS, fun d H3 s3 n3 D3' => ?_⟩
      have nd : H d = none := s2.free n3
      refine ⟨4, rfl, by decide, by decide, ?_⟩
      refine for_range (lo := 0) (n := 4) (fun j σ H4 => (∃ x1 x3 x4 x5, σ = [some (.ref a), x1, some (.ref d), x3, x4, x5]) ∧ Same H H4 ∧ D3 H4 d) ⟨⟨_, _, _, _, rfl⟩, s2.trans s3, D3'⟩ ?_ ?_
      · rintro j σ H4 hj ⟨⟨x1, x3, x4, x5, rfl⟩, s4, D4⟩
        refine ⟨_, rfl, d, rfl, D4, fun H5 g5 => ⟨_, rfl, iteF ?_⟩⟩
        exact ⟨⟨_, _, _, _, rfl⟩, gr_same nd s4 g5, g5.dice⟩
      · rintro σ H4 ⟨⟨x1, x3, x4, x5, rfl⟩, s4, D4⟩
        exact ⟨⟨_, _, _, _, _, rfl⟩, s4⟩
    · rintro σ H2 ⟨⟨x1, x2, x3, x4, x5, rfl⟩, s2⟩
      clear s2
      refine ⟨lenOk 14, fun l1 n1 => ?_⟩
      have e1 : (upd H2 l1 (.lst (.non :: .int 0 :: odd1.map V.str))) l1 = some (.lst (.non :: .int 0 :: odd1.map V.str)) := upd_same
      refine ⟨_, rfl, lenOk 1, fun t nt => ⟨lenOk 1, fun l2 n2 => ⟨lenOk 11, fun l3 n3 => ?_⟩⟩⟩
      obtain ⟨Hc, eHc⟩ : ∃ Hc, Hc = upd (upd (upd (upd H2 l1 (.lst (.non :: .int 0 :: odd1.map V.str))) t (.tup [.str "a"])) l2 (.lst [.str "a"])) l3 (.lst (.ref t :: .ref l2 :: .bl true :: odd2.map V.str)) := ⟨_, rfl⟩
      have u2 : Same _ (upd _ t (.tup [.str "a"])) := same_new nt
      have u3 : Same _ (upd _ l2 (.lst [.str "a"])) := same_new n2
      have u4 : Same _ (upd _ l3 (.lst (.ref t :: .ref l2 :: .bl true :: odd2.map V.str))) := same_new n3
      have c1 : Hc l1 = some (.lst (.non :: .int 0 :: odd1.map V.str)) := by rw [eHc]; exact u4 _ _ (u3 _ _ (u2 _ _ upd_same))
      have ct : Hc t = some (.tup [.str "a"]) := by rw [eHc]; exact u4 _ _ (u3 _ _ upd_same)
      have c2 : Hc l2 = some (.lst [.str "a"]) := by rw [eHc]; exact u4 _ _ upd_same
      have c3 : Hc l3 = some (.lst (.ref t :: .ref l2 :: .bl true :: odd2.map V.str)) := by rw [eHc]; exact upd_same
      show rCat (V.ref l1) (V.ref l3) (upd (upd (upd (upd H2 l1 (.lst (.non :: .int 0 :: odd1.map V.str))) t (.tup [.str "a"])) l2 (.lst [.str "a"])) l3 (.lst (.ref t :: .ref l2 :: .bl true :: odd2.map V.str))) _
      rw [← eHc]
      clear eHc u2 u3 u4 n1 n2 n3 nt e1
      refine ⟨l1, l3, _, _, rfl, rfl, c1, c3, lenS 25, fun l4 n4 => ?_⟩
      obtain ⟨XS, eXS⟩ : ∃ XS, XS = (.non :: .int 0 :: odd1.map V.str) ++ (.ref t :: .ref l2 :: .bl true :: odd2.map V.str) := ⟨_, rfl⟩
      have s5 : Same Hc (upd Hc l4 (.lst XS)) := same_new n4
      have all : ∀ {H' : Hp}, Same Hc H' → ∀ x ∈ XS, RdV K H' x none := fun {H'} s' x hx => by
        rw [eXS] at hx
        rcases List.mem_append.mp hx with hx | hx
        · rcases List.mem_cons.mp hx with rfl | hx
          · exact .other (fun z e => (nomatch e)) (.base .non) (kit_ty (by decide +kernel))
          · rcases List.mem_cons.mp hx with rfl | hx
            · exact .other (fun z e => (nomatch e)) (.base (.int 0)) (kit_ty (by decide +kernel))
            · obtain ⟨z, hz, rfl⟩ := List.mem_map.mp hx
              exact oddB_rd (List.all_eq_true.mp odd1_ok z hz)
        · rcases List.mem_cons.mp hx with rfl | hx
          · exact .other (fun z e => (nomatch e)) (ty_tup (SqT.of (s' _ _ ct))) (kit_ty (by decide +kernel))
          · rcases List.mem_cons.mp hx with rfl | hx
            · exact .other (fun z e => (nomatch e)) (.base (.lst (s' _ _ c2))) (kit_ty (by decide +kernel))
            · rcases List.mem_cons.mp hx with rfl | hx
              · exact .other (fun z e => (nomatch e)) (.base (.bl true)) (kit_ty (by decide +kernel))
              · obtain ⟨z, hz, rfl⟩ := List.mem_map.mp hx
                exact oddB_rd (List.all_eq_true.mp odd2_ok z hz)
      have hxl : XS.length = 25 := by rw [eXS]; rfl
      have e5 : (upd Hc l4 (.lst XS)) l4 = some (.lst XS) := upd_same
      show gName 4 (V.ref l4) _ (upd Hc l4 (.lst ((.non :: .int 0 :: odd1.map V.str) ++ (.ref t :: .ref l2 :: .bl true :: odd2.map V.str)))) _
      rw [← eXS]
      clear eXS
      generalize upd Hc l4 (.lst XS) = H5 at s5 e5 ⊢
      refine ⟨_, rfl, l4, rfl, ⟨XS, SqL.of e5⟩, fun D nD => ?_⟩
      refine lcL (fun j acc H6 => Same H5 H6 ∧ acc = []) ⟨same_new nD, rfl⟩ (fun j acc H6 h => SqL.of (h.1 _ _ e5)) ?_ ?_
      · rintro j x acc H6 hx hl2 e6 ⟨s6, rfl⟩
        have rd := all (s5.trans s6) x (List.mem_of_getElem? hx)
        refine ⟨_, rfl, x, none, rfl, rd, fun p e => (nomatch e), fun _ lg H7 s7 ng eg => ?_⟩
        refine ⟨lenOk 1, fun l9 n9 => ?_⟩
        have s9 : Same H7 (upd H7 l9 (.lst [.non])) := same_new n9
        refine ⟨lg, l9, rfl, rfl, SqL.of (s9 _ _ eg), SqL.of upd_same, _, rfl, iteF ?_⟩
        exact ⟨[], Nat.zero_le _, s9 _ _ (s7 _ _ e6), s6.trans (s7.trans s9), rfl⟩
      · rintro acc H6 hl2 e6 ⟨s6, rfl⟩
        refine ⟨Nat.zero_le _, fun l9 n9 => ?_⟩
        refine ⟨D, l9, [], rfl, rfl, SqL.of (same_new n9 _ _ e6), SqL.of upd_same, _, rfl, iteF ?_⟩
        generalize upd H6 l9 (.lst []) = H7
        have rd : RdV K H7 (.str "[no * yes * !not]") (some lawP7) := by
          rw [← lawZ7]
          exact .str (by decide +kernel) (fun c hc => of_decide_eq_true (List.all_eq_true.mp (show ((tl ("[no * yes * !not]" : Str)).all fun c => decide (c < 128)) = true by decide +kernel) c hc))
        refine ⟨rfl, ?_⟩
        dsimp only [tNil]
        refine ⟨_, some lawP7, rfl, rd, fun p ep aa H8 s8 na pa => ?_, fun e => nomatch e⟩
        cases ep
        rw [lawP7_nodes] at pa
        obtain ⟨dx, pp, xs, ea, hs, hN, hg⟩ := id pa
        refine ⟨aa, dx, _, rfl, ea, aa, dx, _, pp, rfl, ea, rfl, ?_⟩
        refine ⟨lenOk 2, fun t1 m1 => ⟨lenOk 2, fun t2 m2 => ⟨lenOk 2, fun t3 m3 => ⟨lenOk 2, fun t4 m4 => ⟨lenOk 4, fun t5 m5 => ?_⟩⟩⟩⟩⟩
        have w1 : Same _ (upd _ t1 (.tup [.str "yours", .int 3])) := same_new m1
        have w2 : Same _ (upd _ t2 (.tup [.str "no", .int 0])) := same_new m2
        have w3 : Same _ (upd _ t3 (.tup [.str "yes", .int 0])) := same_new m3
        have w4 : Same _ (upd _ t4 (.tup [.str "not", .str "not"])) := same_new m4
        have w5 : Same _ (upd _ t5 (.tup [.ref t1, .ref t2, .ref t3, .ref t4])) := same_new m5
        have hN5 : NdsAt K _ [.ref t1, .ref t2, .ref t3, .ref t4] lawN7 := .cons (SqT.of (w5 _ _ (w4 _ _ (w3 _ _ (w2 _ _ upd_same))))) (.cons (SqT.of (w5 _ _ (w4 _ _ (w3 _ _ upd_same)))) (.cons (SqT.of (w5 _ _ (w4 _ _ upd_same))) (.cons (SqT.of (w5 _ _ upd_same)) .nil)))
        have wA := w1.trans (w2.trans (w3.trans (w4.trans w5)))
        refine ⟨nodesD lawN7, nodesD lawN7, .tup ((stk wA).seq hs) (dp_nodesG (hN.tk (stk wA)) hg), .tup (SqT.of upd_same) (dp_nodesG hN5 lawN7_good), nodes_shapedG lawN7_good, nodes_shapedG lawN7_good, ?_⟩
        rw [nodes_eqvG lawN7_good lawN7_good, decide_eq_true rfl]
        exact q _
end
end Eh

set_option Elab.async false
set_option linter.all false
set_option maxRecDepth 100000
namespace Eh
open PySem PySem.Spec PyProof.Rows L2
theorem kit_self {K : PySem.W.Frag} {C : Addr} : PySem.W.kitOne K (.ref C) (.ref C) = some true := by
  unfold PySem.W.kitOne
  rw [if_pos (beq_self_eq_true (Value.ref C))]
theorem kit_off {K : PySem.W.Frag} {C : Addr} {T : String} (i : PySem.W.isClsIn K C = true) (t : PySem.W.typeIn K (.ref C) = some (.type "type")) (h : (PySem.fastBuiltinMro T).map (·.contains (.ref C)) = some false) : PySem.W.kitOne K (.type T) (.ref C) = some false := by
  unfold PySem.W.kitOne
  rw [if_neg (by show ¬ (false = true); decide)]
  have j : ((PySem.W.clsIn K C).isSome && PySem.W.typeIn K (.ref C) == some (.type "type")) = true := by
    rw [show (PySem.W.clsIn K C).isSome = true from i, t]
    decide
  exact (if_pos j).trans h
example {C : Addr} : (PySem.fastBuiltinMro "int").map (·.contains (.ref C)) = some false := by kernel_rfl
end Eh

set_option Elab.async false
set_option linter.all false
set_option maxRecDepth 100000
set_option maxHeartbeats 8000000
set_option pp.deepTerms false
set_option pp.maxSteps 30
namespace Eh
open PySem PySem.Spec PyProof.Rows L2
theorem all_mk {l : PySem.W.OpenLaw} {w : World} {K : PySem.W.Frag} {h : Heap} {mg : Str → Option Value} {fa : Addr} (X : K.In h) (G : h.Ns mainGlobals mg) (hfa : mg "law" = some (.ref fa))
    {t_MAX_LETTERS : Tok} (i_MAX_LETTERS : PySem.W.nsIn K mainGlobals "MAX_LETTERS" = some (some (.int 8 t_MAX_LETTERS)))
    {t_LEAST_PARTS : Tok} (i_LEAST_PARTS : PySem.W.nsIn K mainGlobals "LEAST_PARTS" = some (some (.int 2 t_LEAST_PARTS)))
    {t_MOST_PARTS : Tok} (i_MOST_PARTS : PySem.W.nsIn K mainGlobals "MOST_PARTS" = some (some (.int 4 t_MOST_PARTS)))
    {t_MAX_NODES : Tok} (i_MAX_NODES : PySem.W.nsIn K mainGlobals "MAX_NODES" = some (some (.int 40 t_MAX_NODES)))
    {t_MAX_FACTS : Tok} (i_MAX_FACTS : PySem.W.nsIn K mainGlobals "MAX_FACTS" = some (some (.int 6 t_MAX_FACTS)))
    {t_MAX_CHOICES : Tok} (i_MAX_CHOICES : PySem.W.nsIn K mainGlobals "MAX_CHOICES" = some (some (.int 10 t_MAX_CHOICES)))
    {t_MAX_DEPTH : Tok} (i_MAX_DEPTH : PySem.W.nsIn K mainGlobals "MAX_DEPTH" = some (some (.int 8 t_MAX_DEPTH)))
    {E_InvalidPromise : Addr} (x1_InvalidPromise : PySem.W.nsIn K mainGlobals "InvalidPromise" = some (some (.ref E_InvalidPromise)))
    (x2_InvalidPromise : PySem.W.excIn K E_InvalidPromise [.type "ValueError", .type "Exception", .type "BaseException", .type "object"] "ValueError.__new__" = true)
    (x3_InvalidPromise : PySem.W.keepIn K (.ref E_InvalidPromise) = true) (x4_InvalidPromise : PySem.W.subIn K (.ref E_InvalidPromise) (.type "BaseException") = some true) (x5_InvalidPromise : PySem.W.typeIn K (.ref E_InvalidPromise) = some (.type "type")) (x6_InvalidPromise : PySem.W.isClsIn K E_InvalidPromise = true) (x7_InvalidPromise : PySem.W.subIn K (.ref E_InvalidPromise) (.ref E_InvalidPromise) = some true)
    {C : Addr} (gC : PySem.W.nsIn K mainGlobals "Promise" = some (some (.ref C))) (pg : PySem.W.plainGet K C Str.empty = true) (hd : PySem.W.hasDictIn K C = true) (po : PySem.W.plainOver K C = true) (sa : PySem.W.findIn K (.ref C) "__setattr__" = some (some (.builtin "object.__setattr__"))) (mk : PySem.W.makesIn K C = true) (kc : PySem.W.keepIn K (.ref C) = true) (nN : PySem.W.findIn K (.ref C) "_nodes" = some none)
    {g_Promise___init__ : Addr} (a_Promise___init__ : PySem.W.findIn K (.ref C) "__init__" = some (some (.ref g_Promise___init__))) (i_Promise___init__ : PySem.W.isFn K (.ref g_Promise___init__) = true)
    {od_Promise___init__ an_Promise___init__ : Option Addr} {sl_Promise___init__ : Array (Option Value)} {oc_Promise___init__ kV_Promise___init__ dc_Promise___init__ pm_Promise___init__ ct_Promise___init__ : Value} {cd_Promise___init__ : Value} (l_Promise___init__ : K.lookup g_Promise___init__ = some ⟨oc_Promise___init__, od_Promise___init__, .func (PySem.W.fnOf "__init__" "Promise.__init__" (defArgs s_Promise___init__) (defBody s_Promise___init__) (defScope s_Promise___init__) .none kV_Promise___init__ dc_Promise___init__ pm_Promise___init__ an_Promise___init__ cd_Promise___init__ ct_Promise___init__), sl_Promise___init__⟩) (c_Promise___init__ : PySem.W.codeIn K cd_Promise___init__ "Promise.__init__" = true) (k_Promise___init__ : PySem.W.keepIn K (.ref g_Promise___init__) = true)
    {g_Promise___len__ : Addr} (a_Promise___len__ : PySem.W.findIn K (.ref C) "__len__" = some (some (.ref g_Promise___len__))) (i_Promise___len__ : PySem.W.isFn K (.ref g_Promise___len__) = true)
    {od_Promise___len__ an_Promise___len__ : Option Addr} {sl_Promise___len__ : Array (Option Value)} {oc_Promise___len__ kV_Promise___len__ dc_Promise___len__ pm_Promise___len__ ct_Promise___len__ : Value} {cd_Promise___len__ : Value} (l_Promise___len__ : K.lookup g_Promise___len__ = some ⟨oc_Promise___len__, od_Promise___len__, .func (PySem.W.fnOf "__len__" "Promise.__len__" (defArgs s_Promise___len__) (defBody s_Promise___len__) (defScope s_Promise___len__) .none kV_Promise___len__ dc_Promise___len__ pm_Promise___len__ an_Promise___len__ cd_Promise___len__ ct_Promise___len__), sl_Promise___len__⟩) (c_Promise___len__ : PySem.W.codeIn K cd_Promise___len__ "Promise.__len__" = true) (k_Promise___len__ : PySem.W.keepIn K (.ref g_Promise___len__) = true)
    (ic1 : PySem.W.findIn K (.ref C) "__class__" = some (some (.builtin "object.__class__"))) (ic2 : PySem.W.specialIn K (.builtin "object.__class__") "__get__" = some (some (.builtin "getset_descriptor.__get__"))) (ic3 : PySem.W.takesIn K (.builtin "object.__class__") = some true) (ic4 : PySem.W.mroIn K C (.type "object") = some true) (ic5 : PySem.W.typeIn K (.ref C) = some (.type "type")) (ic6 : PySem.W.isClsIn K C = true)
    (os1 : PySem.W.subIn K (.ref C) (.type "NoneType") = some false) (os2 : PySem.W.subIn K (.ref C) (.type "bool") = some false) (os3 : PySem.W.subIn K (.ref C) (.type "int") = some false) (os4 : PySem.W.subIn K (.ref C) (.type "str") = some false) (os5 : PySem.W.subIn K (.ref C) (.type "tuple") = some false) (os6 : PySem.W.subIn K (.ref C) (.type "dict") = some false)
    {pS : Addr} {nS : Nat} {Sh1 Sh2 Sh3 Sh4 : Int} {St1 Su1 St2 Su2 St3 Su3 St4 Su4 : Tok} (yS1 : PySem.W.nsIn K mainGlobals "SIGNS" = some (some (.ref pS))) (yS2 : K.lookup pS = some ⟨.type "dict", none, .dict #[⟨Sh1, .str "all" St1, .str " & " Su1⟩, ⟨Sh2, .str "mine" St2, .str " + " Su2⟩, ⟨Sh3, .str "some" St3, .str " | " Su3⟩, ⟨Sh4, .str "yours" St4, .str " * " Su4⟩] nS, #[]⟩)
    (yS3 : PySem.W.KeysLit w.params [⟨Sh1, .str "all" St1, .str " & " Su1⟩, ⟨Sh2, .str "mine" St2, .str " + " Su2⟩, ⟨Sh3, .str "some" St3, .str " | " Su3⟩, ⟨Sh4, .str "yours" St4, .str " * " Su4⟩])
    (yS4 : (pS == sysModules) = false)
    {pD : Addr} {nD : Nat} {Dh1 Dh2 Dh3 Dh4 : Int} {Dt1 Du1 Dt2 Du2 Dt3 Du3 Dt4 Du4 : Tok} (yD1 : PySem.W.nsIn K mainGlobals "SIGNED" = some (some (.ref pD))) (yD2 : K.lookup pD = some ⟨.type "dict", none, .dict #[⟨Dh1, .str "&" Dt1, .str "all" Du1⟩, ⟨Dh2, .str "+" Dt2, .str "mine" Du2⟩, ⟨Dh3, .str "|" Dt3, .str "some" Du3⟩, ⟨Dh4, .str "*" Dt4, .str "yours" Du4⟩] nD, #[]⟩)
    (yD3 : PySem.W.KeysLit w.params [⟨Dh1, .str "&" Dt1, .str "all" Du1⟩, ⟨Dh2, .str "+" Dt2, .str "mine" Du2⟩, ⟨Dh3, .str "|" Dt3, .str "some" Du3⟩, ⟨Dh4, .str "*" Dt4, .str "yours" Du4⟩])
    (yD4 : (pD == sysModules) = false)
    (hNe : PySem.W.findIn K (.ref C) "__ne__" = some (some (.builtin "object.__ne__")))
    {f__law_roll : Addr} (a__law_roll : PySem.W.nsIn K mainGlobals "_law_roll" = some (some (.ref f__law_roll)))
    {od__law_roll an__law_roll : Option Addr} {sl__law_roll : Array (Option Value)} {oc__law_roll kV__law_roll dc__law_roll pm__law_roll ct__law_roll : Value} {cd__law_roll : Value} (l__law_roll : K.lookup f__law_roll = some ⟨oc__law_roll, od__law_roll, .func (PySem.W.fnOf "_law_roll" "_law_roll" (defArgs s__law_roll) (defBody s__law_roll) (defScope s__law_roll) .none kV__law_roll dc__law_roll pm__law_roll an__law_roll cd__law_roll ct__law_roll), sl__law_roll⟩) (c__law_roll : PySem.W.codeIn K cd__law_roll "_law_roll" = true) (k__law_roll : PySem.W.keepIn K (.ref f__law_roll) = true)
    {f__law_pick : Addr} (a__law_pick : PySem.W.nsIn K mainGlobals "_law_pick" = some (some (.ref f__law_pick)))
    {od__law_pick an__law_pick : Option Addr} {sl__law_pick : Array (Option Value)} {oc__law_pick kV__law_pick dc__law_pick pm__law_pick ct__law_pick : Value} {cd__law_pick : Value} (l__law_pick : K.lookup f__law_pick = some ⟨oc__law_pick, od__law_pick, .func (PySem.W.fnOf "_law_pick" "_law_pick" (defArgs s__law_pick) (defBody s__law_pick) (defScope s__law_pick) .none kV__law_pick dc__law_pick pm__law_pick an__law_pick cd__law_pick ct__law_pick), sl__law_pick⟩) (c__law_pick : PySem.W.codeIn K cd__law_pick "_law_pick" = true) (k__law_pick : PySem.W.keepIn K (.ref f__law_pick) = true)
    {f__law_some : Addr} (a__law_some : PySem.W.nsIn K mainGlobals "_law_some" = some (some (.ref f__law_some)))
    {od__law_some an__law_some : Option Addr} {sl__law_some : Array (Option Value)} {oc__law_some kV__law_some dc__law_some pm__law_some ct__law_some : Value} {cd__law_some : Value} (l__law_some : K.lookup f__law_some = some ⟨oc__law_some, od__law_some, .func (PySem.W.fnOf "_law_some" "_law_some" (defArgs s__law_some) (defBody s__law_some) (defScope s__law_some) .none kV__law_some dc__law_some pm__law_some an__law_some cd__law_some ct__law_some), sl__law_some⟩) (c__law_some : PySem.W.codeIn K cd__law_some "_law_some" = true) (k__law_some : PySem.W.keepIn K (.ref f__law_some) = true)
    {f__law_dice : Addr} (a__law_dice : PySem.W.nsIn K mainGlobals "_law_dice" = some (some (.ref f__law_dice)))
    {od__law_dice an__law_dice : Option Addr} {sl__law_dice : Array (Option Value)} {oc__law_dice kV__law_dice dc__law_dice pm__law_dice ct__law_dice : Value} {cd__law_dice : Value} (l__law_dice : K.lookup f__law_dice = some ⟨oc__law_dice, od__law_dice, .func (PySem.W.fnOf "_law_dice" "_law_dice" (defArgs s__law_dice) (defBody s__law_dice) (defScope s__law_dice) .none kV__law_dice dc__law_dice pm__law_dice an__law_dice cd__law_dice ct__law_dice), sl__law_dice⟩) (c__law_dice : PySem.W.codeIn K cd__law_dice "_law_dice" = true) (k__law_dice : PySem.W.keepIn K (.ref f__law_dice) = true)
    {f_is_integer : Addr} (a_is_integer : PySem.W.nsIn K mainGlobals "is_integer" = some (some (.ref f_is_integer)))
    {od_is_integer an_is_integer : Option Addr} {sl_is_integer : Array (Option Value)} {oc_is_integer kV_is_integer dc_is_integer pm_is_integer ct_is_integer : Value} {cd_is_integer : Value} (l_is_integer : K.lookup f_is_integer = some ⟨oc_is_integer, od_is_integer, .func (PySem.W.fnOf "is_integer" "is_integer" (defArgs s_is_integer) (defBody s_is_integer) (defScope s_is_integer) .none kV_is_integer dc_is_integer pm_is_integer an_is_integer cd_is_integer ct_is_integer), sl_is_integer⟩) (c_is_integer : PySem.W.codeIn K cd_is_integer "is_integer" = true) (k_is_integer : PySem.W.keepIn K (.ref f_is_integer) = true)
    {f_is_fact : Addr} (a_is_fact : PySem.W.nsIn K mainGlobals "is_fact" = some (some (.ref f_is_fact)))
    {od_is_fact an_is_fact : Option Addr} {sl_is_fact : Array (Option Value)} {oc_is_fact kV_is_fact dc_is_fact pm_is_fact ct_is_fact : Value} {cd_is_fact : Value} (l_is_fact : K.lookup f_is_fact = some ⟨oc_is_fact, od_is_fact, .func (PySem.W.fnOf "is_fact" "is_fact" (defArgs s_is_fact) (defBody s_is_fact) (defScope s_is_fact) .none kV_is_fact dc_is_fact pm_is_fact an_is_fact cd_is_fact ct_is_fact), sl_is_fact⟩) (c_is_fact : PySem.W.codeIn K cd_is_fact "is_fact" = true) (k_is_fact : PySem.W.keepIn K (.ref f_is_fact) = true)
    {f_is_node : Addr} (a_is_node : PySem.W.nsIn K mainGlobals "is_node" = some (some (.ref f_is_node)))
    {od_is_node an_is_node : Option Addr} {sl_is_node : Array (Option Value)} {oc_is_node kV_is_node dc_is_node pm_is_node ct_is_node : Value} {cd_is_node : Value} (l_is_node : K.lookup f_is_node = some ⟨oc_is_node, od_is_node, .func (PySem.W.fnOf "is_node" "is_node" (defArgs s_is_node) (defBody s_is_node) (defScope s_is_node) .none kV_is_node dc_is_node pm_is_node an_is_node cd_is_node ct_is_node), sl_is_node⟩) (c_is_node : PySem.W.codeIn K cd_is_node "is_node" = true) (k_is_node : PySem.W.keepIn K (.ref f_is_node) = true)
    {f_depth_of : Addr} (a_depth_of : PySem.W.nsIn K mainGlobals "depth_of" = some (some (.ref f_depth_of)))
    {od_depth_of an_depth_of : Option Addr} {sl_depth_of : Array (Option Value)} {oc_depth_of kV_depth_of dc_depth_of pm_depth_of ct_depth_of : Value} {cd_depth_of : Value} (l_depth_of : K.lookup f_depth_of = some ⟨oc_depth_of, od_depth_of, .func (PySem.W.fnOf "depth_of" "depth_of" (defArgs s_depth_of) (defBody s_depth_of) (defScope s_depth_of) .none kV_depth_of dc_depth_of pm_depth_of an_depth_of cd_depth_of ct_depth_of), sl_depth_of⟩) (c_depth_of : PySem.W.codeIn K cd_depth_of "depth_of" = true) (k_depth_of : PySem.W.keepIn K (.ref f_depth_of) = true)
    {f_facts_of : Addr} (a_facts_of : PySem.W.nsIn K mainGlobals "facts_of" = some (some (.ref f_facts_of)))
    {od_facts_of an_facts_of : Option Addr} {sl_facts_of : Array (Option Value)} {oc_facts_of kV_facts_of dc_facts_of pm_facts_of ct_facts_of : Value} {cd_facts_of : Value} (l_facts_of : K.lookup f_facts_of = some ⟨oc_facts_of, od_facts_of, .func (PySem.W.fnOf "facts_of" "facts_of" (defArgs s_facts_of) (defBody s_facts_of) (defScope s_facts_of) .none kV_facts_of dc_facts_of pm_facts_of an_facts_of cd_facts_of ct_facts_of), sl_facts_of⟩) (c_facts_of : PySem.W.codeIn K cd_facts_of "facts_of" = true) (k_facts_of : PySem.W.keepIn K (.ref f_facts_of) = true)
    {f_choices_of : Addr} (a_choices_of : PySem.W.nsIn K mainGlobals "choices_of" = some (some (.ref f_choices_of)))
    {od_choices_of an_choices_of : Option Addr} {sl_choices_of : Array (Option Value)} {oc_choices_of kV_choices_of dc_choices_of pm_choices_of ct_choices_of : Value} {cd_choices_of : Value} (l_choices_of : K.lookup f_choices_of = some ⟨oc_choices_of, od_choices_of, .func (PySem.W.fnOf "choices_of" "choices_of" (defArgs s_choices_of) (defBody s_choices_of) (defScope s_choices_of) .none kV_choices_of dc_choices_of pm_choices_of an_choices_of cd_choices_of ct_choices_of), sl_choices_of⟩) (c_choices_of : PySem.W.codeIn K cd_choices_of "choices_of" = true) (k_choices_of : PySem.W.keepIn K (.ref f_choices_of) = true)
    {f__are_nodes : Addr} (a__are_nodes : PySem.W.nsIn K mainGlobals "_are_nodes" = some (some (.ref f__are_nodes)))
    {od__are_nodes an__are_nodes : Option Addr} {sl__are_nodes : Array (Option Value)} {oc__are_nodes kV__are_nodes dc__are_nodes pm__are_nodes ct__are_nodes : Value} {cd__are_nodes : Value} (l__are_nodes : K.lookup f__are_nodes = some ⟨oc__are_nodes, od__are_nodes, .func (PySem.W.fnOf "_are_nodes" "_are_nodes" (defArgs s__are_nodes) (defBody s__are_nodes) (defScope s__are_nodes) .none kV__are_nodes dc__are_nodes pm__are_nodes an__are_nodes cd__are_nodes ct__are_nodes), sl__are_nodes⟩) (c__are_nodes : PySem.W.codeIn K cd__are_nodes "_are_nodes" = true) (k__are_nodes : PySem.W.keepIn K (.ref f__are_nodes) = true)
    {f__law_is_leaf : Addr} (a__law_is_leaf : PySem.W.nsIn K mainGlobals "_law_is_leaf" = some (some (.ref f__law_is_leaf)))
    {od__law_is_leaf an__law_is_leaf : Option Addr} {sl__law_is_leaf : Array (Option Value)} {oc__law_is_leaf kV__law_is_leaf dc__law_is_leaf pm__law_is_leaf ct__law_is_leaf : Value} {cd__law_is_leaf : Value} (l__law_is_leaf : K.lookup f__law_is_leaf = some ⟨oc__law_is_leaf, od__law_is_leaf, .func (PySem.W.fnOf "_law_is_leaf" "_law_is_leaf" (defArgs s__law_is_leaf) (defBody s__law_is_leaf) (defScope s__law_is_leaf) .none kV__law_is_leaf dc__law_is_leaf pm__law_is_leaf an__law_is_leaf cd__law_is_leaf ct__law_is_leaf), sl__law_is_leaf⟩) (c__law_is_leaf : PySem.W.codeIn K cd__law_is_leaf "_law_is_leaf" = true) (k__law_is_leaf : PySem.W.keepIn K (.ref f__law_is_leaf) = true)
    {f__law_leaf : Addr} (a__law_leaf : PySem.W.nsIn K mainGlobals "_law_leaf" = some (some (.ref f__law_leaf)))
    {od__law_leaf an__law_leaf : Option Addr} {sl__law_leaf : Array (Option Value)} {oc__law_leaf kV__law_leaf dc__law_leaf pm__law_leaf ct__law_leaf : Value} {cd__law_leaf : Value} (l__law_leaf : K.lookup f__law_leaf = some ⟨oc__law_leaf, od__law_leaf, .func (PySem.W.fnOf "_law_leaf" "_law_leaf" (defArgs s__law_leaf) (defBody s__law_leaf) (defScope s__law_leaf) .none kV__law_leaf dc__law_leaf pm__law_leaf an__law_leaf cd__law_leaf ct__law_leaf), sl__law_leaf⟩) (c__law_leaf : PySem.W.codeIn K cd__law_leaf "_law_leaf" = true) (k__law_leaf : PySem.W.keepIn K (.ref f__law_leaf) = true)
    {f__law_nodes : Addr} (a__law_nodes : PySem.W.nsIn K mainGlobals "_law_nodes" = some (some (.ref f__law_nodes)))
    {od__law_nodes an__law_nodes : Option Addr} {sl__law_nodes : Array (Option Value)} {oc__law_nodes kV__law_nodes dc__law_nodes pm__law_nodes ct__law_nodes : Value} {cd__law_nodes : Value} (l__law_nodes : K.lookup f__law_nodes = some ⟨oc__law_nodes, od__law_nodes, .func (PySem.W.fnOf "_law_nodes" "_law_nodes" (defArgs s__law_nodes) (defBody s__law_nodes) (defScope s__law_nodes) .none kV__law_nodes dc__law_nodes pm__law_nodes an__law_nodes cd__law_nodes ct__law_nodes), sl__law_nodes⟩) (c__law_nodes : PySem.W.codeIn K cd__law_nodes "_law_nodes" = true) (k__law_nodes : PySem.W.keepIn K (.ref f__law_nodes) = true)
    {f__law_count : Addr} (a__law_count : PySem.W.nsIn K mainGlobals "_law_count" = some (some (.ref f__law_count)))
    {od__law_count an__law_count : Option Addr} {sl__law_count : Array (Option Value)} {oc__law_count kV__law_count dc__law_count pm__law_count ct__law_count : Value} {cd__law_count : Value} (l__law_count : K.lookup f__law_count = some ⟨oc__law_count, od__law_count, .func (PySem.W.fnOf "_law_count" "_law_count" (defArgs s__law_count) (defBody s__law_count) (defScope s__law_count) .none kV__law_count dc__law_count pm__law_count an__law_count cd__law_count ct__law_count), sl__law_count⟩) (c__law_count : PySem.W.codeIn K cd__law_count "_law_count" = true) (k__law_count : PySem.W.keepIn K (.ref f__law_count) = true)
    {f__law_drawn : Addr} (a__law_drawn : PySem.W.nsIn K mainGlobals "_law_drawn" = some (some (.ref f__law_drawn)))
    {od__law_drawn an__law_drawn : Option Addr} {sl__law_drawn : Array (Option Value)} {oc__law_drawn kV__law_drawn dc__law_drawn pm__law_drawn ct__law_drawn : Value} {cd__law_drawn : Value} (l__law_drawn : K.lookup f__law_drawn = some ⟨oc__law_drawn, od__law_drawn, .func (PySem.W.fnOf "_law_drawn" "_law_drawn" (defArgs s__law_drawn) (defBody s__law_drawn) (defScope s__law_drawn) .none kV__law_drawn dc__law_drawn pm__law_drawn an__law_drawn cd__law_drawn ct__law_drawn), sl__law_drawn⟩) (c__law_drawn : PySem.W.codeIn K cd__law_drawn "_law_drawn" = true) (k__law_drawn : PySem.W.keepIn K (.ref f__law_drawn) = true)
    {f__law_known : Addr} (a__law_known : PySem.W.nsIn K mainGlobals "_law_known" = some (some (.ref f__law_known)))
    {od__law_known an__law_known : Option Addr} {sl__law_known : Array (Option Value)} {oc__law_known kV__law_known dc__law_known pm__law_known ct__law_known : Value} {cd__law_known : Value} (l__law_known : K.lookup f__law_known = some ⟨oc__law_known, od__law_known, .func (PySem.W.fnOf "_law_known" "_law_known" (defArgs s__law_known) (defBody s__law_known) (defScope s__law_known) .none kV__law_known dc__law_known pm__law_known an__law_known cd__law_known ct__law_known), sl__law_known⟩) (c__law_known : PySem.W.codeIn K cd__law_known "_law_known" = true) (k__law_known : PySem.W.keepIn K (.ref f__law_known) = true)
    {f__law_promise : Addr} (a__law_promise : PySem.W.nsIn K mainGlobals "_law_promise" = some (some (.ref f__law_promise)))
    {od__law_promise an__law_promise : Option Addr} {sl__law_promise : Array (Option Value)} {oc__law_promise kV__law_promise dc__law_promise pm__law_promise ct__law_promise : Value} {cd__law_promise : Value} (l__law_promise : K.lookup f__law_promise = some ⟨oc__law_promise, od__law_promise, .func (PySem.W.fnOf "_law_promise" "_law_promise" (defArgs s__law_promise) (defBody s__law_promise) (defScope s__law_promise) .none kV__law_promise dc__law_promise pm__law_promise an__law_promise cd__law_promise ct__law_promise), sl__law_promise⟩) (c__law_promise : PySem.W.codeIn K cd__law_promise "_law_promise" = true) (k__law_promise : PySem.W.keepIn K (.ref f__law_promise) = true)
    {f_plain_text : Addr} (a_plain_text : PySem.W.nsIn K mainGlobals "plain_text" = some (some (.ref f_plain_text)))
    {od_plain_text an_plain_text : Option Addr} {sl_plain_text : Array (Option Value)} {oc_plain_text kV_plain_text dc_plain_text pm_plain_text ct_plain_text : Value} {cd_plain_text : Value} (l_plain_text : K.lookup f_plain_text = some ⟨oc_plain_text, od_plain_text, .func (PySem.W.fnOf "plain_text" "plain_text" (defArgs s_plain_text) (defBody s_plain_text) (defScope s_plain_text) .none kV_plain_text dc_plain_text pm_plain_text an_plain_text cd_plain_text ct_plain_text), sl_plain_text⟩) (c_plain_text : PySem.W.codeIn K cd_plain_text "plain_text" = true) (k_plain_text : PySem.W.keepIn K (.ref f_plain_text) = true)
    {f_bracketed : Addr} (a_bracketed : PySem.W.nsIn K mainGlobals "bracketed" = some (some (.ref f_bracketed)))
    {od_bracketed an_bracketed : Option Addr} {sl_bracketed : Array (Option Value)} {oc_bracketed kV_bracketed dc_bracketed pm_bracketed ct_bracketed : Value} {cd_bracketed : Value} (l_bracketed : K.lookup f_bracketed = some ⟨oc_bracketed, od_bracketed, .func (PySem.W.fnOf "bracketed" "bracketed" (defArgs s_bracketed) (defBody s_bracketed) (defScope s_bracketed) .none kV_bracketed dc_bracketed pm_bracketed an_bracketed cd_bracketed ct_bracketed), sl_bracketed⟩) (c_bracketed : PySem.W.codeIn K cd_bracketed "bracketed" = true) (k_bracketed : PySem.W.keepIn K (.ref f_bracketed) = true)
    {f_text_of : Addr} (a_text_of : PySem.W.nsIn K mainGlobals "text_of" = some (some (.ref f_text_of)))
    {od_text_of an_text_of : Option Addr} {sl_text_of : Array (Option Value)} {oc_text_of kV_text_of dc_text_of pm_text_of ct_text_of : Value} {cd_text_of : Value} (l_text_of : K.lookup f_text_of = some ⟨oc_text_of, od_text_of, .func (PySem.W.fnOf "text_of" "text_of" (defArgs s_text_of) (defBody s_text_of) (defScope s_text_of) .none kV_text_of dc_text_of pm_text_of an_text_of cd_text_of ct_text_of), sl_text_of⟩) (c_text_of : PySem.W.codeIn K cd_text_of "text_of" = true) (k_text_of : PySem.W.keepIn K (.ref f_text_of) = true)
    {f__plain_node : Addr} (a__plain_node : PySem.W.nsIn K mainGlobals "_plain_node" = some (some (.ref f__plain_node)))
    {od__plain_node an__plain_node : Option Addr} {sl__plain_node : Array (Option Value)} {oc__plain_node kV__plain_node dc__plain_node pm__plain_node ct__plain_node : Value} {cd__plain_node : Value} (l__plain_node : K.lookup f__plain_node = some ⟨oc__plain_node, od__plain_node, .func (PySem.W.fnOf "_plain_node" "_plain_node" (defArgs s__plain_node) (defBody s__plain_node) (defScope s__plain_node) .none kV__plain_node dc__plain_node pm__plain_node an__plain_node cd__plain_node ct__plain_node), sl__plain_node⟩) (c__plain_node : PySem.W.codeIn K cd__plain_node "_plain_node" = true) (k__plain_node : PySem.W.keepIn K (.ref f__plain_node) = true)
    {f__split : Addr} (a__split : PySem.W.nsIn K mainGlobals "_split" = some (some (.ref f__split)))
    {od__split an__split : Option Addr} {sl__split : Array (Option Value)} {oc__split kV__split dc__split pm__split ct__split : Value} {cd__split : Value} (l__split : K.lookup f__split = some ⟨oc__split, od__split, .func (PySem.W.fnOf "_split" "_split" (defArgs s__split) (defBody s__split) (defScope s__split) .none kV__split dc__split pm__split an__split cd__split ct__split), sl__split⟩) (c__split : PySem.W.codeIn K cd__split "_split" = true) (k__split : PySem.W.keepIn K (.ref f__split) = true)
    {f_nodes_in : Addr} (a_nodes_in : PySem.W.nsIn K mainGlobals "nodes_in" = some (some (.ref f_nodes_in)))
    {od_nodes_in an_nodes_in : Option Addr} {sl_nodes_in : Array (Option Value)} {oc_nodes_in kV_nodes_in dc_nodes_in pm_nodes_in ct_nodes_in : Value} {cd_nodes_in : Value} (l_nodes_in : K.lookup f_nodes_in = some ⟨oc_nodes_in, od_nodes_in, .func (PySem.W.fnOf "nodes_in" "nodes_in" (defArgs s_nodes_in) (defBody s_nodes_in) (defScope s_nodes_in) .none kV_nodes_in dc_nodes_in pm_nodes_in an_nodes_in cd_nodes_in ct_nodes_in), sl_nodes_in⟩) (c_nodes_in : PySem.W.codeIn K cd_nodes_in "nodes_in" = true) (k_nodes_in : PySem.W.keepIn K (.ref f_nodes_in) = true)
    {f__copied : Addr} (a__copied : PySem.W.nsIn K mainGlobals "_copied" = some (some (.ref f__copied)))
    {od__copied an__copied : Option Addr} {sl__copied : Array (Option Value)} {oc__copied kV__copied dc__copied pm__copied ct__copied : Value} {cd__copied : Value} (l__copied : K.lookup f__copied = some ⟨oc__copied, od__copied, .func (PySem.W.fnOf "_copied" "_copied" (defArgs s__copied) (defBody s__copied) (defScope s__copied) .none kV__copied dc__copied pm__copied an__copied cd__copied ct__copied), sl__copied⟩) (c__copied : PySem.W.codeIn K cd__copied "_copied" = true) (k__copied : PySem.W.keepIn K (.ref f__copied) = true)
    {q_Promise_nodes g_Promise_nodes : Addr} {r_Promise_nodes : List Value} (a_Promise_nodes : PySem.W.findIn K (.ref C) "nodes" = some (some (.ref q_Promise_nodes))) (e_Promise_nodes : PySem.W.specialIn K (.ref q_Promise_nodes) "__get__" = some (some (.builtin "property.__get__"))) (t_Promise_nodes : PySem.W.takesIn K (.ref q_Promise_nodes) = some true) (w_Promise_nodes : PySem.W.recIn K q_Promise_nodes "property" = some (.ref g_Promise_nodes :: r_Promise_nodes))
    {od_Promise_nodes an_Promise_nodes : Option Addr} {sl_Promise_nodes : Array (Option Value)} {oc_Promise_nodes kV_Promise_nodes dc_Promise_nodes pm_Promise_nodes ct_Promise_nodes : Value} {cd_Promise_nodes : Value} (l_Promise_nodes : K.lookup g_Promise_nodes = some ⟨oc_Promise_nodes, od_Promise_nodes, .func (PySem.W.fnOf "nodes" "Promise.nodes" (defArgs s_Promise_nodes) (defBody s_Promise_nodes) (defScope s_Promise_nodes) .none kV_Promise_nodes dc_Promise_nodes pm_Promise_nodes an_Promise_nodes cd_Promise_nodes ct_Promise_nodes), sl_Promise_nodes⟩) (c_Promise_nodes : PySem.W.codeIn K cd_Promise_nodes "Promise.nodes" = true) (k_Promise_nodes : PySem.W.keepIn K (.ref g_Promise_nodes) = true)
    {q_Promise_text g_Promise_text : Addr} {r_Promise_text : List Value} (a_Promise_text : PySem.W.findIn K (.ref C) "text" = some (some (.ref q_Promise_text))) (e_Promise_text : PySem.W.specialIn K (.ref q_Promise_text) "__get__" = some (some (.builtin "property.__get__"))) (t_Promise_text : PySem.W.takesIn K (.ref q_Promise_text) = some true) (w_Promise_text : PySem.W.recIn K q_Promise_text "property" = some (.ref g_Promise_text :: r_Promise_text))
    {od_Promise_text an_Promise_text : Option Addr} {sl_Promise_text : Array (Option Value)} {oc_Promise_text kV_Promise_text dc_Promise_text pm_Promise_text ct_Promise_text : Value} {cd_Promise_text : Value} (l_Promise_text : K.lookup g_Promise_text = some ⟨oc_Promise_text, od_Promise_text, .func (PySem.W.fnOf "text" "Promise.text" (defArgs s_Promise_text) (defBody s_Promise_text) (defScope s_Promise_text) .none kV_Promise_text dc_Promise_text pm_Promise_text an_Promise_text cd_Promise_text ct_Promise_text), sl_Promise_text⟩) (c_Promise_text : PySem.W.codeIn K cd_Promise_text "Promise.text" = true) (k_Promise_text : PySem.W.keepIn K (.ref g_Promise_text) = true)
    {g_Promise___eq__ : Addr} (a_Promise___eq__ : PySem.W.findIn K (.ref C) "__eq__" = some (some (.ref g_Promise___eq__))) (i_Promise___eq__ : PySem.W.isFn K (.ref g_Promise___eq__) = true)
    {od_Promise___eq__ an_Promise___eq__ : Option Addr} {sl_Promise___eq__ : Array (Option Value)} {oc_Promise___eq__ kV_Promise___eq__ dc_Promise___eq__ pm_Promise___eq__ ct_Promise___eq__ : Value} {cd_Promise___eq__ : Value} (l_Promise___eq__ : K.lookup g_Promise___eq__ = some ⟨oc_Promise___eq__, od_Promise___eq__, .func (PySem.W.fnOf "__eq__" "Promise.__eq__" (defArgs s_Promise___eq__) (defBody s_Promise___eq__) (defScope s_Promise___eq__) .none kV_Promise___eq__ dc_Promise___eq__ pm_Promise___eq__ an_Promise___eq__ cd_Promise___eq__ ct_Promise___eq__), sl_Promise___eq__⟩) (c_Promise___eq__ : PySem.W.codeIn K cd_Promise___eq__ "Promise.__eq__" = true) (k_Promise___eq__ : PySem.W.keepIn K (.ref g_Promise___eq__) = true)
    (rd : PySem.W.readsIn K C (.type "type") = true) (ga : PySem.W.specialIn K (.ref C) "__getattribute__" = some (some (.builtin "type.__getattribute__")))
    {E_ParseError : Addr} (x1_ParseError : PySem.W.nsIn K mainGlobals "ParseError" = some (some (.ref E_ParseError)))
    (kq_ParseError : PySem.W.excInitIn K E_ParseError veB "ValueError.__new__" = true) (kv_ParseError : PySem.W.excOver K E_ParseError veB = true)
    (kh_ParseError : PySem.W.hasDictIn K E_ParseError = true) (ks_ParseError : PySem.W.findIn K (.ref E_ParseError) "__setattr__" = some (some (.builtin "object.__setattr__"))) (x4_ParseError : PySem.W.subIn K (.ref E_ParseError) (.type "BaseException") = some true) (kb_ParseError : PySem.W.subIn K (.ref E_ParseError) (.type "ValueError") = some true) (x5_ParseError : PySem.W.typeIn K (.ref E_ParseError) = some (.type "type")) (x3_ParseError : PySem.W.keepIn K (.ref E_ParseError) = true) (kt_ParseError : PySem.W.nsIn K cStatics "thirdparty.any" = some none) (x6_ParseError : PySem.W.isClsIn K E_ParseError = true) (x7_ParseError : PySem.W.subIn K (.ref E_ParseError) (.ref E_ParseError) = some true) (km_ParseError : PySem.W.mroIn K E_ParseError (.ref E_ParseError) = some true)
    (ku_ParseError : PySem.W.ks_superIn K E_ParseError E_ParseError "__init__" = some (some (.builtin "ValueError.__init__")))
    (kn_ParseError : PySem.W.findIn K (.ref E_ParseError) "line" = some none) (kg_ParseError : PySem.W.findIn K (.ref E_ParseError) "__getattribute__" = some (some (.builtin "BaseException.__getattribute__"))) (kgg_ParseError : PySem.W.findIn K (.ref E_ParseError) "__getattr__" = some none)
    {g_ParseError___init__ : Addr} (a_ParseError___init__ : PySem.W.findIn K (.ref E_ParseError) "__init__" = some (some (.ref g_ParseError___init__))) (y_ParseError___init__ : PySem.W.typeIn K (.ref g_ParseError___init__) = some (.type "function"))
    {od_ParseError___init__ an_ParseError___init__ : Option Addr} {sl_ParseError___init__ : Array (Option Value)} {oc_ParseError___init__ kV_ParseError___init__ dc_ParseError___init__ pm_ParseError___init__ ct_ParseError___init__ : Value} {cc_ParseError___init__ ce_ParseError___init__ : Addr} (l_ParseError___init__ : K.lookup g_ParseError___init__ = some ⟨oc_ParseError___init__, od_ParseError___init__, .func (PySem.W.fnX "__init__" "ParseError.__init__" (defArgs s_ParseError___init__) (defBody s_ParseError___init__) (defScope s_ParseError___init__) [("__class__", ce_ParseError___init__)] .none kV_ParseError___init__ dc_ParseError___init__ pm_ParseError___init__ an_ParseError___init__ (.ref cc_ParseError___init__) ct_ParseError___init__), sl_ParseError___init__⟩) (c_ParseError___init__ : PySem.W.codeIn K (.ref cc_ParseError___init__) "ParseError.__init__" = true)
    {xc_ParseError___init__ : Value} {xd_ParseError___init__ : Option Addr} {xv_ParseError___init__ : Array Value} {xs_ParseError___init__ : Array (Option Value)} (lc_ParseError___init__ : K.lookup cc_ParseError___init__ = some ⟨xc_ParseError___init__, xd_ParseError___init__, .fields xv_ParseError___init__, xs_ParseError___init__⟩)
    {fl_ParseError___init__ : Str} {ft_ParseError___init__ : Tok} (lv_ParseError___init__ : xv_ParseError___init__[2]? = some (.str fl_ParseError___init__ ft_ParseError___init__))
    (lf_ParseError___init__ : ((l.prog.main.file : Str) == fl_ParseError___init__) = true)
    {zc_ParseError___init__ : Value} {zd_ParseError___init__ : Option Addr} {zs_ParseError___init__ : Array (Option Value)} (le_ParseError___init__ : K.lookup ce_ParseError___init__ = some ⟨zc_ParseError___init__, zd_ParseError___init__, .cell (some (.ref E_ParseError)), zs_ParseError___init__⟩)
    (ln_ParseError___init__ : (l.prog.main.scope.names.lookup ("super" : Str)).isSome = false)
    {q_Promise_read g_Promise_read : Addr} {r_Promise_read : List Value} (a_Promise_read : PySem.W.findCls K (.ref C) (.type "type") "read" = some (.get (.builtin "classmethod.__get__") (.ref q_Promise_read) .none (.ref C))) (w_Promise_read : PySem.W.recIn K q_Promise_read "classmethod" = some (.ref g_Promise_read :: r_Promise_read)) (n_Promise_read : PySem.W.fnIn K g_Promise_read = true)
    {od_Promise_read an_Promise_read : Option Addr} {sl_Promise_read : Array (Option Value)} {oc_Promise_read kV_Promise_read dc_Promise_read pm_Promise_read ct_Promise_read : Value} {cd_Promise_read : Value} (l_Promise_read : K.lookup g_Promise_read = some ⟨oc_Promise_read, od_Promise_read, .func (PySem.W.fnOf "read" "Promise.read" (defArgs s_Promise_read) (defBody s_Promise_read) (defScope s_Promise_read) .none kV_Promise_read dc_Promise_read pm_Promise_read an_Promise_read cd_Promise_read ct_Promise_read), sl_Promise_read⟩) (c_Promise_read : PySem.W.codeIn K cd_Promise_read "Promise.read" = true) (k_Promise_read : PySem.W.keepIn K (.ref g_Promise_read) = true)
    {f__law_got : Addr} (a__law_got : PySem.W.nsIn K mainGlobals "_law_got" = some (some (.ref f__law_got)))
    {od__law_got an__law_got : Option Addr} {sl__law_got : Array (Option Value)} {oc__law_got kV__law_got dc__law_got pm__law_got ct__law_got : Value} {cd__law_got : Value} (l__law_got : K.lookup f__law_got = some ⟨oc__law_got, od__law_got, .func (PySem.W.fnOf "_law_got" "_law_got" (defArgs s__law_got) (defBody s__law_got) (defScope s__law_got) .none kV__law_got dc__law_got pm__law_got an__law_got cd__law_got ct__law_got), sl__law_got⟩) (c__law_got : PySem.W.codeIn K cd__law_got "_law_got" = true) (k__law_got : PySem.W.keepIn K (.ref f__law_got) = true)
    {f__law_pieces : Addr} (a__law_pieces : PySem.W.nsIn K mainGlobals "_law_pieces" = some (some (.ref f__law_pieces)))
    {od__law_pieces an__law_pieces : Option Addr} {sl__law_pieces : Array (Option Value)} {oc__law_pieces kV__law_pieces dc__law_pieces pm__law_pieces ct__law_pieces : Value} {cd__law_pieces : Value} (l__law_pieces : K.lookup f__law_pieces = some ⟨oc__law_pieces, od__law_pieces, .func (PySem.W.fnOf "_law_pieces" "_law_pieces" (defArgs s__law_pieces) (defBody s__law_pieces) (defScope s__law_pieces) .none kV__law_pieces dc__law_pieces pm__law_pieces an__law_pieces cd__law_pieces ct__law_pieces), sl__law_pieces⟩) (c__law_pieces : PySem.W.codeIn K cd__law_pieces "_law_pieces" = true) (k__law_pieces : PySem.W.keepIn K (.ref f__law_pieces) = true)
    {f__law_read : Addr} (a__law_read : PySem.W.nsIn K mainGlobals "_law_read" = some (some (.ref f__law_read)))
    {od__law_read an__law_read : Option Addr} {sl__law_read : Array (Option Value)} {oc__law_read kV__law_read dc__law_read pm__law_read ct__law_read : Value} {cd__law_read : Value} (l__law_read : K.lookup f__law_read = some ⟨oc__law_read, od__law_read, .func (PySem.W.fnOf "_law_read" "_law_read" (defArgs s__law_read) (defBody s__law_read) (defScope s__law_read) .none kV__law_read dc__law_read pm__law_read an__law_read cd__law_read ct__law_read), sl__law_read⟩) (c__law_read : PySem.W.codeIn K cd__law_read "_law_read" = true) (k__law_read : PySem.W.keepIn K (.ref f__law_read) = true)
    {f__law_read_parts : Addr} (a__law_read_parts : PySem.W.nsIn K mainGlobals "_law_read_parts" = some (some (.ref f__law_read_parts)))
    {od__law_read_parts an__law_read_parts : Option Addr} {sl__law_read_parts : Array (Option Value)} {oc__law_read_parts kV__law_read_parts dc__law_read_parts pm__law_read_parts ct__law_read_parts : Value} {cd__law_read_parts : Value} (l__law_read_parts : K.lookup f__law_read_parts = some ⟨oc__law_read_parts, od__law_read_parts, .func (PySem.W.fnOf "_law_read_parts" "_law_read_parts" (defArgs s__law_read_parts) (defBody s__law_read_parts) (defScope s__law_read_parts) .none kV__law_read_parts dc__law_read_parts pm__law_read_parts an__law_read_parts cd__law_read_parts ct__law_read_parts), sl__law_read_parts⟩) (c__law_read_parts : PySem.W.codeIn K cd__law_read_parts "_law_read_parts" = true) (k__law_read_parts : PySem.W.keepIn K (.ref f__law_read_parts) = true)
    {f__law_bent : Addr} (a__law_bent : PySem.W.nsIn K mainGlobals "_law_bent" = some (some (.ref f__law_bent)))
    {od__law_bent an__law_bent : Option Addr} {sl__law_bent : Array (Option Value)} {oc__law_bent kV__law_bent dc__law_bent pm__law_bent ct__law_bent : Value} {cd__law_bent : Value} (l__law_bent : K.lookup f__law_bent = some ⟨oc__law_bent, od__law_bent, .func (PySem.W.fnOf "_law_bent" "_law_bent" (defArgs s__law_bent) (defBody s__law_bent) (defScope s__law_bent) .none kV__law_bent dc__law_bent pm__law_bent an__law_bent cd__law_bent ct__law_bent), sl__law_bent⟩) (c__law_bent : PySem.W.codeIn K cd__law_bent "_law_bent" = true) (k__law_bent : PySem.W.keepIn K (.ref f__law_bent) = true)
    {f__law_text : Addr} (a__law_text : PySem.W.nsIn K mainGlobals "_law_text" = some (some (.ref f__law_text)))
    {od__law_text an__law_text : Option Addr} {sl__law_text : Array (Option Value)} {oc__law_text kV__law_text dc__law_text pm__law_text ct__law_text : Value} {cd__law_text : Value} (l__law_text : K.lookup f__law_text = some ⟨oc__law_text, od__law_text, .func (PySem.W.fnOf "_law_text" "_law_text" (defArgs s__law_text) (defBody s__law_text) (defScope s__law_text) .none kV__law_text dc__law_text pm__law_text an__law_text cd__law_text ct__law_text), sl__law_text⟩) (c__law_text : PySem.W.codeIn K cd__law_text "_law_text" = true) (k__law_text : PySem.W.keepIn K (.ref f__law_text) = true)
    {f__law_made : Addr} (a__law_made : PySem.W.nsIn K mainGlobals "_law_made" = some (some (.ref f__law_made)))
    {od__law_made an__law_made : Option Addr} {sl__law_made : Array (Option Value)} {oc__law_made kV__law_made dc__law_made pm__law_made ct__law_made : Value} {cd__law_made : Value} (l__law_made : K.lookup f__law_made = some ⟨oc__law_made, od__law_made, .func (PySem.W.fnOf "_law_made" "_law_made" (defArgs s__law_made) (defBody s__law_made) (defScope s__law_made) .none kV__law_made dc__law_made pm__law_made an__law_made cd__law_made ct__law_made), sl__law_made⟩) (c__law_made : PySem.W.codeIn K cd__law_made "_law_made" = true) (k__law_made : PySem.W.keepIn K (.ref f__law_made) = true)
    {f__law_right : Addr} (a__law_right : PySem.W.nsIn K mainGlobals "_law_right" = some (some (.ref f__law_right)))
    {od__law_right an__law_right : Option Addr} {sl__law_right : Array (Option Value)} {oc__law_right kV__law_right dc__law_right pm__law_right ct__law_right : Value} {cd__law_right : Value} (l__law_right : K.lookup f__law_right = some ⟨oc__law_right, od__law_right, .func (PySem.W.fnOf "_law_right" "_law_right" (defArgs s__law_right) (defBody s__law_right) (defScope s__law_right) .none kV__law_right dc__law_right pm__law_right an__law_right cd__law_right ct__law_right), sl__law_right⟩) (c__law_right : PySem.W.codeIn K cd__law_right "_law_right" = true) (k__law_right : PySem.W.keepIn K (.ref f__law_right) = true)
    {f_law : Addr} (a_law : PySem.W.nsIn K mainGlobals "law" = some (some (.ref f_law)))
    {od_law an_law : Option Addr} {sl_law : Array (Option Value)} {oc_law kV_law dc_law pm_law ct_law : Value} {cd_law : Value} (l_law : K.lookup f_law = some ⟨oc_law, od_law, .func (PySem.W.fnOf "law" "law" (defArgs s_law) (defBody s_law) (defScope s_law) .none kV_law dc_law pm_law an_law cd_law ct_law), sl_law⟩) (c_law : PySem.W.codeIn K cd_law "law" = true) (k_law : PySem.W.keepIn K (.ref f_law) = true)
    (z_classmethod : PySem.W.nsIn K mainGlobals "classmethod" = some none)
    (z_property : PySem.W.nsIn K mainGlobals "property" = some none)
    (z_isinstance : PySem.W.nsIn K mainGlobals "isinstance" = some none)
    (z_list : PySem.W.nsIn K mainGlobals "list" = some none)
    (z_tuple : PySem.W.nsIn K mainGlobals "tuple" = some none)
    (z_dict : PySem.W.nsIn K mainGlobals "dict" = some none)
    (z_len : PySem.W.nsIn K mainGlobals "len" = some none)
    (z_reversed : PySem.W.nsIn K mainGlobals "reversed" = some none)
    (z_any : PySem.W.nsIn K mainGlobals "any" = some none)
    (z_all : PySem.W.nsIn K mainGlobals "all" = some none)
    (z_range : PySem.W.nsIn K mainGlobals "range" = some none)
    (z_bool : PySem.W.nsIn K mainGlobals "bool" = some none)
    (z_abs : PySem.W.nsIn K mainGlobals "abs" = some none)
    (z_str : PySem.W.nsIn K mainGlobals "str" = some none)
    (z_max : PySem.W.nsIn K mainGlobals "max" = some none)
    (z_sorted : PySem.W.nsIn K mainGlobals "sorted" = some none)
    (z_iter : PySem.W.nsIn K mainGlobals "iter" = some none)
    (z_int : PySem.W.nsIn K mainGlobals "int" = some none)
    (z_sum : PySem.W.nsIn K mainGlobals "sum" = some none)
    (z_min : PySem.W.nsIn K mainGlobals "min" = some none)
    (z_super : PySem.W.nsIn K mainGlobals "super" = some none)
    : ∃ fd : FuncData, (∀ (s : Shared) (v : Value), BindsTo s fd ⟨[v], []⟩ [("script", v)]) ∧ ∀ base : Heap, K.In base → base.Ns mainGlobals mg → FnOk l.prog w K mg base CX0 204 fa fd ["script"] (spLaw K) := by
  have e := hfa.symm.trans (PySem.W.mg_of X G a_law)
  obtain rfl : f_law = fa := (Value.ref.inj (Option.some.inj e)).symm
  have T : Txt mg := ⟨PySem.W.mg_none_of X G z_classmethod, PySem.W.mg_none_of X G z_property, PySem.W.mg_none_of X G z_isinstance, PySem.W.mg_none_of X G z_list, PySem.W.mg_none_of X G z_tuple, PySem.W.mg_none_of X G z_dict, PySem.W.mg_none_of X G z_len, PySem.W.mg_none_of X G z_reversed, PySem.W.mg_none_of X G z_any, PySem.W.mg_none_of X G z_all, PySem.W.mg_none_of X G z_range, PySem.W.mg_none_of X G z_bool, PySem.W.mg_none_of X G z_abs, PySem.W.mg_none_of X G z_str, PySem.W.mg_none_of X G z_max, PySem.W.mg_none_of X G z_sorted, PySem.W.mg_none_of X G z_iter, PySem.W.mg_none_of X G z_int, PySem.W.mg_none_of X G z_sum, PySem.W.mg_none_of X G z_min, PySem.W.mg_none_of X G z_super⟩
  refine ⟨PySem.W.fnOf "law" "law" (defArgs s_law) (defBody s_law) (defScope s_law) .none kV_law dc_law pm_law an_law cd_law ct_law, fun s v => .of_eq rfl, fun base _ _ => ?_⟩
  have n_MAX_LETTERS := PySem.W.mg_of X G i_MAX_LETTERS
  have n_LEAST_PARTS := PySem.W.mg_of X G i_LEAST_PARTS
  have n_MOST_PARTS := PySem.W.mg_of X G i_MOST_PARTS
  have n_MAX_NODES := PySem.W.mg_of X G i_MAX_NODES
  have n_MAX_FACTS := PySem.W.mg_of X G i_MAX_FACTS
  have n_MAX_CHOICES := PySem.W.mg_of X G i_MAX_CHOICES
  have n_MAX_DEPTH := PySem.W.mg_of X G i_MAX_DEPTH
  have R_InvalidPromise : ErrC K mg "InvalidPromise" E_InvalidPromise := ⟨PySem.W.mg_of X G x1_InvalidPromise, x2_InvalidPromise, x3_InvalidPromise, x4_InvalidPromise, x5_InvalidPromise, exmSelf x4_InvalidPromise x6_InvalidPromise x5_InvalidPromise x7_InvalidPromise⟩
  have F_Promise___init__ := fun_mk (st := s_Promise___init__) l_Promise___init__ c_Promise___init__ k_Promise___init__
  have b_Promise___init__ := F_Promise___init__.binds (ps := ["self", "nodes"]) fun _ _ _ _ _ _ us hl => match us, hl with | [_, _], _ => rfl
  have F_Promise___len__ := fun_mk (st := s_Promise___len__) l_Promise___len__ c_Promise___len__ k_Promise___len__
  have b_Promise___len__ := F_Promise___len__.binds (ps := ["self"]) fun _ _ _ _ _ _ us hl => match us, hl with | [_], _ => rfl
  have PC : PromC K mg C g_Promise___init__ g_Promise___len__ := ⟨PySem.W.mg_of X G gC, ⟨mk, a_Promise___init__, i_Promise___init__, kc⟩, ⟨pg, hd, po, sa⟩, nN, a_Promise___len__, i_Promise___len__⟩
  have IC : IsC K C := ⟨ic1, ic2, ic3, ic4, kit_self⟩
  have OF : OffC K C := ⟨os1, os2, os3, os4, os5, os6, kit_off ic6 ic5 (by kernel_rfl), kit_off ic6 ic5 (by kernel_rfl), kit_off ic6 ic5 (by kernel_rfl), kit_off ic6 ic5 (by kernel_rfl), kit_off ic6 ic5 (by kernel_rfl), kit_off ic6 ic5 (by kernel_rfl)⟩
  have S : SignsAt K w mg pS := signs_mk (PySem.W.mg_of X G yS1) yS2 yS3 yS4
  have SV : SgnV K w mg pS := sgn_mk (PySem.W.mg_of X G yS1) yS2 yS3
  have SD : SignedAt K w mg pD := signed_mk (PySem.W.mg_of X G yD1) yD2 yD3 yD4
  have F__law_roll := fun_mk (st := s__law_roll) l__law_roll c__law_roll k__law_roll
  have b__law_roll := F__law_roll.binds (ps := ["dice", "many"]) fun _ _ _ _ _ _ us hl => match us, hl with | [_, _], _ => rfl
  have m__law_roll := PySem.W.mg_of X G a__law_roll
  have G__law_roll : Cal l.prog w K mg base 1 "_law_roll" f__law_roll _ ["dice", "many"] spRoll := ⟨ok_roll F__law_roll T, m__law_roll, k__law_roll, b__law_roll⟩
  have F__law_pick := fun_mk (st := s__law_pick) l__law_pick c__law_pick k__law_pick
  have b__law_pick := F__law_pick.binds (ps := ["dice", "items"]) fun _ _ _ _ _ _ us hl => match us, hl with | [_, _], _ => rfl
  have m__law_pick := PySem.W.mg_of X G a__law_pick
  have G__law_pick : Cal l.prog w K mg base 2 "_law_pick" f__law_pick _ ["dice", "items"] (spPick K) := ⟨ok_pick F__law_pick T G__law_roll, m__law_pick, k__law_pick, b__law_pick⟩
  have F__law_some := fun_mk (st := s__law_some) l__law_some c__law_some k__law_some
  have b__law_some := F__law_some.binds (ps := ["dice", "items", "size"]) fun _ _ _ _ _ _ us hl => match us, hl with | [_, _, _], _ => rfl
  have m__law_some := PySem.W.mg_of X G a__law_some
  have G__law_some : Cal l.prog w K mg base 2 "_law_some" f__law_some _ ["dice", "items", "size"] (spSome K) := ⟨ok_some F__law_some T G__law_roll, m__law_some, k__law_some, b__law_some⟩
  have F__law_dice := fun_mk (st := s__law_dice) l__law_dice c__law_dice k__law_dice
  have b__law_dice := F__law_dice.binds (ps := ["script", "spot"]) fun _ _ _ _ _ _ us hl => match us, hl with | [_, _], _ => rfl
  have m__law_dice := PySem.W.mg_of X G a__law_dice
  have G__law_dice : Cal l.prog w K mg base 1 "_law_dice" f__law_dice _ ["script", "spot"] (spDice K) := ⟨ok_dice F__law_dice T, m__law_dice, k__law_dice, b__law_dice⟩
  have F_is_integer := fun_mk (st := s_is_integer) l_is_integer c_is_integer k_is_integer
  have b_is_integer := F_is_integer.binds (ps := ["value"]) fun _ _ _ _ _ _ us hl => match us, hl with | [_], _ => rfl
  have m_is_integer := PySem.W.mg_of X G a_is_integer
  have G_is_integer : Cal l.prog w K mg base 1 "is_integer" f_is_integer _ ["value"] (spInteger K) := ⟨ok_is_integer F_is_integer T, m_is_integer, k_is_integer, b_is_integer⟩
  have F_is_fact := fun_mk (st := s_is_fact) l_is_fact c_is_fact k_is_fact
  have b_is_fact := F_is_fact.binds (ps := ["value"]) fun _ _ _ _ _ _ us hl => match us, hl with | [_], _ => rfl
  have m_is_fact := PySem.W.mg_of X G a_is_fact
  have G_is_fact : Cal l.prog w K mg base 1 "is_fact" f_is_fact _ ["value"] (spFact K) := ⟨ok_is_fact F_is_fact T ⟨_, n_MAX_LETTERS⟩, m_is_fact, k_is_fact, b_is_fact⟩
  have F_is_node := fun_mk (st := s_is_node) l_is_node c_is_node k_is_node
  have b_is_node := F_is_node.binds (ps := ["value"]) fun _ _ _ _ _ _ us hl => match us, hl with | [_], _ => rfl
  have m_is_node := PySem.W.mg_of X G a_is_node
  have G_is_node : Cal l.prog w K mg base 2 "is_node" f_is_node _ ["value"] (spIsNode K) := ⟨ok_is_node F_is_node T S ⟨_, n_LEAST_PARTS⟩ ⟨_, n_MOST_PARTS⟩ G_is_fact G_is_integer, m_is_node, k_is_node, b_is_node⟩
  have F_depth_of := fun_mk (st := s_depth_of) l_depth_of c_depth_of k_depth_of
  have b_depth_of := F_depth_of.binds (ps := ["nodes"]) fun _ _ _ _ _ _ us hl => match us, hl with | [_], _ => rfl
  have m_depth_of := PySem.W.mg_of X G a_depth_of
  have G_depth_ofE : Cal l.prog w K mg base 1 "depth_of" f_depth_of _ ["nodes"] (spDepthE K) := ⟨ok_depth_ofE F_depth_of T S, m_depth_of, k_depth_of, b_depth_of⟩
  have F_facts_of := fun_mk (st := s_facts_of) l_facts_of c_facts_of k_facts_of
  have b_facts_of := F_facts_of.binds (ps := ["nodes"]) fun _ _ _ _ _ _ us hl => match us, hl with | [_], _ => rfl
  have m_facts_of := PySem.W.mg_of X G a_facts_of
  have G_facts_of : Cal l.prog w K mg base 1 "facts_of" f_facts_of _ ["nodes"] (spFacts K) := ⟨ok_facts_of F_facts_of T, m_facts_of, k_facts_of, b_facts_of⟩
  have F_choices_of := fun_mk (st := s_choices_of) l_choices_of c_choices_of k_choices_of
  have b_choices_of := F_choices_of.binds (ps := ["nodes"]) fun _ _ _ _ _ _ us hl => match us, hl with | [_], _ => rfl
  have m_choices_of := PySem.W.mg_of X G a_choices_of
  have G_choices_of : Cal l.prog w K mg base 1 "choices_of" f_choices_of _ ["nodes"] (spChoices K) := ⟨ok_choices_of F_choices_of T, m_choices_of, k_choices_of, b_choices_of⟩
  have F__are_nodes := fun_mk (st := s__are_nodes) l__are_nodes c__are_nodes k__are_nodes
  have b__are_nodes := F__are_nodes.binds (ps := ["value"]) fun _ _ _ _ _ _ us hl => match us, hl with | [_], _ => rfl
  have m__are_nodes := PySem.W.mg_of X G a__are_nodes
  have G__are_nodesE : Cal l.prog w K mg base 3 "_are_nodes" f__are_nodes _ ["value"] (spAreE K) := ⟨ok_are_nodesE F__are_nodes T ⟨_, n_MAX_NODES⟩ ⟨_, n_MAX_FACTS⟩ ⟨_, n_MAX_CHOICES⟩ ⟨_, n_MAX_DEPTH⟩ G_is_node G_facts_of G_choices_of G_depth_ofE, m__are_nodes, k__are_nodes, b__are_nodes⟩
  have F__law_is_leaf := fun_mk (st := s__law_is_leaf) l__law_is_leaf c__law_is_leaf k__law_is_leaf
  have b__law_is_leaf := F__law_is_leaf.binds (ps := ["plain"]) fun _ _ _ _ _ _ us hl => match us, hl with | [_], _ => rfl
  have m__law_is_leaf := PySem.W.mg_of X G a__law_is_leaf
  have G__law_is_leaf : Cal l.prog w K mg base 1 "_law_is_leaf" f__law_is_leaf _ ["plain"] (spIsLeaf K) := ⟨ok_is_leaf F__law_is_leaf T, m__law_is_leaf, k__law_is_leaf, b__law_is_leaf⟩
  have F__law_leaf := fun_mk (st := s__law_leaf) l__law_leaf c__law_leaf k__law_leaf
  have b__law_leaf := F__law_leaf.binds (ps := ["dice", "words"]) fun _ _ _ _ _ _ us hl => match us, hl with | [_, _], _ => rfl
  have m__law_leaf := PySem.W.mg_of X G a__law_leaf
  have G__law_leaf : Cal l.prog w K mg base 3 "_law_leaf" f__law_leaf _ ["dice", "words"] (spLeaf K) := ⟨ok_leaf F__law_leaf T G__law_roll G__law_pick, m__law_leaf, k__law_leaf, b__law_leaf⟩
  have F__law_nodes := fun_mk (st := s__law_nodes) l__law_nodes c__law_nodes k__law_nodes
  have b__law_nodes := F__law_nodes.binds (ps := ["plain"]) fun _ _ _ _ _ _ us hl => match us, hl with | [_], _ => rfl
  have m__law_nodes := PySem.W.mg_of X G a__law_nodes
  have G__law_nodes : Cal l.prog w K mg base 12 "_law_nodes" f__law_nodes _ ["plain"] (spNodes K 11) := ⟨ok_nodes F__law_nodes T G__law_is_leaf m__law_nodes k__law_nodes b__law_nodes 11, m__law_nodes, k__law_nodes, b__law_nodes⟩
  have F__law_count := fun_mk (st := s__law_count) l__law_count c__law_count k__law_count
  have b__law_count := F__law_count.binds (ps := ["plain", "kinds"]) fun _ _ _ _ _ _ us hl => match us, hl with | [_, _], _ => rfl
  have m__law_count := PySem.W.mg_of X G a__law_count
  have G__law_count : Cal l.prog w K mg base 13 "_law_count" f__law_count _ ["plain", "kinds"] (spCount K 11) := ⟨ok_count F__law_count T G__law_nodes, m__law_count, k__law_count, b__law_count⟩
  have F__law_drawn := fun_mk (st := s__law_drawn) l__law_drawn c__law_drawn k__law_drawn
  have b__law_drawn := F__law_drawn.binds (ps := ["dice", "words", "most", "choices"]) fun _ _ _ _ _ _ us hl => match us, hl with | [_, _, _, _], _ => rfl
  have m__law_drawn := PySem.W.mg_of X G a__law_drawn
  have G__law_drawn : Cal l.prog w K mg base 25 "_law_drawn" f__law_drawn _ ["dice", "words", "most", "choices"] (spDrawn K 11) := ⟨ok_drawn (N := 11) (by decide) F__law_drawn T G__law_roll G__law_pick G__law_leaf G__law_nodes G__law_count m__law_drawn k__law_drawn b__law_drawn 11 (Nat.le_refl _), m__law_drawn, k__law_drawn, b__law_drawn⟩
  have F__law_known := fun_mk (st := s__law_known) l__law_known c__law_known k__law_known
  have b__law_known := F__law_known.binds (ps := ["dice"]) fun _ _ _ _ _ _ us hl => match us, hl with | [_], _ => rfl
  have m__law_known := PySem.W.mg_of X G a__law_known
  have G__law_known : Cal l.prog w K mg base 3 "_law_known" f__law_known _ ["dice"] (spKnown K) := ⟨ok_known F__law_known T G__law_pick, m__law_known, k__law_known, b__law_known⟩
  have F__law_promise := fun_mk (st := s__law_promise) l__law_promise c__law_promise k__law_promise
  have b__law_promise := F__law_promise.binds (ps := ["dice"]) fun _ _ _ _ _ _ us hl => match us, hl with | [_], _ => rfl
  have m__law_promise := PySem.W.mg_of X G a__law_promise
  have G__law_promise : Cal l.prog w K mg base 26 "_law_promise" f__law_promise _ ["dice"] (spPromise K) := ⟨ok_promise (k := 25) (by decide) F__law_promise T G__law_roll G__law_pick G__law_some G__law_known G__law_drawn, m__law_promise, k__law_promise, b__law_promise⟩
  have G__law_nodesW : Cal l.prog w K mg base 41 "_law_nodes" f__law_nodes _ ["plain"] (spNodes K 40) := ⟨ok_nodes F__law_nodes T G__law_is_leaf m__law_nodes k__law_nodes b__law_nodes 40, m__law_nodes, k__law_nodes, b__law_nodes⟩
  have H_Promise___init__E : FnOk l.prog w K mg base (L2.CX l.prog w) 4 g_Promise___init__ _ ["self", "nodes"] (spInitE K C E_InvalidPromise) := ok_initE F_Promise___init__ T R_InvalidPromise PC G__are_nodesE
  have F_plain_text := fun_mk (st := s_plain_text) l_plain_text c_plain_text k_plain_text
  have b_plain_text := F_plain_text.binds (ps := ["kind", "told"]) fun _ _ _ _ _ _ us hl => match us, hl with | [_, _], _ => rfl
  have m_plain_text := PySem.W.mg_of X G a_plain_text
  have G_plain_text : Cal l.prog w K mg base 1 "plain_text" f_plain_text _ ["kind", "told"] spPlainT := ⟨ok_plain_text F_plain_text T, m_plain_text, k_plain_text, b_plain_text⟩
  have F_bracketed := fun_mk (st := s_bracketed) l_bracketed c_bracketed k_bracketed
  have b_bracketed := F_bracketed.binds (ps := ["kind", "parts"]) fun _ _ _ _ _ _ us hl => match us, hl with | [_, _], _ => rfl
  have m_bracketed := PySem.W.mg_of X G a_bracketed
  have G_bracketed : Cal l.prog w K mg base 1 "bracketed" f_bracketed _ ["kind", "parts"] (spBrack K) := ⟨ok_bracketed F_bracketed T SV, m_bracketed, k_bracketed, b_bracketed⟩
  have F_text_of := fun_mk (st := s_text_of) l_text_of c_text_of k_text_of
  have b_text_of := F_text_of.binds (ps := ["nodes"]) fun _ _ _ _ _ _ us hl => match us, hl with | [_], _ => rfl
  have m_text_of := PySem.W.mg_of X G a_text_of
  have G_text_of : Cal l.prog w K mg base 2 "text_of" f_text_of _ ["nodes"] (spText K) := ⟨ok_text_of F_text_of T S G_bracketed G_plain_text, m_text_of, k_text_of, b_text_of⟩
  have F__plain_node := fun_mk (st := s__plain_node) l__plain_node c__plain_node k__plain_node
  have b__plain_node := F__plain_node.binds (ps := ["word"]) fun _ _ _ _ _ _ us hl => match us, hl with | [_], _ => rfl
  have m__plain_node := PySem.W.mg_of X G a__plain_node
  have G__plain_node : Cal l.prog w K mg base 1 "_plain_node" f__plain_node _ ["word"] spPlainN := ⟨ok_plain_node F__plain_node, m__plain_node, k__plain_node, b__plain_node⟩
  have F__split := fun_mk (st := s__split) l__split c__split k__split
  have b__split := F__split.binds (ps := ["text"]) fun _ _ _ _ _ _ us hl => match us, hl with | [_], _ => rfl
  have m__split := PySem.W.mg_of X G a__split
  have H__split : FnOk l.prog w K mg base CX0 1 f__split _ ["text"] spSplit := ok_splitF F__split
  have F_nodes_in := fun_mk (st := s_nodes_in) l_nodes_in c_nodes_in k_nodes_in
  have b_nodes_in := F_nodes_in.binds (ps := ["text"]) fun _ _ _ _ _ _ us hl => match us, hl with | [_], _ => rfl
  have m_nodes_in := PySem.W.mg_of X G a_nodes_in
  have G_nodes_in : Cal l.prog w K mg base 2 "nodes_in" f_nodes_in _ ["text"] (spNodesIn K) := ⟨ok_nodes_inF F_nodes_in T SD H__split m__split k__split b__split G__plain_node, m_nodes_in, k_nodes_in, b_nodes_in⟩
  have F__copied := fun_mk (st := s__copied) l__copied c__copied k__copied
  have b__copied := F__copied.binds (ps := ["value"]) fun _ _ _ _ _ _ us hl => match us, hl with | [_], _ => rfl
  have m__copied := PySem.W.mg_of X G a__copied
  have G__copied : Cal l.prog w K mg base 1 "_copied" f__copied _ ["value"] spCopied1 := ⟨ok_copied1 F__copied T, m__copied, k__copied, b__copied⟩
  have F_Promise_nodes := fun_mk (st := s_Promise_nodes) l_Promise_nodes c_Promise_nodes k_Promise_nodes
  have b_Promise_nodes := F_Promise_nodes.binds (ps := ["self"]) fun _ _ _ _ _ _ us hl => match us, hl with | [_], _ => rfl
  have Pp_nodes : PropOf K C "nodes" q_Promise_nodes g_Promise_nodes := ⟨a_Promise_nodes, e_Promise_nodes, t_Promise_nodes, _, w_Promise_nodes⟩
  have V_nodes : PropC l.prog w K mg base C "nodes" 1 (spNodesP K C) q_Promise_nodes g_Promise_nodes _ := ⟨Pp_nodes, ok_nodesP F_Promise_nodes PC, b_Promise_nodes⟩
  have F_Promise_text := fun_mk (st := s_Promise_text) l_Promise_text c_Promise_text k_Promise_text
  have b_Promise_text := F_Promise_text.binds (ps := ["self"]) fun _ _ _ _ _ _ us hl => match us, hl with | [_], _ => rfl
  have Pp_text : PropOf K C "text" q_Promise_text g_Promise_text := ⟨a_Promise_text, e_Promise_text, t_Promise_text, _, w_Promise_text⟩
  have V_text : PropC l.prog w K mg base C "text" 3 (spTextG K C) q_Promise_text g_Promise_text _ := ⟨Pp_text, ok_textG F_Promise_text PC G_text_of, b_Promise_text⟩
  have F_Promise___eq__ := fun_mk (st := s_Promise___eq__) l_Promise___eq__ c_Promise___eq__ k_Promise___eq__
  have b_Promise___eq__ := F_Promise___eq__.binds (ps := ["self", "value"]) fun _ _ _ _ _ _ us hl => match us, hl with | [_, _], _ => rfl
  have D___eq__ : DunC l.prog w K mg base C "__eq__" 1 ["self", "value"] (spEqG K C) g_Promise___eq__ _ := ⟨a_Promise___eq__, i_Promise___eq__, ok_eqG F_Promise___eq__ T PC IC, b_Promise___eq__⟩
  have CR : ClX.CRead K C (.type "type") := ⟨rd, ga⟩
  have O_ParseError : OexB K E_ParseError "ValueError" "ValueError.__new__" "ValueError.__init__" veB := ⟨kq_ParseError, kv_ParseError, kh_ParseError, ks_ParseError, x4_ParseError, kb_ParseError, x5_ParseError, x3_ParseError, kt_ParseError, ku_ParseError, km_ParseError⟩
  obtain ⟨cd_ParseError, hcd_ParseError⟩ := Option.isSome_iff_exists.mp (show (PySem.W.clsIn K E_ParseError).isSome = true from x6_ParseError)
  have IE_ParseError : InitE l.prog K E_ParseError g_ParseError___init__ ⟨"__init__", "ParseError.__init__", defArgs s_ParseError___init__, defBody s_ParseError___init__, defScope s_ParseError___init__, [("__class__", ce_ParseError___init__)], cc_ParseError___init__⟩ _ := ⟨ce_ParseError___init__, cc_ParseError___init__, oc_ParseError___init__, kV_ParseError___init__, dc_ParseError___init__, pm_ParseError___init__, ct_ParseError___init__, xc_ParseError___init__, zc_ParseError___init__, od_ParseError___init__, an_ParseError___init__, xd_ParseError___init__, zd_ParseError___init__, sl_ParseError___init__, xs_ParseError___init__, zs_ParseError___init__, xv_ParseError___init__, fl_ParseError___init__, ft_ParseError___init__, cd_ParseError, rfl, rfl, rfl, l_ParseError___init__, c_ParseError___init__, lc_ParseError___init__, lv_ParseError___init__, lf_ParseError___init__, le_ParseError___init__, hcd_ParseError, ln_ParseError___init__⟩
  have b_ParseError___init__ : Binds K _ ["self", "line"] [] := Binds.all (fd := PySem.W.fnX "__init__" "ParseError.__init__" (defArgs s_ParseError___init__) (defBody s_ParseError___init__) (defScope s_ParseError___init__) [("__class__", ce_ParseError___init__)] .none kV_ParseError___init__ dc_ParseError___init__ pm_ParseError___init__ an_ParseError___init__ (.ref cc_ParseError___init__) ct_ParseError___init__) fun us hl => match us, hl with | [_, _], _ => rfl
  have hn_ParseError : PySem.W.takerIn K E_ParseError "line" = some none := by unfold PySem.W.takerIn; rw [kn_ParseError]; rfl
  have K_ParseError : FnOk l.prog w K mg base CX0 2 g_ParseError___init__ _ ["self", "line"] (spKeep1 E_ParseError "line") := ok_keep1 (msg := "the text cannot be read") baseVE O_ParseError T.super_ IE_ParseError (NdefX.nscope_by (sc := defScope s_ParseError___init__) (by decide +kernel)) rfl rfl rfl (by show (defScope s_ParseError___init__).names.lookup _ = _; decide +kernel) (by show (defScope s_ParseError___init__).names.lookup _ = _; decide +kernel) (by show (defScope s_ParseError___init__).names.lookup _ = _; decide +kernel) (by decide +kernel) (by decide) (by decide) hn_ParseError (fun _ => rfl) G__copied
  have XF_ParseError : XfC K E_ParseError := ⟨kg_ParseError, kgg_ParseError, x4_ParseError, kh_ParseError⟩
  have F_Promise_read := fun_mk (st := s_Promise_read) l_Promise_read c_Promise_read k_Promise_read
  have b_Promise_read := F_Promise_read.binds (ps := ["cls", "text"]) fun _ _ _ _ _ _ us hl => match us, hl with | [_, _], _ => rfl
  have CM_read : ClX.CMet K C (.type "type") "read" q_Promise_read g_Promise_read := ⟨a_Promise_read, ⟨_, w_Promise_read⟩, n_Promise_read⟩
  have H_Promise_read : FnOk l.prog w K mg base (L2.CX l.prog w) 6 g_Promise_read _ ["cls", "text"] (spReadZ K C E_ParseError) := ok_readZ F_Promise_read T PC G_nodes_in G__are_nodesE G_text_of H_Promise___init__E b_Promise___init__ O_ParseError (PySem.W.mg_of X G x1_ParseError) a_ParseError___init__ y_ParseError___init__ K_ParseError b_ParseError___init__
  have F__law_got := fun_mk (st := s__law_got) l__law_got c__law_got k__law_got
  have b__law_got := F__law_got.binds (ps := ["text"]) fun _ _ _ _ _ _ us hl => match us, hl with | [_], _ => rfl
  have m__law_got := PySem.W.mg_of X G a__law_got
  have G__law_got : Cal l.prog w K mg base 7 "_law_got" f__law_got _ ["text"] (spGotZ K C) := ⟨ok_law_got F__law_got T PC CR CM_read H_Promise_read b_Promise_read (exmSelf x4_ParseError x6_ParseError x5_ParseError x7_ParseError) (PySem.W.mg_of X G x1_ParseError) XF_ParseError kn_ParseError, m__law_got, k__law_got, b__law_got⟩
  have F__law_pieces := fun_mk (st := s__law_pieces) l__law_pieces c__law_pieces k__law_pieces
  have b__law_pieces := F__law_pieces.binds (ps := ["text", "sign"]) fun _ _ _ _ _ _ us hl => match us, hl with | [_, _], _ => rfl
  have m__law_pieces := PySem.W.mg_of X G a__law_pieces
  have G__law_pieces : Cal l.prog w K mg base 1 "_law_pieces" f__law_pieces _ ["text", "sign"] spPieces := ⟨ok_pieces F__law_pieces T, m__law_pieces, k__law_pieces, b__law_pieces⟩
  have F__law_read := fun_mk (st := s__law_read) l__law_read c__law_read k__law_read
  have b__law_read := F__law_read.binds (ps := ["text"]) fun _ _ _ _ _ _ us hl => match us, hl with | [_], _ => rfl
  have m__law_read := PySem.W.mg_of X G a__law_read
  have F__law_read_parts := fun_mk (st := s__law_read_parts) l__law_read_parts c__law_read_parts k__law_read_parts
  have b__law_read_parts := F__law_read_parts.binds (ps := ["text"]) fun _ _ _ _ _ _ us hl => match us, hl with | [_], _ => rfl
  have m__law_read_parts := PySem.W.mg_of X G a__law_read_parts
  have G__law_read : Cal l.prog w K mg base 202 "_law_read" f__law_read _ ["text"] (spReadL K 100) := ⟨ok_reads F__law_read F__law_read_parts T G__law_pieces m__law_read k__law_read b__law_read m__law_read_parts k__law_read_parts b__law_read_parts 100, m__law_read, k__law_read, b__law_read⟩
  have F__law_bent := fun_mk (st := s__law_bent) l__law_bent c__law_bent k__law_bent
  have b__law_bent := F__law_bent.binds (ps := ["dice", "text"]) fun _ _ _ _ _ _ us hl => match us, hl with | [_, _], _ => rfl
  have m__law_bent := PySem.W.mg_of X G a__law_bent
  have G__law_bent : Cal l.prog w K mg base 3 "_law_bent" f__law_bent _ ["dice", "text"] spBent := ⟨ok_bent F__law_bent T G__law_roll G__law_pick, m__law_bent, k__law_bent, b__law_bent⟩
  have F__law_text := fun_mk (st := s__law_text) l__law_text c__law_text k__law_text
  have b__law_text := F__law_text.binds (ps := ["plain"]) fun _ _ _ _ _ _ us hl => match us, hl with | [_], _ => rfl
  have m__law_text := PySem.W.mg_of X G a__law_text
  have G__law_text : Cal l.prog w K mg base 12 "_law_text" f__law_text _ ["plain"] (spTextL K 11) := ⟨ok_text F__law_text T G__law_is_leaf m__law_text k__law_text b__law_text 11, m__law_text, k__law_text, b__law_text⟩
  have F__law_made := fun_mk (st := s__law_made) l__law_made c__law_made k__law_made
  have b__law_made := F__law_made.binds (ps := ["plain"]) fun _ _ _ _ _ _ us hl => match us, hl with | [_], _ => rfl
  have m__law_made := PySem.W.mg_of X G a__law_made
  have H__law_made : FnOk l.prog w K mg base (L2.CX l.prog w) 46 f__law_made _ ["plain"] (spMadeE K C E_InvalidPromise 40) := ok_madeE F__law_made T PC G__law_nodesW H_Promise___init__E b_Promise___init__
  have F__law_right := fun_mk (st := s__law_right) l__law_right c__law_right k__law_right
  have b__law_right := F__law_right.binds (ps := ["dice"]) fun _ _ _ _ _ _ us hl => match us, hl with | [_], _ => rfl
  have m__law_right := PySem.W.mg_of X G a__law_right
  have G__law_right : Cal l.prog w K mg base 203 "_law_right" f__law_right _ ["dice"] spRight7 := ⟨ok_right7 (by decide) F__law_right T PC IC G__law_promise G__law_text H__law_made m__law_made k__law_made b__law_made G__law_got G__law_read G__law_bent D___eq__ hNe V_text, m__law_right, k__law_right, b__law_right⟩
  have F_law := fun_mk (st := s_law) l_law c_law k_law
  have b_law := F_law.binds (ps := ["script"]) fun _ _ _ _ _ _ us hl => match us, hl with | [_], _ => rfl
  have m_law := PySem.W.mg_of X G a_law
  exact ok_law7 F_law T PC G__law_dice G__law_right G__law_got V_nodes CR CM_read H_Promise_read b_Promise_read
end Eh

set_option Elab.async false
set_option linter.all false
set_option maxRecDepth 100000
set_option maxHeartbeats 8000000
set_option pp.deepTerms false
set_option pp.maxSteps 30
open PySem PySem.W PyProof.Rows
set_option maxHeartbeats 0 in
theorem PySem.Challenge.cw_eitherhand_k07_whole_texts_of_promises_holds : PySem.Challenge.rw_eitherhand_k07_whole_texts_of_promises.Holds := by
  w_on; o_law; k_head; (case hw => w_witness2)
  k_fill
  refine L2.walk_of (l := PySem.Challenge.rw_eitherhand_k07_whole_texts_of_promises) (n := 63) (k := 204) (x := "script") (CX := fun _ => L2.CX0) (sp := fun w => Eh.spLaw _) rfl (by decide) rfl ⟨rfl, by decide, by decide⟩ (fun w h Y => PySem.W.kIn_of Y) ?F (fun _ _ a ns hl _ hS => ⟨a, ns, rfl, hS, hl, fun _ => rfl⟩) (fun _ _ _ _ _ h => h)
  case F =>
    intro w mg fa h KX G hmg
    refine' Eh.all_mk KX G hmg  ?i_MAX_LETTERS ?i_LEAST_PARTS ?i_MOST_PARTS ?i_MAX_NODES ?i_MAX_FACTS ?i_MAX_CHOICES ?i_MAX_DEPTH ?x1_InvalidPromise ?x2_InvalidPromise ?x3_InvalidPromise ?x4_InvalidPromise ?x5_InvalidPromise ?x6_InvalidPromise ?x7_InvalidPromise ?gC ?pg ?hd ?po ?sa ?mk ?kc ?nN ?a_Promise___init__ ?i_Promise___init__ ?l_Promise___init__ ?c_Promise___init__ ?k_Promise___init__ ?a_Promise___len__ ?i_Promise___len__ ?l_Promise___len__ ?c_Promise___len__ ?k_Promise___len__ ?ic1 ?ic2 ?ic3 ?ic4 ?ic5 ?ic6 ?os1 ?os2 ?os3 ?os4 ?os5 ?os6 ?yS1 ?yS2 ?yS3 ?yS4 ?yD1 ?yD2 ?yD3 ?yD4 ?hNe ?a__law_roll ?l__law_roll ?c__law_roll ?k__law_roll ?a__law_pick ?l__law_pick ?c__law_pick ?k__law_pick ?a__law_some ?l__law_some ?c__law_some ?k__law_some ?a__law_dice ?l__law_dice ?c__law_dice ?k__law_dice ?a_is_integer ?l_is_integer ?c_is_integer ?k_is_integer ?a_is_fact ?l_is_fact ?c_is_fact ?k_is_fact ?a_is_node ?l_is_node ?c_is_node ?k_is_node ?a_depth_of ?l_depth_of ?c_depth_of ?k_depth_of ?a_facts_of ?l_facts_of ?c_facts_of ?k_facts_of ?a_choices_of ?l_choices_of ?c_choices_of ?k_choices_of ?a__are_nodes ?l__are_nodes ?c__are_nodes ?k__are_nodes ?a__law_is_leaf ?l__law_is_leaf ?c__law_is_leaf ?k__law_is_leaf ?a__law_leaf ?l__law_leaf ?c__law_leaf ?k__law_leaf ?a__law_nodes ?l__law_nodes ?c__law_nodes ?k__law_nodes ?a__law_count ?l__law_count ?c__law_count ?k__law_count ?a__law_drawn ?l__law_drawn ?c__law_drawn ?k__law_drawn ?a__law_known ?l__law_known ?c__law_known ?k__law_known ?a__law_promise ?l__law_promise ?c__law_promise ?k__law_promise ?a_plain_text ?l_plain_text ?c_plain_text ?k_plain_text ?a_bracketed ?l_bracketed ?c_bracketed ?k_bracketed ?a_text_of ?l_text_of ?c_text_of ?k_text_of ?a__plain_node ?l__plain_node ?c__plain_node ?k__plain_node ?a__split ?l__split ?c__split ?k__split ?a_nodes_in ?l_nodes_in ?c_nodes_in ?k_nodes_in ?a__copied ?l__copied ?c__copied ?k__copied ?a_Promise_nodes ?e_Promise_nodes ?t_Promise_nodes ?w_Promise_nodes ?l_Promise_nodes ?c_Promise_nodes ?k_Promise_nodes ?a_Promise_text ?e_Promise_text ?t_Promise_text ?w_Promise_text ?l_Promise_text ?c_Promise_text ?k_Promise_text ?a_Promise___eq__ ?i_Promise___eq__ ?l_Promise___eq__ ?c_Promise___eq__ ?k_Promise___eq__ ?rd ?ga ?x1_ParseError ?kq_ParseError ?kv_ParseError ?kh_ParseError ?ks_ParseError ?x4_ParseError ?kb_ParseError ?x5_ParseError ?x3_ParseError ?kt_ParseError ?x6_ParseError ?x7_ParseError ?km_ParseError ?ku_ParseError ?kn_ParseError ?kg_ParseError ?kgg_ParseError ?a_ParseError___init__ ?y_ParseError___init__ ?l_ParseError___init__ ?c_ParseError___init__ ?lc_ParseError___init__ ?lv_ParseError___init__ ?lf_ParseError___init__ ?le_ParseError___init__ ?ln_ParseError___init__ ?a_Promise_read ?w_Promise_read ?n_Promise_read ?l_Promise_read ?c_Promise_read ?k_Promise_read ?a__law_got ?l__law_got ?c__law_got ?k__law_got ?a__law_pieces ?l__law_pieces ?c__law_pieces ?k__law_pieces ?a__law_read ?l__law_read ?c__law_read ?k__law_read ?a__law_read_parts ?l__law_read_parts ?c__law_read_parts ?k__law_read_parts ?a__law_bent ?l__law_bent ?c__law_bent ?k__law_bent ?a__law_text ?l__law_text ?c__law_text ?k__law_text ?a__law_made ?l__law_made ?c__law_made ?k__law_made ?a__law_right ?l__law_right ?c__law_right ?k__law_right ?a_law ?l_law ?c_law ?k_law ?z_classmethod ?z_property ?z_isinstance ?z_list ?z_tuple ?z_dict ?z_len ?z_reversed ?z_any ?z_all ?z_range ?z_bool ?z_abs ?z_str ?z_max ?z_sorted ?z_iter ?z_int ?z_sum ?z_min ?z_super
    (case i_MAX_LETTERS => k_is); (case i_LEAST_PARTS => k_is); (case i_MOST_PARTS => k_is); (case i_MAX_NODES => k_is); (case i_MAX_FACTS => k_is); (case i_MAX_CHOICES => k_is); (case i_MAX_DEPTH => k_is); (case x1_InvalidPromise => k_is); (case x2_InvalidPromise => k_exc); (case x3_InvalidPromise => k_is); (case x4_InvalidPromise => k_is); (case x5_InvalidPromise => k_is); (case x6_InvalidPromise => k_is); (case x7_InvalidPromise => k_is); (case gC => k_is); (case pg => k_is); (case hd => k_is); (case po => k_is); (case sa => k_is); (case mk => k_is); (case kc => k_is); (case nN => k_is); (case a_Promise___init__ => k_is); (case i_Promise___init__ => k_is); (case l_Promise___init__ => k_is); (case c_Promise___init__ => k_is); (case k_Promise___init__ => k_is); (case a_Promise___len__ => k_is); (case i_Promise___len__ => k_is); (case l_Promise___len__ => k_is); (case c_Promise___len__ => k_is); (case k_Promise___len__ => k_is); (case ic1 => k_is); (case ic2 => k_is); (case ic3 => k_is); (case ic4 => k_is); (case ic5 => k_is); (case ic6 => k_is); (case os1 => k_is); (case os2 => k_is); (case os3 => k_is); (case os4 => k_is); (case os5 => k_is); (case os6 => k_is); (case yS1 => k_is); (case yS2 => k_is); (case yS3 => exact ⟨⟨_, _, rfl, rfl⟩, ⟨_, _, rfl, rfl⟩, ⟨_, _, rfl, rfl⟩, ⟨_, _, rfl, rfl⟩, trivial⟩); (case yS4 => first | rfl | decide | k_is); (case yD1 => k_is); (case yD2 => k_is); (case yD3 => exact ⟨⟨_, _, rfl, rfl⟩, ⟨_, _, rfl, rfl⟩, ⟨_, _, rfl, rfl⟩, ⟨_, _, rfl, rfl⟩, trivial⟩); (case yD4 => first | rfl | decide | k_is); (case hNe => k_is); (case a__law_roll => k_is); (case l__law_roll => k_is); (case c__law_roll => k_is); (case k__law_roll => k_is); (case a__law_pick => k_is); (case l__law_pick => k_is); (case c__law_pick => k_is); (case k__law_pick => k_is); (case a__law_some => k_is); (case l__law_some => k_is); (case c__law_some => k_is); (case k__law_some => k_is); (case a__law_dice => k_is); (case l__law_dice => k_is); (case c__law_dice => k_is); (case k__law_dice => k_is); (case a_is_integer => k_is); (case l_is_integer => k_is); (case c_is_integer => k_is); (case k_is_integer => k_is); (case a_is_fact => k_is); (case l_is_fact => k_is); (case c_is_fact => k_is); (case k_is_fact => k_is); (case a_is_node => k_is); (case l_is_node => k_is); (case c_is_node => k_is); (case k_is_node => k_is); (case a_depth_of => k_is); (case l_depth_of => k_is); (case c_depth_of => k_is); (case k_depth_of => k_is); (case a_facts_of => k_is); (case l_facts_of => k_is); (case c_facts_of => k_is); (case k_facts_of => k_is); (case a_choices_of => k_is); (case l_choices_of => k_is); (case c_choices_of => k_is); (case k_choices_of => k_is); (case a__are_nodes => k_is); (case l__are_nodes => k_is); (case c__are_nodes => k_is); (case k__are_nodes => k_is); (case a__law_is_leaf => k_is); (case l__law_is_leaf => k_is); (case c__law_is_leaf => k_is); (case k__law_is_leaf => k_is); (case a__law_leaf => k_is); (case l__law_leaf => k_is); (case c__law_leaf => k_is); (case k__law_leaf => k_is); (case a__law_nodes => k_is); (case l__law_nodes => k_is); (case c__law_nodes => k_is); (case k__law_nodes => k_is); (case a__law_count => k_is); (case l__law_count => k_is); (case c__law_count => k_is); (case k__law_count => k_is); (case a__law_drawn => k_is); (case l__law_drawn => k_is); (case c__law_drawn => k_is); (case k__law_drawn => k_is); (case a__law_known => k_is); (case l__law_known => k_is); (case c__law_known => k_is); (case k__law_known => k_is); (case a__law_promise => k_is); (case l__law_promise => k_is); (case c__law_promise => k_is); (case k__law_promise => k_is); (case a_plain_text => k_is); (case l_plain_text => k_is); (case c_plain_text => k_is); (case k_plain_text => k_is); (case a_bracketed => k_is); (case l_bracketed => k_is); (case c_bracketed => k_is); (case k_bracketed => k_is); (case a_text_of => k_is); (case l_text_of => k_is); (case c_text_of => k_is); (case k_text_of => k_is); (case a__plain_node => k_is); (case l__plain_node => k_is); (case c__plain_node => k_is); (case k__plain_node => k_is); (case a__split => k_is); (case l__split => k_is); (case c__split => k_is); (case k__split => k_is); (case a_nodes_in => k_is); (case l_nodes_in => k_is); (case c_nodes_in => k_is); (case k_nodes_in => k_is); (case a__copied => k_is); (case l__copied => k_is); (case c__copied => k_is); (case k__copied => k_is); (case a_Promise_nodes => k_is); (case e_Promise_nodes => k_is); (case t_Promise_nodes => k_is); (case w_Promise_nodes => k_is); (case l_Promise_nodes => k_is); (case c_Promise_nodes => k_is); (case k_Promise_nodes => k_is); (case a_Promise_text => k_is); (case e_Promise_text => k_is); (case t_Promise_text => k_is); (case w_Promise_text => k_is); (case l_Promise_text => k_is); (case c_Promise_text => k_is); (case k_Promise_text => k_is); (case a_Promise___eq__ => k_is); (case i_Promise___eq__ => k_is); (case l_Promise___eq__ => k_is); (case c_Promise___eq__ => k_is); (case k_Promise___eq__ => k_is); (case rd => k_is); (case ga => k_is); (case x1_ParseError => k_is); (case kq_ParseError => kx_is); (case kv_ParseError => kx_is); (case kh_ParseError => k_is); (case ks_ParseError => k_is); (case x4_ParseError => k_is); (case kb_ParseError => k_is); (case x5_ParseError => k_is); (case x3_ParseError => k_is); (case kt_ParseError => k_is); (case x6_ParseError => k_is); (case x7_ParseError => k_is); (case km_ParseError => k_is); (case ku_ParseError => ks_is); (case kn_ParseError => k_is); (case kg_ParseError => k_is); (case kgg_ParseError => k_is); (case a_ParseError___init__ => k_is); (case y_ParseError___init__ => k_is); (case l_ParseError___init__ => k_is); (case c_ParseError___init__ => k_is); (case lc_ParseError___init__ => k_is); (case lv_ParseError___init__ => rfl); (case lf_ParseError___init__ => first | rfl | decide +kernel | kernel_rfl); (case le_ParseError___init__ => k_is); (case ln_ParseError___init__ => first | rfl | decide +kernel | kernel_rfl); (case a_Promise_read => k_is); (case w_Promise_read => k_is); (case n_Promise_read => k_is); (case l_Promise_read => k_is); (case c_Promise_read => k_is); (case k_Promise_read => k_is); (case a__law_got => k_is); (case l__law_got => k_is); (case c__law_got => k_is); (case k__law_got => k_is); (case a__law_pieces => k_is); (case l__law_pieces => k_is); (case c__law_pieces => k_is); (case k__law_pieces => k_is); (case a__law_read => k_is); (case l__law_read => k_is); (case c__law_read => k_is); (case k__law_read => k_is); (case a__law_read_parts => k_is); (case l__law_read_parts => k_is); (case c__law_read_parts => k_is); (case k__law_read_parts => k_is); (case a__law_bent => k_is); (case l__law_bent => k_is); (case c__law_bent => k_is); (case k__law_bent => k_is); (case a__law_text => k_is); (case l__law_text => k_is); (case c__law_text => k_is); (case k__law_text => k_is); (case a__law_made => k_is); (case l__law_made => k_is); (case c__law_made => k_is); (case k__law_made => k_is); (case a__law_right => k_is); (case l__law_right => k_is); (case c__law_right => k_is); (case k__law_right => k_is); (case a_law => k_is); (case l_law => k_is); (case c_law => k_is); (case k_law => k_is); (case z_classmethod => k_is); (case z_property => k_is); (case z_isinstance => k_is); (case z_list => k_is); (case z_tuple => k_is); (case z_dict => k_is); (case z_len => k_is); (case z_reversed => k_is); (case z_any => k_is); (case z_all => k_is); (case z_range => k_is); (case z_bool => k_is); (case z_abs => k_is); (case z_str => k_is); (case z_max => k_is); (case z_sorted => k_is); (case z_iter => k_is); (case z_int => k_is); (case z_sum => k_is); (case z_min => k_is); (case z_super => k_is)

