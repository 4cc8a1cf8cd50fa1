import PyProof.Rows.All
import Wide.All
import OpenK.AllK
import Wide.FinOn
import PySem.Challenge.RW_eitherhand_k10_surfaces_told
import HandS.ForMost
import HandS.Wide
import HandS.IsInst
import HandS.RaiseMore
import HandS.Text
import PyProof.FactsAll.dict_1
import PyProof.FactsAll.subtypes_3
import PyProof.FactsAll.subtypes_4
import HandS.ExcOwn
import HandS.WordsExc
import HandS.TryOnly
import HandS.Strs
import KE.GoesSet
import HandS.DictComp
import HandS.Style
import HandS.OwnIter
import HandS.Rev
import HandS.Property
import HandS.TupAny
import HandS.OwnEq
import HandS.ClsMeth
import HandS.IterNext
import HandS.IterVal
import PyProof.FactsAll.tuple_iterator_1
import HandS.Replace
import HandS.ReplaceLit
import HandS.CallLocal
import HandS.Deep
import HandS.Dict
import HandS.WordsDict
import HandS.Lambda
import KE.KDictZip
import HandS.ExcValue
import HandS.EndTab
import KE.KDictCopyH
import KE.KDictPairs
import KE.KDictDisplayH
import HandS.RevRange
import HandS.Conv
import KE.LtData
import HandS.SortOrd
import HandS.SortRule
import KE.KDictSum
import HandS.SuiteRaise
import HandS.RaiseFrom
import HandS.ExcCtx
import HandS.Star
import HandS.FStr
import KE.KExcSuper
import HandS.Nested
import HandS.ExcInit
import HandS.ExcField
import HandS.TryMany
import HandS.ReplaceDef
import HandS.ReplaceList
import HandS.TupLen
set_option Elab.async false
set_option linter.all false
set_option maxRecDepth 100000
namespace Eh
open PySem PySem.Spec PyProof.Rows L2
def topS (i : Nat) : Stmt := PySem.Challenge.pw_eitherhand_k10_surfaces_told.main.body.getD i (.Pass ⟨0, 0, 0, 0⟩)
abbrev s_is_integer : Stmt := topS 14
theorem sc_is_integer : FnScope ["value"] ["value"] (defScope s_is_integer) := ⟨rfl, rfl, rfl, by decide +kernel, rfl, by decide +kernel, by decide +kernel⟩
abbrev s_is_index : Stmt := topS 15
theorem sc_is_index : FnScope ["value", "many"] ["value", "many"] (defScope s_is_index) := ⟨rfl, rfl, rfl, by decide +kernel, rfl, by decide +kernel, by decide +kernel⟩
abbrev s_is_fact : Stmt := topS 16
theorem sc_is_fact : FnScope ["value", "letter"] ["value"] (defScope s_is_fact) := ⟨rfl, rfl, rfl, by decide +kernel, rfl, by decide +kernel, by decide +kernel⟩
abbrev s_is_node : Stmt := topS 23
theorem sc_is_node : FnScope ["value", "kind", "told"] ["value"] (defScope s_is_node) := ⟨rfl, rfl, rfl, by decide +kernel, rfl, by decide +kernel, by decide +kernel⟩
abbrev s_depth_of : Stmt := topS 24
theorem sc_depth_of : FnScope ["nodes", "missing", "deepest", "kind", "told"] ["nodes"] (defScope s_depth_of) := ⟨rfl, rfl, rfl, by decide +kernel, rfl, by decide +kernel, by decide +kernel⟩
abbrev s_facts_of : Stmt := topS 25
theorem sc_facts_of : FnScope ["nodes", "kind", "told"] ["nodes"] (defScope s_facts_of) := ⟨rfl, rfl, rfl, by decide +kernel, rfl, by decide +kernel, by decide +kernel⟩
abbrev s_choices_of : Stmt := topS 26
theorem sc_choices_of : FnScope ["nodes", "kind", "_"] ["nodes"] (defScope s_choices_of) := ⟨rfl, rfl, rfl, by decide +kernel, rfl, by decide +kernel, by decide +kernel⟩
abbrev s_text_of : Stmt := topS 27
theorem sc_text_of : FnScope ["nodes", "texts", "kind", "told", "parts", "_"] ["nodes"] (defScope s_text_of) := ⟨rfl, rfl, rfl, by decide +kernel, rfl, by decide +kernel, by decide +kernel⟩
abbrev s_bracketed : Stmt := topS 28
theorem sc_bracketed : FnScope ["kind", "parts", "inner"] ["kind", "parts"] (defScope s_bracketed) := ⟨rfl, rfl, rfl, by decide +kernel, rfl, by decide +kernel, by decide +kernel⟩
abbrev s_plain_text : Stmt := topS 29
theorem sc_plain_text : FnScope ["kind", "told"] ["kind", "told"] (defScope s_plain_text) := ⟨rfl, rfl, rfl, by decide +kernel, rfl, by decide +kernel, by decide +kernel⟩
abbrev s_nodes_in : Stmt := topS 30
theorem sc_nodes_in : FnScope ["text", "kinds", "counts", "around", "word", "kind", "told", "at"] ["text"] (defScope s_nodes_in) := ⟨rfl, rfl, rfl, by decide +kernel, rfl, by decide +kernel, by decide +kernel⟩
abbrev s__split : Stmt := topS 31
theorem sc__split : FnScope ["text", "spaced"] ["text"] (defScope s__split) := ⟨rfl, rfl, rfl, by decide +kernel, rfl, by decide +kernel, by decide +kernel⟩
abbrev s__plain_node : Stmt := topS 32
theorem sc__plain_node : FnScope ["word"] ["word"] (defScope s__plain_node) := ⟨rfl, rfl, rfl, by decide +kernel, rfl, by decide +kernel, by decide +kernel⟩
abbrev s_end_of : Stmt := topS 36
theorem sc_end_of : FnScope ["nodes", "start", "missing", "end", "kind", "told"] ["nodes", "start"] (defScope s_end_of) := ⟨rfl, rfl, rfl, by decide +kernel, rfl, by decide +kernel, by decide +kernel⟩
abbrev s_start_at : Stmt := topS 41
theorem sc_start_at : FnScope ["nodes", "place"] ["nodes", "place"] (defScope s_start_at) := ⟨rfl, rfl, rfl, by decide +kernel, rfl, by decide +kernel, by decide +kernel⟩
abbrev s__start_along : Stmt := topS 42
theorem sc__start_along : FnScope ["nodes", "path", "kinds", "start", "index", "kind", "told", "_"] ["nodes", "path", "kinds"] (defScope s__start_along) := ⟨rfl, rfl, rfl, by decide +kernel, rfl, by decide +kernel, by decide +kernel⟩
abbrev s_part_from : Stmt := topS 43
theorem sc_part_from : FnScope ["nodes", "start"] ["nodes", "start"] (defScope s_part_from) := ⟨rfl, rfl, rfl, by decide +kernel, rfl, by decide +kernel, by decide +kernel⟩
abbrev s_exchanged_from : Stmt := topS 44
theorem sc_exchanged_from : FnScope ["nodes", "start", "other"] ["nodes", "start", "other"] (defScope s_exchanged_from) := ⟨rfl, rfl, rfl, by decide +kernel, rfl, by decide +kernel, by decide +kernel⟩
abbrev s_surface_of : Stmt := topS 45
theorem sc_surface_of : FnScope ["nodes"] ["nodes"] (defScope s_surface_of) := ⟨rfl, rfl, rfl, by decide +kernel, rfl, by decide +kernel, by decide +kernel⟩
abbrev s__paths_along : Stmt := topS 46
theorem sc__paths_along : FnScope ["nodes", "kinds", "found", "paths", "start", "path", "kind", "told", "index"] ["nodes", "kinds"] (defScope s__paths_along) := ⟨rfl, rfl, rfl, by decide +kernel, rfl, by decide +kernel, by decide +kernel⟩
abbrev s_places_in : Stmt := topS 47
theorem sc_places_in : FnScope ["nodes", "kinds", "place", "start"] ["nodes", "kinds"] (defScope s_places_in) := ⟨rfl, rfl, rfl, by decide +kernel, rfl, by decide +kernel, by decide +kernel⟩
abbrev s__are_nodes : Stmt := topS 56
theorem sc__are_nodes : FnScope ["value", "node"] ["value"] (defScope s__are_nodes) := ⟨rfl, rfl, rfl, by decide +kernel, rfl, by decide +kernel, by decide +kernel⟩
abbrev s_Promise___init__ : Stmt := inClass (topS 60) 0
theorem sc_Promise___init__ : FnScope ["self", "nodes"] ["self", "nodes"] (defScope s_Promise___init__) := ⟨rfl, rfl, rfl, by decide +kernel, rfl, by decide +kernel, by decide +kernel⟩
abbrev s_Promise_read : Stmt := inClass (topS 60) 1
theorem sc_Promise_read : FnScope ["cls", "text", "nodes"] ["cls", "text"] (defScope s_Promise_read) := ⟨rfl, rfl, rfl, by decide +kernel, rfl, by decide +kernel, by decide +kernel⟩
abbrev s_Promise_nodes : Stmt := inClass (topS 60) 6
theorem sc_Promise_nodes : FnScope ["self"] ["self"] (defScope s_Promise_nodes) := ⟨rfl, rfl, rfl, by decide +kernel, rfl, by decide +kernel, by decide +kernel⟩
abbrev s_Promise___len__ : Stmt := inClass (topS 60) 22
theorem sc_Promise___len__ : FnScope ["self"] ["self"] (defScope s_Promise___len__) := ⟨rfl, rfl, rfl, by decide +kernel, rfl, by decide +kernel, by decide +kernel⟩
abbrev s_Promise___eq__ : Stmt := inClass (topS 60) 26
theorem sc_Promise___eq__ : FnScope ["self", "value"] ["self", "value"] (defScope s_Promise___eq__) := ⟨rfl, rfl, rfl, by decide +kernel, rfl, by decide +kernel, by decide +kernel⟩
abbrev s_check_promise : Stmt := topS 63
theorem sc_check_promise : FnScope ["value"] ["value"] (defScope s_check_promise) := ⟨rfl, rfl, rfl, by decide +kernel, rfl, by decide +kernel, by decide +kernel⟩
abbrev s__start_of : Stmt := topS 64
theorem sc__start_of : FnScope ["nodes", "place", "start"] ["nodes", "place"] (defScope s__start_of) := ⟨rfl, rfl, rfl, by decide +kernel, rfl, by decide +kernel, by decide +kernel⟩
abbrev s_surface : Stmt := topS 66
theorem sc_surface : FnScope ["promise", "place", "_"] ["promise"] (defScope s_surface) := ⟨rfl, rfl, rfl, by decide +kernel, rfl, by decide +kernel, by decide +kernel⟩
abbrev s_part_at : Stmt := topS 67
theorem sc_part_at : FnScope ["promise", "place"] ["promise", "place"] (defScope s_part_at) := ⟨rfl, rfl, rfl, by decide +kernel, rfl, by decide +kernel, by decide +kernel⟩
abbrev s_replaced : Stmt := topS 69
theorem sc_replaced : FnScope ["promise", "place", "other", "start"] ["promise", "place", "other"] (defScope s_replaced) := ⟨rfl, rfl, rfl, by decide +kernel, rfl, by decide +kernel, by decide +kernel⟩
abbrev s_Surface___init__ : Stmt := inClass (topS 70) 0
theorem sc_Surface___init__ : FnScope ["self", "promise"] ["self", "promise"] (defScope s_Surface___init__) := ⟨rfl, rfl, rfl, by decide +kernel, rfl, by decide +kernel, by decide +kernel⟩
abbrev s_Surface_promise : Stmt := inClass (topS 70) 1
theorem sc_Surface_promise : FnScope ["self"] ["self"] (defScope s_Surface_promise) := ⟨rfl, rfl, rfl, by decide +kernel, rfl, by decide +kernel, by decide +kernel⟩
abbrev s_Surface_places : Stmt := inClass (topS 70) 2
theorem sc_Surface_places : FnScope ["self"] ["self"] (defScope s_Surface_places) := ⟨rfl, rfl, rfl, by decide +kernel, rfl, by decide +kernel, by decide +kernel⟩
abbrev s_Surface_mine : Stmt := inClass (topS 70) 3
theorem sc_Surface_mine : FnScope ["self"] ["self"] (defScope s_Surface_mine) := ⟨rfl, rfl, rfl, by decide +kernel, rfl, by decide +kernel, by decide +kernel⟩
abbrev s_Surface_yours : Stmt := inClass (topS 70) 4
theorem sc_Surface_yours : FnScope ["self"] ["self"] (defScope s_Surface_yours) := ⟨rfl, rfl, rfl, by decide +kernel, rfl, by decide +kernel, by decide +kernel⟩
abbrev s_Surface_plain : Stmt := inClass (topS 70) 5
theorem sc_Surface_plain : FnScope ["self"] ["self"] (defScope s_Surface_plain) := ⟨rfl, rfl, rfl, by decide +kernel, rfl, by decide +kernel, by decide +kernel⟩
abbrev s_Surface_is_over : Stmt := inClass (topS 70) 8
theorem sc_Surface_is_over : FnScope ["self"] ["self"] (defScope s_Surface_is_over) := ⟨rfl, rfl, rfl, by decide +kernel, rfl, by decide +kernel, by decide +kernel⟩
abbrev s_Surface___len__ : Stmt := inClass (topS 70) 9
theorem sc_Surface___len__ : FnScope ["self"] ["self"] (defScope s_Surface___len__) := ⟨rfl, rfl, rfl, by decide +kernel, rfl, by decide +kernel, by decide +kernel⟩
abbrev s_Surface___iter__ : Stmt := inClass (topS 70) 10
theorem sc_Surface___iter__ : FnScope ["self"] ["self"] (defScope s_Surface___iter__) := ⟨rfl, rfl, rfl, by decide +kernel, rfl, by decide +kernel, by decide +kernel⟩
abbrev s_Surface___contains__ : Stmt := inClass (topS 70) 11
theorem sc_Surface___contains__ : FnScope ["self", "value"] ["self", "value"] (defScope s_Surface___contains__) := ⟨rfl, rfl, rfl, by decide +kernel, rfl, by decide +kernel, by decide +kernel⟩
abbrev s_Surface___getitem__ : Stmt := inClass (topS 70) 12
theorem sc_Surface___getitem__ : FnScope ["self", "place"] ["self", "place"] (defScope s_Surface___getitem__) := ⟨rfl, rfl, rfl, by decide +kernel, rfl, by decide +kernel, by decide +kernel⟩
abbrev s_Surface___eq__ : Stmt := inClass (topS 70) 13
theorem sc_Surface___eq__ : FnScope ["self", "value"] ["self", "value"] (defScope s_Surface___eq__) := ⟨rfl, rfl, rfl, by decide +kernel, rfl, by decide +kernel, by decide +kernel⟩
abbrev s_Surface___str__ : Stmt := inClass (topS 70) 14
theorem sc_Surface___str__ : FnScope ["self"] ["self"] (defScope s_Surface___str__) := ⟨rfl, rfl, rfl, by decide +kernel, rfl, by decide +kernel, by decide +kernel⟩
abbrev s__law_dice : Stmt := topS 72
theorem sc__law_dice : FnScope ["script", "spot", "cell", "great", "blend"] ["script", "spot"] (defScope s__law_dice) := ⟨rfl, rfl, rfl, by decide +kernel, rfl, by decide +kernel, by decide +kernel⟩
abbrev s__law_roll : Stmt := topS 73
theorem sc__law_roll : FnScope ["dice", "many", "found", "one", "two"] ["dice", "many"] (defScope s__law_roll) := ⟨rfl, rfl, rfl, by decide +kernel, rfl, by decide +kernel, by decide +kernel⟩
abbrev s__law_pick : Stmt := topS 74
theorem sc__law_pick : FnScope ["dice", "items"] ["dice", "items"] (defScope s__law_pick) := ⟨rfl, rfl, rfl, by decide +kernel, rfl, by decide +kernel, by decide +kernel⟩
abbrev s__law_some : Stmt := topS 75
theorem sc__law_some : FnScope ["dice", "items", "size", "left", "turn"] ["dice", "items", "size"] (defScope s__law_some) := ⟨rfl, rfl, rfl, by decide +kernel, rfl, by decide +kernel, by decide +kernel⟩
abbrev s__law_is_leaf : Stmt := topS 76
theorem sc__law_is_leaf : FnScope ["plain"] ["plain"] (defScope s__law_is_leaf) := ⟨rfl, rfl, rfl, by decide +kernel, rfl, by decide +kernel, by decide +kernel⟩
abbrev s__law_leaf : Stmt := topS 77
theorem sc__law_leaf : FnScope ["dice", "words", "way"] ["dice", "words"] (defScope s__law_leaf) := ⟨rfl, rfl, rfl, by decide +kernel, rfl, by decide +kernel, by decide +kernel⟩
abbrev s__law_drawn : Stmt := topS 78
theorem sc__law_drawn : FnScope ["dice", "words", "most", "choices", "kind", "many", "left", "parts", "room", "at", "more", "share"] ["dice", "words", "most", "choices"] (defScope s__law_drawn) := ⟨rfl, rfl, rfl, by decide +kernel, rfl, by decide +kernel, by decide +kernel⟩
abbrev s__law_promise : Stmt := topS 79
theorem sc__law_promise : FnScope ["dice", "words", "word"] ["dice"] (defScope s__law_promise) := ⟨rfl, rfl, rfl, by decide +kernel, rfl, by decide +kernel, by decide +kernel⟩
abbrev s__law_known : Stmt := topS 80
theorem sc__law_known : FnScope ["dice", "a", "b", "c", "not_a", "not_b", "not_c", "some"] ["dice"] (defScope s__law_known) := ⟨rfl, rfl, rfl, by decide +kernel, rfl, by decide +kernel, by decide +kernel⟩
abbrev s__law_nodes : Stmt := topS 81
theorem sc__law_nodes : FnScope ["plain", "found", "part"] ["plain"] (defScope s__law_nodes) := ⟨rfl, rfl, rfl, by decide +kernel, rfl, by decide +kernel, by decide +kernel⟩
abbrev s__law_count : Stmt := topS 82
theorem sc__law_count : FnScope ["plain", "kinds", "node"] ["plain", "kinds"] (defScope s__law_count) := ⟨rfl, rfl, rfl, by decide +kernel, rfl, by decide +kernel, by decide +kernel⟩
abbrev s__law_facts : Stmt := topS 83
theorem sc__law_facts : FnScope ["plain", "node"] ["plain"] (defScope s__law_facts) := ⟨rfl, rfl, rfl, by decide +kernel, rfl, by decide +kernel, by decide +kernel⟩
abbrev s__law_depth : Stmt := topS 84
theorem sc__law_depth : FnScope ["plain", "part"] ["plain"] (defScope s__law_depth) := ⟨rfl, rfl, rfl, by decide +kernel, rfl, by decide +kernel, by decide +kernel⟩
abbrev s__law_made : Stmt := topS 85
theorem sc__law_made : FnScope ["plain"] ["plain"] (defScope s__law_made) := ⟨rfl, rfl, rfl, by decide +kernel, rfl, by decide +kernel, by decide +kernel⟩
abbrev s__law_places : Stmt := topS 86
theorem sc__law_places : FnScope ["plain", "found", "at", "inner", "place"] ["plain"] (defScope s__law_places) := ⟨rfl, rfl, rfl, by decide +kernel, rfl, by decide +kernel, by decide +kernel⟩
abbrev s__law_exchanged : Stmt := topS 87
theorem sc__law_exchanged : FnScope ["plain", "place", "other", "at", "part"] ["plain", "place", "other"] (defScope s__law_exchanged) := ⟨rfl, rfl, rfl, by decide +kernel, rfl, by decide +kernel, by decide +kernel⟩
abbrev s__law_got : Stmt := topS 88
theorem sc__law_got : FnScope ["call"] ["call"] (defScope s__law_got) := ⟨rfl, rfl, rfl, by decide +kernel, rfl, by decide +kernel, by decide +kernel⟩
abbrev s__law_is_within : Stmt := topS 89
theorem sc__law_is_within : FnScope ["plain"] ["plain"] (defScope s__law_is_within) := ⟨rfl, rfl, rfl, by decide +kernel, rfl, by decide +kernel, by decide +kernel⟩
abbrev s__law_surface_right : Stmt := topS 90
theorem sc__law_surface_right : FnScope ["made", "rows", "told", "mine", "yours", "leaves", "text", "place"] ["made", "rows"] (defScope s__law_surface_right) := ⟨rfl, rfl, rfl, by decide +kernel, rfl, by decide +kernel, by decide +kernel⟩
abbrev s__law_right : Stmt := topS 91
theorem sc__law_right : FnScope ["dice", "plain", "rows", "due", "near", "made", "one", "other", "place"] ["dice"] (defScope s__law_right) := ⟨rfl, rfl, rfl, by decide +kernel, rfl, by decide +kernel, by decide +kernel⟩
abbrev s_law : Stmt := topS 92
theorem sc_law : FnScope ["script", "spot", "dice", "turn", "twice"] ["script"] (defScope s_law) := ⟨rfl, rfl, rfl, by decide +kernel, rfl, by decide +kernel, by decide +kernel⟩
/-- the names of built-ins that the text reads and has not taken -/
structure Txt (mg : Str → Option Value) : Prop where
  classmethod_ : mg "classmethod" = none
  property_ : mg "property" = none
  isinstance_ : mg "isinstance" = none
  list_ : mg "list" = none
  tuple_ : mg "tuple" = none
  dict_ : mg "dict" = none
  len_ : mg "len" = none
  reversed_ : mg "reversed" = none
  any_ : mg "any" = none
  all_ : mg "all" = none
  range_ : mg "range" = none
  sorted_ : mg "sorted" = none
  bool_ : mg "bool" = none
  abs_ : mg "abs" = none
  str_ : mg "str" = none
  max_ : mg "max" = none
  iter_ : mg "iter" = none
  int_ : mg "int" = none
  set_ : mg "set" = none
  sum_ : mg "sum" = none
  min_ : mg "min" = none
  super_ : mg "super" = none
end Eh
set_option Elab.async false
set_option linter.all false
set_option maxRecDepth 100000
namespace Eh
open PySem PySem.Spec PyProof.Rows L2
structure Cal (P : Program) (w : World) (K : PySem.W.Frag) (mg : Str → Option Value) (base : Heap) (k : Nat) (x : Str) (f : Addr) (fd : FuncData) (ps : List Str) (sp : Sp) : Prop where
  G : FnOk P w K mg base CX0 k f fd ps sp
  m : mg x = some (.ref f)
  k : PySem.W.keepIn K (.ref f) = true
  b : Binds K fd ps []
section
variable {X : Cx}
theorem op_powB : OpR X (binaryOp .Pow) (rI (fun i j => 0 ≤ j ∧ (Builtin.Int.intBits i : Int) * j ≤ 2 ^ 27) fun i j => .int (i ^ j.toNat)) :=
  opI fun _ _ _ _ _ _ _ hc q => pow_int hc.1 hc.2 q
end
/-- the list of the dice's three numbers stands at d -/
def D3 (H : Hp) (d : Addr) : Prop := ∃ g b c : Int, H d = some (.lst [.int g, .int b, .int c])
/-- from H to H' only the dice at d were turned, and new objects laid -/
structure Gr (d : Addr) (H H' : Hp) : Prop where
  dice : D3 H' d
  keep : ∀ a o, a ≠ d → H a = some o → H' a = some o
theorem Gr.refl {d : Addr} {H : Hp} (h : D3 H d) : Gr d H H := ⟨h, fun _ _ _ e => e⟩
theorem Gr.trans {d : Addr} {H H1 H2 : Hp} (a : Gr d H H1) (b : Gr d H1 H2) : Gr d H H2 := ⟨b.dice, fun p o n e => b.keep p o n (a.keep p o n e)⟩
theorem Gr.laid {d p : Addr} {H : Hp} {o : HO} (h : D3 H d) (n : H p = none) : Gr d H (upd H p o) := by
  obtain ⟨g, b, c, e⟩ := h
  exact ⟨⟨g, b, c, by rw [upd_ne (ne_of_none e n)]; exact e⟩, fun a u _ z => by rw [upd_ne (ne_of_none z n)]; exact z⟩
theorem D3.ne {d p : Addr} {H : Hp} (h : D3 H d) (n : H p = none) : p ≠ d := by
  obtain ⟨g, b, c, e⟩ := h
  exact (ne_of_none e n).symm
theorem Gr.seq {K : PySem.W.Frag} {d a : Addr} {H H' : Hp} {xs : List V} (r : Gr d H H') (n : a ≠ d) (h : SqL K H a xs) : SqL K H' a xs := by
  rcases h with (h | ⟨o, h⟩) | h
  · exact .inl (.inl (r.keep _ _ n h))
  · exact .inl (.inr ⟨o, r.keep _ _ n h⟩)
  · exact .inr h
theorem Gr.put {d l : Addr} {H H' : Hp} {o : HO} (r : Gr d H H') (n : H l = none) (m : l ≠ d) : Gr d H (upd H' l o) := by
  obtain ⟨g, b, c, e⟩ := r.dice
  exact ⟨⟨g, b, c, by rw [upd_ne m.symm]; exact e⟩, fun a u q z => by rw [upd_ne (ne_of_none z n)]; exact r.keep a u q z⟩
theorem Gr.free {d l : Addr} {H H' : Hp} (r : Gr d H H') (h : D3 H d) (n : H' l = none) : H l = none := by
  cases q : H l with
  | none => rfl
  | some o =>
    by_cases e : l = d
    · obtain ⟨g, b, c, z⟩ := r.dice
      rw [e, z] at n
      cases n
    · rw [r.keep l o e q] at n
      cases n
section
variable {P : Program} {w : World} {K : PySem.W.Frag} {mg : Str → Option Value} {base : Heap}
def spRoll : Sp := fun vs H Q _ => ∃ (d : Addr) (many : Int), vs = [.ref d, .int many] ∧ D3 H d ∧ 0 < many ∧ many < 1073741824 ∧
  ∀ (r : Int) H', 0 ≤ r → r < many → D3 H' d → (∀ a, a ≠ d → H' a = H a) → Q (.int r) H'
theorem fmod_in {i m : Int} (h : 0 < m) : 0 ≤ i.fmod m ∧ i.fmod m < m := by
  rw [Int.fmod_eq_emod_of_nonneg i (by omega)]
  exact ⟨Int.emod_nonneg i (by omega), Int.emod_lt_of_pos i h⟩
theorem in64 {x : Int} (h : 0 ≤ x ∧ x < 2305843009213693951) : -(2 ^ 64) < x ∧ x < 2 ^ 64 := by omega
theorem in64' {x : Int} (h : 0 ≤ x ∧ x < 2305843009213693807) : -(2 ^ 64) < x ∧ x < 2 ^ 64 := by omega
theorem m1N : (2305843009213693951 : Int) ≠ 0 := by decide
theorem m2N : (2305843009213693807 : Int) ≠ 0 := by decide
theorem m3N : (2305843009213693537 : Int) ≠ 0 := by decide
theorem d8N : (8192 : Int) ≠ 0 ∧ (8192 : Int).natAbs < 1073741824 := by decide
theorem ok_roll {f : Addr} {fd : FuncData} (F : Fun K "_law_roll" "_law_roll" s__law_roll f fd) (T : Txt mg) : FnOk P w K mg base CX0 1 f fd ["dice", "many"] spRoll := by
  refine F.ok sc__law_roll (fun vs H Q E h => ?_) (fun cdv A outer s H vs Q E hr h => ?_)
  · obtain ⟨d, m, rfl, _⟩ := h
    rfl
  · obtain ⟨d, m, rfl, ⟨g, b, c, eH⟩, m0, m1, q⟩ := h
    refine ⟨_, (pss_cons (ps_if (pt_cmpR op_gt (pe_ix ix_list (pv 0) pe_int (fun _ _ => rfl)) pe_int (nomark _))
  (pss_cons (ps_set (i := 2) sc__law_roll.nd rfl (.inl rfl) (pe_op op_modN (pe_callTy call_int1 (by rfl) T.int_ (by decide +kernel) (pa_cons (pe_ix ix_list (pv 0) pe_int (fun _ _ => rfl)) pa_nil)) (pv 1)))
  (pss_cons (ps_asg (pe_op op_fdivN (pe_ix ix_list (pv 0) pe_int (fun _ _ => rfl)) (pv 1)) (pg_sub (pv 0) pe_int set_list))
  (pss_one (ps_ret (pv 2)))))
  pss_nil)
  (pss_cons (ps_asg (pe_op op_add (pe_ix ix_list (pv 0) pe_int (fun _ _ => rfl)) pe_int) (pg_sub (pv 0) pe_int set_list))
  (pss_cons (ps_set (i := 3) sc__law_roll.nd rfl (.inl rfl) (pe_op op_modN (pe_callTy call_int1 (by rfl) T.int_ (by decide +kernel) (pa_cons (pe_op op_add (pe_ix ix_list (pv 0) pe_int (fun _ _ => rfl)) (pe_op op_mul pe_int (pe_ix ix_list (pv 0) pe_int (fun _ _ => rfl)))) pa_nil)) pe_int))
  (pss_cons (ps_set (i := 4) sc__law_roll.nd rfl (.inl rfl) (pe_op op_add (pe_op op_mul (pe_op op_modN (pe_callTy call_int1 (by rfl) T.int_ (by decide +kernel) (pa_cons (pe_op op_mul (pv 3) (pv 3)) pa_nil)) pe_int) (pv 3)) (pe_op op_mul pe_int (pe_ix ix_list (pv 0) pe_int (fun _ _ => rfl)))))
  (pss_cons (ps_set (i := 4) sc__law_roll.nd rfl (.inl rfl) (pe_op op_modN (pe_callTy call_int1 (by rfl) T.int_ (by decide +kernel) (pa_cons (pv 4) pa_nil)) pe_int))
  (pss_one (ps_ret (pe_op op_modN (pe_callTy call_int1 (by rfl) T.int_ (by decide +kernel) (pa_cons (pe_op op_fdivN (pv 4) pe_int) pa_nil)) (pv 1))))))))), ?_⟩
    refine ⟨_, rfl, d, _, 0, _, rfl, rfl, SqL.of eH, atI_nat (j := 0) rfl, g, 0, rfl, rfl, _, rfl, ite2 (fun _ => ?_) (fun _ => ?_)⟩
    · refine ⟨_, rfl, d, _, 0, _, rfl, rfl, SqL.of eH, atI_nat (j := 0) rfl, .inl ⟨g, rfl, ?_⟩⟩
      refine ⟨_, rfl, g, m, rfl, rfl, by omega, ?_⟩
      refine ⟨_, rfl, d, _, 0, _, rfl, rfl, SqL.of eH, atI_nat (j := 0) rfl, _, rfl, g, m, rfl, rfl, ⟨by omega, by omega⟩, ?_⟩
      refine ⟨_, rfl, d, _, 0, 0, rfl, rfl, eH, rfl, ?_⟩
      refine ⟨_, rfl, q _ _ (fmod_in m0).1 (fmod_in m0).2 ⟨_, b, c, upd_same⟩ fun a n => upd_ne n⟩
    · refine ⟨_, rfl, d, _, 2, _, rfl, rfl, SqL.of eH, atI_nat (j := 2) rfl, c, 1, rfl, rfl, ?_⟩
      refine ⟨_, rfl, d, _, 2, 2, rfl, rfl, eH, rfl, ?_⟩
      have e1 : (upd H d (.lst [.int g, .int b, .int (c + 1)])) d = some (.lst [.int g, .int b, .int (c + 1)]) := upd_same
      refine ⟨_, rfl, d, _, 1, _, rfl, rfl, SqL.of e1, atI_nat (j := 1) rfl, _, rfl, d, _, 2, _, rfl, rfl, SqL.of e1, atI_nat (j := 2) rfl, _, _, rfl, rfl, .inl ⟨by decide, by decide⟩, _, _, rfl, rfl, .inl ⟨_, rfl, ?_⟩⟩
      refine ⟨_, _, rfl, rfl, m1N, ?_⟩
      refine ⟨_, rfl, _, rfl, _, _, rfl, rfl, .inl (in64 (fmod_in (by decide))), .inl ⟨_, rfl, ?_⟩⟩
      refine ⟨_, _, rfl, rfl, m2N, ?_⟩
      refine ⟨_, rfl, _, _, rfl, rfl, .inl (in64' (fmod_in (by decide))), ?_⟩
      refine ⟨_, rfl, d, _, 2, _, rfl, rfl, SqL.of e1, atI_nat (j := 2) rfl, _, _, rfl, rfl, .inl ⟨by decide, by decide⟩, _, _, rfl, rfl, ?_⟩
      refine ⟨_, rfl, .inl ⟨_, rfl, _, _, rfl, rfl, m3N, ?_⟩⟩
      refine ⟨_, rfl, _, _, rfl, rfl, d8N, .inl ⟨_, rfl, _, rfl, _, m, rfl, rfl, by omega, ?_⟩⟩
      exact q _ _ (fmod_in m0).1 (fmod_in m0).2 ⟨g, b, _, upd_same⟩ fun a n => upd_ne n
end
end Eh
set_option Elab.async false
set_option linter.all false
set_option maxRecDepth 100000
namespace Eh
open PySem PySem.Spec PyProof.Rows L2
section
variable {X : Cx} {K : PySem.W.Frag}
theorem ixL (h : X.K = K) : IxR X (rIxL K) := by subst h; exact ix_list
theorem ixT (h : X.K = K) : IxR X (rIxT K) := by subst h; exact ix_tup
theorem slL (h : X.K = K) : SlR X (rSlL K) := by subst h; exact sl_list
theorem inQ (h : X.K = K) : OpR X (compareOp .In) (rIn K false) := by subst h; exact op_in_seq
theorem eqD (h : X.K = K) (hu : X.A.units + 64 < cLine) : OpR X (compareOp .Eq) (rEqD K) := by subst h; exact op_eqD hu
theorem neD (h : X.K = K) (hu : X.A.units + 64 < cLine) : OpR X (compareOp .NotEq) (rNeD K) := by subst h; exact op_neD hu
def rLen (K : PySem.W.Frag) : List V → Hp → VK → Prop := fun xs H Q => (∃ p ys, xs = [.ref p] ∧ (SqL K H p ys ∨ SqT K H p ys) ∧ Q (.int ys.length) H) ∨ (∃ z : Str, xs = [.str z] ∧ z.length ≤ sizeLine ∧ Q (.int z.length) H)
theorem lenQ (h : X.K = K) : CallR X (.builtin "len") (rLen K) := by subst h; exact call_len_seq.or call_len_str
def rLstOf (K : PySem.W.Frag) : List V → Hp → VK → Prop := fun xs H Q => ∃ p ys, xs = [.ref p] ∧ (SqL K H p ys ∨ SqT K H p ys) ∧ ∀ l, H l = none → Q (.ref l) (upd H l (.lst ys))
theorem lstOf (h : X.K = K) : CallR X (.type "list") (rLstOf K) := by subst h; exact call_list_of
theorem isiQ (h : X.K = K) : CallR X (.builtin "isinstance") (rIsi K) := by subst h; exact call_isi
theorem allQ (h : X.K = K) (hc : X.calm = true) : CallR X (.builtin "all") (rAll K) := by subst h; exact cr_all hc
theorem bmK {e : Expr} {T : String} {r : V → List V → Hp → VK → Prop} {to : TE} {t : TA} (h : X.K = K) (p : PE X e (tBM X.K T r to t)) : PE X e (tBM K T r to t) := by subst h; exact p
theorem bm0K {e : Expr} {T : String} {r : V → List V → Hp → VK → Prop} {to : TE} (h : X.K = K) (p : PE X e (tBM0 X.K T r to)) : PE X e (tBM0 K T r to) := by subst h; exact p
theorem piL {tg l : Expr} {tl : TE} (h : X.K = K) (hl : PE X l tl) : PI X tg l (iList K tl) := by subst h; exact pi_list hl
end
end Eh
set_option Elab.async false
set_option linter.all false
set_option maxRecDepth 100000
namespace Eh
open PySem PySem.Spec PyProof.Rows L2
theorem small {n : Nat} (h : n < 1000000) : n < sizeLine := Nat.lt_of_lt_of_le h (by decide)
theorem wipe1 {σ : L2.St} {i : Nat} {x : Option V} : wipe ((wipe σ [i]).set i x) [i] = wipe σ [i] := by
  show ((σ.set i none).set i x).set i none = σ.set i none
  rw [List.set_set, List.set_set]
/-- ahead of turn j: what is made stands at D, and R -/
def LcP (R : Nat → List V → Hp → Prop) (D : Addr) (j : Nat) (H : Hp) : Prop := ∃ acc, acc.length ≤ j ∧ H D = some (.lst acc) ∧ R j acc H
/-- behind the element of turn j -/
def LcK (R : Nat → List V → Hp → Prop) (D : Addr) (j : Nat) : VK := fun y H4 => ∃ acc, H4 D = some (.lst acc) ∧ acc.length < sizeLine ∧ LcP R D (j + 1) (upd H4 D (.lst (acc ++ [y])))
theorem LcK.mk {R : Nat → List V → Hp → Prop} {D : Addr} {j : Nat} {acc : List V} {y : V} {H : Hp} (hl : acc.length ≤ j) (hj : j < 1000000) (e : H D = some (.lst acc)) (r : R (j + 1) (acc ++ [y]) (upd H D (.lst (acc ++ [y])))) : LcK R D j y H :=
  ⟨acc, e, small (by omega), acc ++ [y], by rw [List.length_append]; show acc.length + 1 ≤ j + 1; omega, upd_same, r⟩
/-- what a comprehension's reading asks behind its new list -/
def LcGoal (J : It) (g : TG) (tt : TT) (te : TE) (vs : List Nat) (σ : L2.St) (H1 : Hp) (D : Addr) (Qd : Hp → Prop) : Prop :=
  ∃ W : Nat → Nat → Hp → Prop, (∃ m, W 0 m (upd H1 D (.lst []))) ∧ ∀ i m H, W i m H → (J.stop i H ∧ Qd H) ∨ (J.go i H ∧ ∃ Nx : Hp → Prop, (∀ H', Nx H' → ∃ m', m' < m ∧ W (i + 1) m' H') ∧
    ∀ x H', J.yld i H x H' → g x (wipe σ vs) H' fun σ2 H2 => wipe σ2 vs = wipe σ vs ∧ tt σ2 H2 fun b H3 => if b = true then te σ2 H3 fun y H4 => ∃ acc, H4 D = some (.lst acc) ∧ acc.length < sizeLine ∧ Nx (upd H4 D (.lst (acc ++ [y]))) else Nx H3)
theorem yesT {τ : L2.St} {H : Hp} {A B : Hp → Prop} (h : A H) : tYes τ H (fun b H3 => if b = true then A H3 else B H3) := by
  show (if true = true then A H else B H)
  rw [if_pos rfl]
  exact h
section
variable {te : TE} {tt : TT} {σ : L2.St} {H1 : Hp} {D : Addr} {Qd : Hp → Prop} {i : Nat}
theorem lc_any {J : It} {n : Nat} (R : Nat → List V → Hp → Prop) (h0 : R 0 [] (upd H1 D (.lst [])))
    (hgo : ∀ j acc H, j < n → acc.length ≤ j → H D = some (.lst acc) → R j acc H → J.go j H ∧ ∀ x H', J.yld j H x H' → H' = H ∧
      tt ((wipe σ [i]).set i (some x)) H fun b H3 => if b = true then te ((wipe σ [i]).set i (some x)) H3 (LcK R D j) else LcP R D (j + 1) H3)
    (hstop : ∀ acc H, acc.length ≤ n → H D = some (.lst acc) → R n acc H → J.stop n H ∧ Qd H) : LcGoal J (gName i) tt te [i] σ H1 D Qd := by
  refine ⟨fun j m H => m = n - j ∧ j ≤ n ∧ LcP R D j H, ⟨n, by omega, Nat.zero_le _, [], Nat.le_refl _, upd_same, h0⟩, ?_⟩
  rintro j m H ⟨rfl, hj, acc, hl, e, r⟩
  by_cases hlt : j < n
  · obtain ⟨g1, g2⟩ := hgo j acc H hlt hl e r
    refine .inr ⟨g1, LcP R D (j + 1), fun H' q => ⟨n - (j + 1), by omega, rfl, hlt, q⟩, fun x H' y => ?_⟩
    obtain ⟨eH, k⟩ := g2 x H' y
    subst eH
    exact ⟨wipe1, k⟩
  · have ej : j = n := by omega
    subst ej
    exact .inl (hstop acc H hl e r)
/-- over a range, no test -/
theorem lcR {lo : Int} {n : Nat} (R : Nat → List V → Hp → Prop) (h0 : R 0 [] (upd H1 D (.lst [])))
    (hs : ∀ j acc H, j < n → acc.length ≤ j → H D = some (.lst acc) → R j acc H → te ((wipe σ [i]).set i (some (.int (lo + j)))) H (LcK R D j))
    (hd : ∀ acc H, acc.length ≤ n → H D = some (.lst acc) → R n acc H → Qd H) : LcGoal (Itr lo n) (gName i) tYes te [i] σ H1 D Qd :=
  lc_any R h0 (fun j acc H hj hl e r => ⟨hj, fun x H' y => ⟨y.1, by
    rw [show x = .int (lo + j) from y.2]
    exact hs j acc H hj hl e r⟩⟩) fun acc H hl e r => ⟨Nat.le_refl _, hd acc H hl e r⟩
/-- over a text, no test; with one -/
theorem lcS {z : Str} (R : Nat → List V → Hp → Prop) (h0 : R 0 [] (upd H1 D (.lst [])))
    (hs : ∀ j c acc H, z.cps[j]? = some c → acc.length ≤ j → H D = some (.lst acc) → R j acc H →
      tt ((wipe σ [i]).set i (some (.str ⟨#[c]⟩))) H fun b H3 => if b = true then te ((wipe σ [i]).set i (some (.str ⟨#[c]⟩))) H3 (LcK R D j) else LcP R D (j + 1) H3)
    (hd : ∀ acc H, acc.length ≤ z.cps.size → H D = some (.lst acc) → R z.cps.size acc H → Qd H) : LcGoal (Its z) (gName i) tt te [i] σ H1 D Qd :=
  lc_any R h0 (fun j acc H hj hl e r => ⟨hj, fun x H' y => by
    obtain ⟨y1, c, hc, rfl⟩ := y
    exact ⟨y1, hs j c acc H hc hl e r⟩⟩) fun acc H hl e r => ⟨Nat.le_refl _, hd acc H hl e r⟩
/-- over a list that stays -/
theorem lcL {K : PySem.W.Frag} {a : Addr} {xs : List V} (R : Nat → List V → Hp → Prop) (h0 : R 0 [] (upd H1 D (.lst []))) (hl : ∀ j acc H, R j acc H → SqL K H a xs)
    (hs : ∀ j x acc H, xs[j]? = some x → acc.length ≤ j → H D = some (.lst acc) → R j acc H →
      tt ((wipe σ [i]).set i (some x)) H fun b H3 => if b = true then te ((wipe σ [i]).set i (some x)) H3 (LcK R D j) else LcP R D (j + 1) H3)
    (hd : ∀ acc H, acc.length ≤ xs.length → H D = some (.lst acc) → R xs.length acc H → Qd H) : LcGoal (Itl K a) (gName i) tt te [i] σ H1 D Qd :=
  lc_any R h0 (fun j acc H hj hl' e r => ⟨⟨xs, xs[j], hl _ _ _ r, List.getElem?_eq_getElem hj⟩, fun x H' y => ⟨y.1, hs j x acc H (y.2 xs (hl _ _ _ r)) hl' e r⟩⟩)
    fun acc H hl' e r => ⟨⟨xs, hl _ _ _ r, Nat.le_refl _⟩, hd acc H hl' e r⟩
/-- over a tuple that stays -/
theorem lcT {K : PySem.W.Frag} {a : Addr} {xs : List V} (R : Nat → List V → Hp → Prop) (h0 : R 0 [] (upd H1 D (.lst []))) (hl : ∀ j acc H, R j acc H → SqT K H a xs)
    (hs : ∀ j x acc H, xs[j]? = some x → acc.length ≤ j → H D = some (.lst acc) → R j acc H →
      tt ((wipe σ [i]).set i (some x)) H fun b H3 => if b = true then te ((wipe σ [i]).set i (some x)) H3 (LcK R D j) else LcP R D (j + 1) H3)
    (hd : ∀ acc H, acc.length ≤ xs.length → H D = some (.lst acc) → R xs.length acc H → Qd H) : LcGoal (Itt K a) (gName i) tt te [i] σ H1 D Qd :=
  lc_any R h0 (fun j acc H hj hl' e r => ⟨⟨xs, xs[j], hl _ _ _ r, List.getElem?_eq_getElem hj⟩, fun x H' y => ⟨y.1, hs j x acc H (y.2 xs (hl _ _ _ r)) hl' e r⟩⟩)
    fun acc H hl' e r => ⟨⟨xs, hl _ _ _ r, Nat.le_refl _⟩, hd acc H hl' e r⟩
end
end Eh
set_option Elab.async false
set_option linter.all false
set_option maxRecDepth 100000
namespace Eh
open PySem PySem.Spec PyProof.Rows L2
section
variable {P : Program} {w : World} {K : PySem.W.Frag} {mg : Str → Option Value} {base : Heap}
theorem seq_off {d a : Addr} {H H' : Hp} {xs : List V} (n : a ≠ d) (k : ∀ b, b ≠ d → H' b = H b) (h : SqL K H a xs) : SqL K H' a xs := by
  rcases h with (h | ⟨o, h⟩) | h
  · exact .inl (.inl (by rw [k a n]; exact h))
  · exact .inl (.inr ⟨o, by rw [k a n]; exact h⟩)
  · exact .inr h
def spPick (K : PySem.W.Frag) : Sp := fun vs H Q _ => ∃ (d a : Addr) (xs : List V), vs = [.ref d, .ref a] ∧ D3 H d ∧ SqL K H a xs ∧ a ≠ d ∧ 0 < xs.length ∧ xs.length < 1000000 ∧
  ∀ x H', x ∈ xs → D3 H' d → (∀ b, b ≠ d → H' b = H b) → Q x H'
theorem at_in {xs : List V} {r : Int} (h0 : 0 ≤ r) (h1 : r < xs.length) : ∃ x, atI xs r = some x ∧ x ∈ xs := by
  have h : r.toNat < xs.length := by omega
  refine ⟨xs[r.toNat], ?_, List.getElem_mem h⟩
  have e := atI_nat (xs := xs) (j := r.toNat) (List.getElem?_eq_getElem h)
  rwa [Int.toNat_of_nonneg h0] at e
theorem ok_pick {f fR : Addr} {fd fdR : FuncData} (F : Fun K "_law_pick" "_law_pick" s__law_pick f fd) (T : Txt mg) (C__law_roll : Cal P w K mg base 1 "_law_roll" fR fdR ["dice", "many"] spRoll) :
    FnOk P w K mg base CX0 2 f fd ["dice", "items"] (spPick K) := by
  refine F.ok sc__law_pick (fun vs H Q E h => ?_) (fun cdv A outer s H vs Q E hr h => ?_)
  · obtain ⟨d, a, xs, rfl, _⟩ := h
    rfl
  · obtain ⟨d, a, xs, rfl, D, hS, hn, h0, h1, q⟩ := h
    refine ⟨_, (pss_one (ps_ret (pe_ix (ixL (K := K) rfl) (pv 1) (pe_call C__law_roll.G hr (by rfl) C__law_roll.m C__law_roll.k C__law_roll.b .nil pass0 (pa_cons (pv 0) (pa_cons (pe_callB (lenQ (K := K) rfl) (by rfl) T.len_ (by decide +kernel) (pa_cons (pv 1) pa_nil)) pa_nil))) (fun _ _ => rfl)))), ?_⟩
    refine ⟨_, rfl, _, rfl, _, rfl, (.inl ⟨a, xs, rfl, .inl hS, d, _, rfl, D, by omega, by omega, fun r H' r0 r1 D' k => ?_⟩)⟩
    obtain ⟨x, e, hx⟩ := at_in r0 r1
    exact ⟨a, xs, r, x, rfl, rfl, seq_off hn k hS, e, q x H' hx D' k⟩
end
end Eh
set_option Elab.async false
set_option linter.all false
set_option maxRecDepth 100000
namespace Eh
open PySem PySem.Spec PyProof.Rows L2
section
variable {P : Program} {w : World} {K : PySem.W.Frag} {mg : Str → Option Value} {base : Heap}
def spDice (K : PySem.W.Frag) : Sp := fun vs H Q _ => ∃ (a : Addr) (ns : List Int) (k : Nat), vs = [.ref a, .int k] ∧ SqL K H a (ns.map V.int) ∧
  ∀ d H', Same H H' → H d = none → D3 H' d → Q (.ref d) H'
theorem p60 : (0 : Int) ≤ 60 ∧ (60 : Int) ≤ 1000000 ∧ (10 : Int).natAbs < 2 ^ 64 := by decide
theorem p18 : (0 : Int) ≤ 18 ∧ (18 : Int) ≤ 1000000 ∧ (10 : Int).natAbs < 2 ^ 64 := by decide
theorem p600 : (0 : Int) ≤ 10 ∧ (Builtin.Int.intBits ((10 : Int) ^ (60 : Int).toNat) : Int) * 10 ≤ 2 ^ 27 := by decide +kernel
theorem n600 : ((10 : Int) ^ (60 : Int).toNat) ^ (10 : Int).toNat ≠ 0 := by decide +kernel
theorem mulR {i j : Int} (h : -(2 ^ 64) < j ∧ j < 2 ^ 64) : CMul i j := .inr h
theorem mulL {i j : Int} (h : -(2 ^ 64) < i ∧ i < 2 ^ 64) : CMul i j := .inl h
theorem same_new {H : Hp} {p : Addr} {o : HO} (h : H p = none) : Same H (upd H p o) := fun b x e => by
  rw [upd_ne (ne_of_none e h)]
  exact e
theorem lenOk (n : Nat) {xs : List V} (e : xs.length = n := by rfl) (h : n < 1000000 := by decide) : xs.length ≤ sizeLine := by
  rw [e]
  exact Nat.le_of_lt (small h)
theorem ok_dice {f : Addr} {fd : FuncData} (F : Fun K "_law_dice" "_law_dice" s__law_dice f fd) (T : Txt mg) : FnOk P w K mg base CX0 1 f fd ["script", "spot"] (spDice K) := by
  refine F.ok sc__law_dice (fun vs H Q E h => ?_) (fun cdv A outer s H vs Q E hr h => ?_)
  · obtain ⟨a, ns, k, rfl, _⟩ := h
    rfl
  · obtain ⟨a, ns, k, rfl, hS, q⟩ := h
    refine ⟨_, (pss_cons (ps_set (i := 2) sc__law_dice.nd rfl (.inl rfl) (pe_op op_add (pe_op op_mul pe_int (pv 1)) pe_int))
  (pss_cons (ps_if (pt_cmpR op_lt (pv 1) (pe_callB (lenQ (K := K) rfl) (by rfl) T.len_ (by decide +kernel) (pa_cons (pv 0) pa_nil)) (nomark _))
  (pss_one (ps_set (i := 2) sc__law_dice.nd rfl (.inl rfl) (pe_ix (ixL (K := K) rfl) (pv 0) (pv 1) (fun _ _ => rfl))))
  pss_nil)
  (pss_cons (ps_set (i := 3) sc__law_dice.nd rfl (.inl rfl) (pe_op op_modN (pe_callTy call_int1 (by rfl) T.int_ (by decide +kernel) (pa_cons (pe_callB call_abs (by rfl) T.abs_ (by decide +kernel) (pa_cons (pv 2) pa_nil)) pa_nil)) (pe_op op_powB (pe_op op_pow pe_int pe_int) pe_int)))
  (pss_cons (ps_set (i := 4) sc__law_dice.nd rfl (.inl rfl) (pe_op op_add (pe_op op_add (pe_op op_add (pe_op op_mul (pe_op op_modN (pe_callTy call_int1 (by rfl) T.int_ (by decide +kernel) (pa_cons (pv 3) pa_nil)) pe_int) pe_int) (pe_op op_mul pe_int (pv 1))) (pe_op op_mul pe_int (pe_callTy call_int1 (by rfl) T.int_ (by decide +kernel) (pa_cons (pe_cmpR op_lt (pv 2) pe_int (nomark _)) pa_nil)))) pe_int))
  (pss_one (ps_ret (pe_lst (pa_cons (pe_callB (call_max2 (by rfl)) (by rfl) T.max_ (by decide +kernel) (pa_cons pe_int (pa_cons (pe_op op_sub (pv 3) (pe_op op_pow pe_int pe_int)) pa_nil))) (pa_cons (pe_op op_modN (pe_callTy call_int1 (by rfl) T.int_ (by decide +kernel) (pa_cons (pv 4) pa_nil)) pe_int) (pa_cons pe_int pa_nil)))))))))), ?_⟩
    refine ⟨_, rfl, _, _, rfl, rfl, mulL (by decide), _, _, rfl, rfl, ?_⟩
    refine ⟨_, rfl, _, rfl, .inl ⟨a, _, rfl, .inl hS, _, _, rfl, rfl, _, rfl, ite2 (fun hk => ?A) (fun _ => ?B)⟩⟩
    case' A =>
      have hk : (k : Int) < ((ns.map V.int).length : Int) := of_decide_eq_true hk
      have hk' : k < ns.length := by rw [List.length_map] at hk; omega
      refine ⟨_, rfl, _, rfl, a, _, k, .int ns[k], rfl, rfl, hS, atI_nat (by rw [List.getElem?_map, List.getElem?_eq_getElem hk']; rfl), ?_⟩
    all_goals
      refine ⟨_, rfl, _, rfl, .inl ⟨_, rfl, _, _, rfl, rfl, p60, _, _, rfl, rfl, p600, _, _, rfl, rfl, n600, ?_⟩⟩
      refine ⟨_, rfl, .inl ⟨_, rfl, _, _, rfl, rfl, m3N, _, _, rfl, rfl, mulR (by decide), _, rfl, _, _, rfl, rfl, mulL (by decide), _, _, rfl, rfl, _, rfl, _, _, rfl, rfl, .inr ⟨_, rfl, _, _, rfl, rfl, mulL (by decide), _, _, rfl, rfl, _, _, rfl, rfl, ?_⟩⟩⟩
      refine ⟨_, rfl, _, _, rfl, rfl, p18, _, _, rfl, rfl, _, _, rfl, _, rfl, .inl ⟨_, rfl, _, _, rfl, rfl, m3N, lenOk 3, fun l nl => ?_⟩⟩
      exact q l _ (same_new nl) nl ⟨_, _, _, upd_same⟩
end
end Eh
set_option Elab.async false
set_option linter.all false
set_option maxRecDepth 100000
namespace Eh
open PySem PySem.Spec PyProof.Rows L2
theorem flat_strs (ws : List Str) : (ws.map V.str).all flatV = true := by
  rw [List.all_eq_true]
  intro x hx
  obtain ⟨z, _, rfl⟩ := List.mem_map.mp hx
  rfl
end Eh
set_option Elab.async false
set_option linter.all false
set_option maxRecDepth 100000
namespace Eh
open PySem PySem.Spec PyProof.Rows L2
theorem exmSelf {K : PySem.W.Frag} {C : Addr} (b : PySem.W.subIn K (.ref C) (.type "BaseException") = some true) (i : PySem.W.isClsIn K C = true)
    (t : PySem.W.typeIn K (.ref C) = some (.type "type")) (s : PySem.W.subIn K (.ref C) (.ref C) = some true) : PySem.W.exmOne K (.ref C) (.ref C) = some true := by
  unfold PySem.W.exmOne
  rw [b, if_pos (by decide)]
  have j : ((PySem.W.clsIn K C).isSome && PySem.W.typeIn K (.ref C) == some (.type "type")) = true := by
    rw [show (PySem.W.clsIn K C).isSome = true from i, t]
    decide
  exact (if_pos j).trans s
end Eh
set_option Elab.async false
set_option linter.all false
set_option maxRecDepth 100000
set_option maxHeartbeats 2000000
namespace Eh
open PySem PySem.Spec PyProof.Rows L2
def txtOf (e : Int × Value) : Str := match e.2 with
  | .str x _ => x
  | _ => Str.empty
def GoodT (w : World) (e : Int × Value) : Prop := ∃ x tk, e.2 = Value.str x tk ∧ e.1 = hashStr w x
/-- the table es, t holds the texts ts -/
structure TB (w : World) (ts : List Str) (es : Array (Int × Value)) (t : SetTable) : Prop where
  good : ∀ e ∈ es.toList, GoodT w e
  perm : (es.toList.map txtOf).Perm ts
  room : es.size < scanBound
  fits : t.fits es.size = true
  ris : Ris t.place.toList
  led : w.params.followText "set-order" = true ∨ t.led = true
theorem TB.size {w : World} {ts : List Str} {es : Array (Int × Value)} {t : SetTable} (b : TB w ts es t) : es.size = ts.length := by
  rw [← b.perm.length_eq, List.length_map, Array.length_toList]
theorem TB.elems {P : Program} {w : World} {ts : List Str} {es : Array (Int × Value)} {t : SetTable} (b : TB w ts es t) : ElemsOf (strKind P w) es.toList := fun e he => by
  obtain ⟨x, tk, h1, h2⟩ := b.good e he
  refine ⟨⟨x, ?_, h2⟩, by rw [h1]; rfl⟩
  rw [h1]
  exact strKind_is P w x tk
theorem good_str {P : Program} {w : World} {e : Int × Value} (g : GoodT w e) (x : Str) : (strKind P w).is x e.2 = true ↔ txtOf e = x := by
  obtain ⟨y, tk, h1, _⟩ := g
  unfold txtOf
  rw [h1]
  constructor
  · intro h
    obtain ⟨t, ht⟩ := Value.isStrOf_shape (x := x) (v := Value.str y tk) h
    injection ht
  · intro h
    have h' : y = x := h
    rw [h']
    exact strKind_is P w x tk
theorem TB.mem {P : Program} {w : World} {ts : List Str} {es : Array (Int × Value)} {t : SetTable} (b : TB w ts es t) (x : Str) : x ∈ ts ↔ ∃ e ∈ es.toList, (strKind P w).is x e.2 = true := by
  rw [← b.perm.mem_iff, List.mem_map]
  exact ⟨fun ⟨e, he, q⟩ => ⟨e, he, (good_str (b.good e he) x).2 q⟩, fun ⟨e, he, q⟩ => ⟨e, he, (good_str (P := P) (b.good e he) x).1 q⟩⟩
theorem TB.relay {w : World} {ts : List Str} {es : Array (Int × Value)} {t : SetTable} (b : TB w ts es t) (n : Nat) : TB w ts (relayAll t es n).1 (relayAll t es n).2.1 := by
  have pm := relayAll_perm t es n
  have sz : (relayAll t es n).1.size = es.size := by rw [← Array.length_toList, pm.length_eq, Array.length_toList]
  exact ⟨fun e he => b.good e (pm.mem_iff.mp he), (pm.map txtOf).trans b.perm, by rw [sz]; exact b.room, relayAll_fits t es n, relayAll_ris t es n, b.led.imp id fun z => by rw [relayAll_led]; exact z⟩
theorem TB.lay {P : Program} {w : World} {ts : List Str} {es : Array (Int × Value)} {t : SetTable} (b : TB w ts es t) (x : Str) (tk : Tok) (hr : ts.length + 1 < scanBound) :
    TB w (x :: ts) (layNew t es ((strKind P w).hash x) (.str x tk)).1 (layNew t es ((strKind P w).hash x) (.str x tk)).2.1 := by
  have pm := layNew_perm t es ((strKind P w).hash x) (.str x tk)
  rw [Array.toList_push] at pm
  have pc := pm.trans (List.perm_append_singleton _ _)
  refine ⟨fun e he => ?_, (pc.map txtOf).trans (b.perm.cons x), ?_, layNew_fits t es _ _, layNew_ris t es _ _ b.ris, b.led.imp id fun z => by rw [layNew_led]; exact z⟩
  · rcases List.mem_cons.mp (pc.mem_iff.mp he) with z | z
    · exact ⟨x, tk, by rw [z], by rw [z]; rfl⟩
    · exact b.good e z
  · rw [← Array.length_toList, pc.length_eq, List.length_cons, Array.length_toList, b.size]
    exact hr
/-- the set of the texts ts stands at a -/
def SetT (w : World) (h : Heap) (a : Addr) (ts : List Str) : Prop := ts.Nodup ∧ ∃ o es ep t, h.get? a = some o ∧ o.ExactSet ∧ o.data = .set es ep t ∧ TB w ts es t
section
variable {P : Program} {w : World} {A : Around} {E : Value → Shared → Prop} {s : Shared} {a : Addr} {ts : List Str}
theorem setT_stored {o : Obj} {es es1 : Array (Int × Value)} {ep : Nat} {t t1 : SetTable} {R : Unit → Shared → Prop} (ho : s.heap.get? a = some o) (hx : o.ExactSet) (hd : o.data = .set es ep t) (b : TB w ts es1 t1) (nd : ts.Nodup)
    (k : ∀ h' o' ep', Heap.SameBut a s.heap h' → h'.get? a = some o' → o'.ExactSet → o'.data = .set es1 ep' t1 → R () { s with heap := h' }) : wpAny (model P w) A (storeSet a es1 t1) R E s :=
  wpAny_storeSet_of ho hd (k _ _ _ (Heap.SameBut.update s.heap a (Obj.putSet es1 t1)) (store_at (es' := es1) (t' := t1) ho hd) hx rfl) (fits_of_scanBound b.room)
end
end Eh
set_option Elab.async false
set_option linter.all false
set_option maxRecDepth 100000
set_option maxHeartbeats 2000000
namespace Eh
open PySem PySem.Spec PyProof.Rows L2
section
variable {P : Program} {w : World} {A : Around} {E : Value → Shared → Prop} {s : Shared} {a : Addr} {ts : List Str}
/-- the end of an add: the new table stored, perhaps laid again -/
theorem setT_tail {g : Bool → Sem Unit} (hg : ∀ (b : Bool) (s₁ : Shared) (Q' : Unit → Shared → Prop), Q' () s₁ → wpAny (model P w) A (g b) Q' E s₁)
    {o : Obj} {es es1 : Array (Int × Value)} {ep : Nat} {t t1 : SetTable} {R : Option Bool → Shared → Prop} {wd : Bool} (ho : s.heap.get? a = some o) (hx : o.ExactSet) (hd : o.data = .set es ep t) (b : TB w ts es1 t1) (nd : ts.Nodup)
    (k : ∀ h', Heap.SameBut a s.heap h' → SetT w h' a ts → R (some true) { s with heap := h' }) :
    wpAny (model P w) A (do
        storeSet a es1 t1
        if (!wd && t1.tooFull) = true then do
            g (relayAll t1 es1 (SetTable.grown es1.size)).2.2
            storeSet a (relayAll t1 es1 (SetTable.grown es1.size)).1 (relayAll t1 es1 (SetTable.grown es1.size)).2.1
            pure (some true)
          else pure (some true)) R E s := by
  refine wpAny_bind (setT_stored ho hx hd b nd fun h1 o1 ep1 sb1 g1 x1 d1 => ?_)
  split
  · refine wpAny_bind (hg _ _ _ ?_)
    refine wpAny_bind (setT_stored (s := { s with heap := h1 }) g1 x1 d1 (b.relay _) nd fun h2 o2 ep2 sb2 g2 x2 d2 => ?_)
    exact wpAny_pure (k h2 (sb1.trans sb2) ⟨nd, o2, _, ep2, _, g2, x2, d2, b.relay _⟩)
  · exact wpAny_pure (k h1 sb1 ⟨nd, o1, es1, ep1, t1, g1, x1, d1, b⟩)
/-- the text x put in -/
def put (x : Str) (ts : List Str) : List Str := if x ∈ ts then ts else x :: ts
theorem setT_hashed {x : Str} {tk : Tok} {Q : Bool → Shared → Prop} (R : SetT w s.heap a ts) (room : ts.length + 1 < scanBound) (k : ∀ r h', Heap.SameBut a s.heap h' → SetT w h' a (put x ts) → Q r { s with heap := h' }) :
    wpAny (model P w) A (setAddHashed a (.str x tk) ((strKind P w).hash x)) Q E s := by
  obtain ⟨nd, o, es, ep, t, ho, hx, hd, b⟩ := R
  have hkey := strKind_is P w x tk
  have hsc : (Value.str x tk).scannable = true := rfl
  unfold setAddHashed setAddHashedIn
  refine wpAny_holding (wpAny_bind (wpAny_setState_of ho hd b.fits ?_))
  dsimp only
  rw [byScan_of hsc b.room (b.elems (P := P))]
  simp only [↓reduceIte]
  unfold setAddByScan
  refine wpAny_bind (wpAny_bind (wpAny_rule (wpAny_bind (wpAny_setScan_of hkey ho hd b.fits (b.elems (P := P)) ?_))))
  cases hf : List.findIdx? (fun e => (strKind P w).is x e.2) es.toList with
  | some j =>
    dsimp only
    obtain ⟨hj, pj, _⟩ := List.findIdx?_eq_some_iff_getElem.mp hf
    have hm : x ∈ ts := (b.mem (P := P) x).2 ⟨es.toList[j], List.getElem_mem hj, pj⟩
    have e : put x ts = ts := if_pos hm
    refine wpAny_pure (wpAny_pure (k _ s.heap (Heap.SameBut.refl a s.heap) ?_))
    rw [e]
    exact ⟨nd, o, es, ep, t, ho, hx, hd, b⟩
  | none =>
    dsimp only
    have hm : x ∉ ts := fun z => by
      obtain ⟨e, he, q⟩ := (b.mem (P := P) x).1 z
      have c := List.findIdx?_eq_none_iff.mp hf e he
      rw [q] at c
      cases c
    have e : put x ts = x :: ts := if_neg hm
    have nd1 : (x :: ts).Nodup := List.nodup_cons.mpr ⟨hm, nd⟩
    have b1 := b.lay (P := P) x tk room
    have fin : ∀ r h', Heap.SameBut a s.heap h' → SetT w h' a (x :: ts) → Q r { s with heap := h' } := fun r h' sb z => k r h' sb (by rw [e]; exact z)
    have gave : ∀ (c : Bool) {s₁ : Shared} {Q' : Unit → Shared → Prop}, Q' () s₁ → wpAny (model P w) A (match c with | true => rule "set.scan.the-table-gave-way" | false => pure ()) Q' E s₁ :=
      fun c s₁ Q' q => match c with
        | true => wpAny_rule q
        | false => wpAny_pure q
    generalize layNew t es ((strKind P w).hash x) (.str x tk) = Z at b1 ⊢
    obtain ⟨es1, t1, wd, gv⟩ := Z
    dsimp only at b1 ⊢
    refine wpAny_bind (gave _ ?_)
    split
    · refine wpAny_bind ?_
      rw [hashByValue_scannable 8 hsc]
      refine wpAny_pure ?_
      refine setT_tail (fun c s₁ Q' q => by cases c <;> first | exact wpAny_pure q | exact wpAny_rule q) ho hx hd (ts := x :: ts) ?_ nd1 fun h' sb z => ?_
      · refine ⟨b1.good, b1.perm, b1.room, ?_, ?_, ?_⟩
        · have := b1.fits
          first | (split <;> first | exact this | exact SetTable.fits_plain_off this) | exact this
        · have := b1.ris
          first | (split <;> exact this) | exact this
        · have := b1.led
          first | (split <;> exact this) | exact this
      · dsimp only
        exact wpAny_pure (fin _ h' sb z)
    · refine wpAny_bind (wpAny_pure ?_)
      simp only [↓reduceIte]
      refine setT_tail (fun c s₁ Q' q => by cases c <;> first | exact wpAny_pure q | exact wpAny_rule q) ho hx hd b1 nd1 fun h' sb z => ?_
      dsimp only
      exact wpAny_pure (fin _ h' sb z)
theorem SetT.typeIs (R : SetT w s.heap a ts) : s.TypeIs (.ref a) "set" := by
  obtain ⟨_, o, es, ep, t, ho, hx, _⟩ := R
  exact ⟨o, ho, hx.1⟩
/-- found.add(x) -/
theorem setT_add {x : Str} {tk : Tok} {Q : Value → Shared → Prop} (R : SetT w s.heap a ts) (room : ts.length + 1 < scanBound)
    (k : ∀ h', Heap.SameBut a s.heap h' → SetT w h' a (put x ts) → Q .none { s with heap := h', toks := s.toks + 1 }) : wpAny (model P w) A (call (.builtin "set.add") [.ref a, .str x tk]) Q E s := by
  refine wpAny_call_entry PySem.F.slot_set_add R.typeIs PySem.F.entry_set_add ?_ (PySem.F.args_set_add_2 _ _)
  unfold Builtin.«set.add» Builtin.Frozenset.oneOther
  simp only [List.isEmpty_nil, bind_assoc]
  unfold Builtin.Frozenset.addrOf setAdd
  refine wpAny_bind (wpAny_pure ?_)
  try dsimp only
  refine wpAny_bind (wpAny_pure ?_)
  try dsimp only
  refine wpAny_bind (wpAny_holding (wpAny_bind ((strKind P w).pyHash (strKind_is P w x tk) (setT_hashed (s := { s with toks := s.toks + 1 }) R room fun r h' sb z => ?_))))
  show wpAny _ _ (ret Value.none) _ _ _
  exact wpAny_pure ⟨_, rfl, k h' sb z⟩
end
end Eh
set_option Elab.async false
set_option linter.all false
set_option maxRecDepth 100000
set_option maxHeartbeats 4000000
namespace Eh
open PySem PySem.Spec PyProof.Rows L2
/-- the set of the texts ts, at a -/
def SetX (w : World) (a : Addr) (ts : List Str) : HO := .ext fun h => SetT w h a ts
theorem SetT.at {w : World} {h h' : Heap} {a : Addr} {ts : List Str} (R : SetT w h a ts) (k : ∀ o, h.get? a = some o → h'.get? a = some o) : SetT w h' a ts := by
  obtain ⟨nd, o, es, ep, t, ho, r⟩ := R
  exact ⟨nd, o, es, ep, t, k o ho, r⟩
theorem setX_ok {w : World} {P : Program} {H : Hp} {h : Heap} {a : Addr} {ts : List Str} (R : SetT w h a ts) : ObjOk P w H h a (SetX w a ts) := by
  obtain ⟨nd, o, es, ep, t, ho, r⟩ := id R
  exact ⟨R, ⟨o, ho⟩, fun _ _ p k => p.at k⟩
section
variable {X : Cx} {pins : List (Addr × Obj)} {σ : L2.St} {H : Hp} {s : Shared} {a : Addr} {ts : List Str}
theorem setX_get (I : Inv X pins σ H s) (ha : H a = some (SetX X.w a ts)) : SetT X.w s.heap a ts := (I.hok a _ ha).1
theorem setT_empty (w : World) (h : Heap) : SetT w (h.push { cls := .type "set", dict := none, data := .set #[] 0 (.fresh 0 0 (!w.params.followText "set-order")) }) h.objs.size [] := by
  refine ⟨List.nodup_nil, _, #[], 0, _, Heap.get?_push_size _ rfl, ⟨rfl, rfl, rfl⟩, rfl, fun e he => by simp at he, List.Perm.refl _, by decide, rfl, List.Pairwise.nil, ?_⟩
  cases hq : w.params.followText "set-order" with
  | true => exact .inl rfl
  | false => exact .inr rfl
/-- set.add of a tracked set -/
theorem add_run {z : Str} {v : Value} {Q : Value → Shared → Prop} {E : Value → Shared → Prop} (I : Inv X pins σ H s) (ha : H a = some (SetX X.w a ts)) (hz : ts.length < 1000) (r : RelV (.str z) v)
    (k : ∀ s', Inv X pins σ (upd H a (SetX X.w a (put z ts))) s' → Q .none s') : wpAny (model X.prog X.w) X.A (call (.builtin "set.add") [.ref a, v]) Q E s := by
  obtain ⟨t, rfl⟩ := r
  refine setT_add (setX_get I ha) (Nat.lt_trans (by omega : ts.length + 1 < 1002) (by decide)) fun h' sb R => k _ ?_
  obtain ⟨_, o, _, _, _, ho, _⟩ := id R
  exact I.write (e := a) (t' := s.toks + 1) (by rw [ha]; trivial) (.inl rfl) (fun b u hb hu => (sb.2 b hb).trans hu) ⟨o, ho⟩ (setX_ok R)
end
/-- {e for target in iter if ..}, the elements texts: D the new set -/
def tSc (w : World) (wi : TI) (g : TG) (tt : TT) (te : TE) (vs : List Nat) : TE := fun σ H Q => wi σ H fun J H1 => ∀ D, H1 D = none → ∃ W : Nat → Nat → Hp → Prop, (∃ m, W 0 m (upd H1 D (SetX w D []))) ∧ ∀ i m H, W i m H →
  (J.stop i H ∧ Q (.ref D) H) ∨ (J.go i H ∧ ∃ Nx : Hp → Prop, (∀ H', Nx H' → ∃ m', m' < m ∧ W (i + 1) m' H') ∧ ∀ x H', J.yld i H x H' → g x (wipe σ vs) H' fun σ2 H2 => wipe σ2 vs = wipe σ vs ∧ tt σ2 H2 fun b H3 =>
    if b = true then te σ2 H3 fun y H4 => ∃ ts z, y = .str z ∧ H4 D = some (SetX w D ts) ∧ ts.length < 1000 ∧ Nx (upd H4 D (SetX w D (put z ts))) else Nx H3)
section
variable {X : Cx} {elt tg iter : Expr} {ifs : List Expr} {scope : Scope} {own : List (Str × Nat)} {pos : Pos} {wi : TI} {g : TG} {tt : TT} {te : TE}
theorem pe_sc (hc : X.calm = true) (hN : X.N.Nodup) (hi : PI X tg iter wi) (ok : BlkOk X.N X.env.scope scope own)
    (hg : ∀ (s : Shared) (H : Hp) (C : Addr) (cl : List (Str × Addr)) (fp : List Addr), PG (X.blk s H scope (compEnvC scope cl C X.env) fp) tg g)
    (ht : ∀ (s : Shared) (H : Hp) (C : Addr) (cl : List (Str × Addr)) (fp : List Addr), PTs (X.blk s H scope (compEnvC scope cl C X.env) fp) ifs tt)
    (he : ∀ (s : Shared) (H : Hp) (C : Addr) (cl : List (Str × Addr)) (fp : List Addr), PE (X.blk s H scope (compEnvC scope cl C X.env) fp) elt te)
    (hs : ∀ x, foldedSetIterable iter X.env x = pure x := by intro _; rfl) :
    PE X (.SetComp elt [⟨tg, iter, ifs, 0⟩] scope pos) (tSc X.w wi g tt te (own.map (·.2))) where
  run pins s σ H Q I h := by
    rw [arm_eval_SetComp]
    have cells : ∀ y ∈ scope.names, y.2 = .free → ∃ c, X.env.cells.lookup y.1 = some c := fun y hy e => (ok.free y hy e).elim (fun k => I.ok.has _ (.inl k)) fun k => I.ok.has _ (.inr k)
    refine wpAny_comprehension_free (use := none) rfl hs (closure_ok cells) ok.kind (fun y hy e => by rw [ok.uniq y hy, e]) (thn (hi.run pins s σ H _ I h) fun xv s1 hx => thn hx fun itv s2 h2 => ?_)
    obtain ⟨it, fp, tn, J, H2, rfl, I2, T, st2, f2, q⟩ := h2
    refine wpAny_newSet_raw fun led hled => newEnv_comp ?_
    subst hled
    obtain ⟨D, hD⟩ : ∃ D, D = s2.heap.objs.size := ⟨_, rfl⟩
    obtain ⟨W, ⟨m0, w0⟩, turn⟩ := q D (I2.hok.fresh (Nat.le_of_eq hD.symm))
    obtain ⟨h3, e3⟩ : ∃ h3, h3 = s2.heap.push { cls := .type "set", dict := none, data := .set #[] 0 (.fresh 0 0 (!X.w.params.followText "set-order")) } := ⟨_, rfl⟩
    have new : SetT X.w h3 D [] := by
      rw [e3, hD]
      exact setT_empty X.w s2.heap
    have I3 : Inv X pins σ (upd H2 D (SetX X.w D [])) { s2 with heap := h3 } := I2.laid (t' := s2.toks) (fun b o e => by rw [e3]; exact Heap.get?_push_of_some _ e) (Nat.le_of_eq hD.symm) (setX_ok new)
    have f3 : ∀ b ∈ fp, FpOk X pins (upd H2 D (SetX X.w D [])) b ∧ b < h3.objs.size := fun b hb => by
      obtain ⟨o, e, _⟩ := T.obj _ _ st2 b hb
      have lt := Heap.lt_size e
      refine ⟨⟨(upd_ne (by rw [hD]; exact Nat.ne_of_lt lt)).trans (f2 b hb).1, (f2 b hb).2⟩, ?_⟩
      rw [e3, Heap.size_push]
      exact Nat.lt_succ_of_lt lt
    have st3 : tn 0 h3 := T.keep _ _ _ st2 fun b _ o e => by rw [e3]; exact Heap.get?_push_of_some _ e
    show codeAny _ _ (.compStart _ 0 (.ref it) (.ref s2.heap.objs.size) _) (compPost _ _ _ _ _ (.ref s2.heap.objs.size) _) _
    rw [← hD, ← e3]
    show codeAny _ _ (.compStart _ 0 (.ref it) (.ref D) (compEnvC scope (cellsFrom (h3.objs.size + 1) scope.names (cloFrom X.env.cells scope.names [])) h3.objs.size X.env))
      (compPost _ _ _ _ _ (.ref D) h3.objs.size) { s2 with heap := pushCells (h3.push { cls := .type "dict", data := .dict #[] }) scope.names }
    have I4 := block_start I3 ok hN f3
    have pg := hg { s2 with heap := h3 } (upd H2 D (SetX X.w D [])) h3.objs.size (cellsFrom (h3.objs.size + 1) scope.names (cloFrom X.env.cells scope.names [])) fp
    have pt := ht { s2 with heap := h3 } (upd H2 D (SetX X.w D [])) h3.objs.size (cellsFrom (h3.objs.size + 1) scope.names (cloFrom X.env.cells scope.names [])) fp
    have pe := he { s2 with heap := h3 } (upd H2 D (SetX X.w D [])) h3.objs.size (cellsFrom (h3.objs.size + 1) scope.names (cloFrom X.env.cells scope.names [])) fp
    have nfp : ∀ b ∈ fp, (upd H2 D (SetX X.w D [])) b = none := fun b hb => (f3 b hb).1.1
    generalize hce : compEnvC scope (cellsFrom (h3.objs.size + 1) scope.names (cloFrom X.env.cells scope.names [])) h3.objs.size X.env = ce at I4 pg pt pe ⊢
    have cL : ce.locals = h3.objs.size := by rw [← hce]; rfl
    obtain ⟨H3, hH3⟩ : ∃ H3, H3 = upd H2 D (SetX X.w D []) := ⟨_, rfl⟩
    rw [← hH3] at I3 I4 pg pt pe w0 nfp f3
    obtain ⟨S3, hS3⟩ : ∃ S3 : Shared, S3 = { s2 with heap := h3 } := ⟨_, rfl⟩
    have sz3 : S3.heap = h3 := by rw [hS3]
    rw [← hS3] at I3 pg pt pe
    replace I4 : Inv (X.blk S3 H3 scope ce fp) [] (wipe σ (own.map (·.2))) H3 { s2 with heap := pushCells (h3.push { cls := .type "dict", data := .dict #[] }) scope.names } := by
      rw [hS3]
      exact I4
    -- the places of the iterator are free in the block
    have free : ∀ {τ : L2.St} {H' : Hp} {s' : Shared}, Inv (X.blk S3 H3 scope ce fp) [] τ H' s' → (∀ b ∈ fp, H' b = none) → ∀ b ∈ fp, FpOk (X.blk S3 H3 scope ce fp) [] H' b := fun I' n b hb =>
      ⟨n b hb, (I'.ok.exf b hb).1, I'.ok.exfs b hb, .inl hb, fun x c e => (I'.ok.exf b hb).2 x c e, fun p hp => by cases hp⟩
    have st4 : tn 0 (pushCells (h3.push { cls := .type "dict", data := .dict #[] }) scope.names) := T.keep _ _ _ st3 fun b _ o e => pushCells_keeps _ _ _ _ (Heap.get?_push_of_some _ e)
    have loop : codeAny (model X.prog X.w) X.A (.compLoop (.SetComp elt [⟨tg, iter, ifs, 0⟩] scope pos) 0 (.ref it) (.ref D) ce) (compPost (model X.prog X.w) X.A X.xe none (EP X pins σ Q) (.ref D) h3.objs.size)
        { s2 with heap := pushCells (h3.push { cls := .type "dict", data := .dict #[] }) scope.names } := by
      refine compLoop_set_any (fun n s' => ∃ i H', Inv (X.blk S3 H3 scope ce fp) [] (wipe σ (own.map (·.2))) H' s' ∧ tn i s'.heap ∧ (∀ b ∈ fp, H' b = none) ∧ W i n H') ?_ m0 ⟨0, H3, I4, st4, nfp, w0⟩
      rintro n s5 ⟨i, H5, I5, st5, n5, w5⟩
      rcases turn i n H5 w5 with ⟨stop, qq⟩ | ⟨go, Nx, hNx, step⟩
      · refine thnF (T.done (X.blk S3 H3 scope ce fp) rfl rfl rfl hc i [] s5 _ H5 (fun _ _ => False) I5 (free I5 n5) st5 stop) fun r s6 ⟨hr, I6⟩ => ?_
        subst hr
        have I7 : Inv X pins σ H5 s6 := I3.call' (ch := fp) I6.os I6.base I6.hok I6.bare fun b hb => ⟨(f3 b hb).1.2.2.2.1, (f3 b hb).1.2.1, (f3 b hb).1.2.2.2.2.1, (f3 b hb).1.2.2.2.2.2⟩
        have nC : H5 h3.objs.size = none := by
          rw [← cL]
          exact I6.free
        obtain ⟨m, hn, _⟩ := I6.loc
        have hn : s6.heap.Ns ce.locals m := hn
        rw [cL] at hn
        have fp7 : FpOk X pins H5 h3.objs.size := I3.fpOk (Nat.le_of_eq (by rw [sz3])) nC
        obtain ⟨a0, a1, _, a3, a4, a5⟩ := fp7
        exact ⟨m, hn, fun h'' sb => ⟨.ref D, H5, I7.turned (t' := s6.toks) (fun b o hb e => (sb.2 b hb).trans e) a0 a1 a3 a4 a5, rfl, qq⟩⟩
      · refine thnF (T.item (X.blk S3 H3 scope ce fp) rfl rfl rfl hc i [] s5 _ H5 (fun _ _ => False) I5 (free I5 n5) st5 go) fun r s6 ⟨u, hr, h6⟩ => ?_
        subst hr
        refine thnF h6 fun _ s7 ⟨x, H7, I7, r7, y7, st7, n7⟩ => ?_
        have J7 := I7.pinned (free I7 n7) (T.obj _ _ st7)
        refine thnF (pg.run _ s7 _ H7 x u _ J7 r7 (step x H7 y7)) fun _ s8 ⟨σ8, H8, I8, hw8, q8⟩ => thnF (pt.run _ s8 σ8 H8 _ I8 q8) fun b s9 ⟨H9, I9, q9⟩ => ?_
        have back : ∀ {s' : Shared} {H' : Hp}, Inv (X.blk S3 H3 scope ce fp) ([] ++ pinsAt fp s7.heap) σ8 H' s' → Nx H' → ∃ m, m < n ∧ ∃ i H', Inv (X.blk S3 H3 scope ce fp) [] (wipe σ (own.map (·.2))) H' s' ∧ tn i s'.heap ∧ (∀ b ∈ fp, H' b = none) ∧ W i m H' := fun {s' H'} I' nx => by
          obtain ⟨m', hm, w'⟩ := hNx H' nx
          have held {b : Addr} {o : Obj} (hb : b ∈ fp) (e : s7.heap.get? b = some o) : s'.heap.get? b = some o ∧ H' b = none :=
            have z := I'.pin (b, o) (List.mem_append_right _ (List.mem_append_right _ (mem_pinsAt hb e)))
            ⟨z.1, z.2.1⟩
          refine ⟨m', hm, i + 1, H', (I'.unpinned (pins := [])).weak (by rw [← hw8, wipe_length]) (fun j v e => ?_), T.keep _ _ _ st7 fun b hb o e => (held hb e).1, fun b hb => ?_, w'⟩
          · rw [← hw8] at e
            exact (wipe_some e).1
          · obtain ⟨o, e, _⟩ := T.obj _ _ st7 b hb
            exact (held hb e).2
        cases b with
        | false =>
          simp only [Bool.false_eq_true, if_false] at q9 ⊢
          exact back I9 q9
        | true =>
          simp only [if_true] at q9 ⊢
          refine thnF (pe.run _ s9 σ8 H9 _ I9 q9) fun z s10 ⟨y, H10, I10, r10, ts, x, ey, hD10, hz10, nx⟩ => ?_
          subst ey
          exact add_run (X := X.blk S3 H3 scope ce fp) I10 hD10 hz10 r10 fun s12 I12 => back I12 nx
    exact codeAny_compStart_set loop (T.self X.A 0 _ _ _ st4 loop)
end
end Eh
set_option Elab.async false
set_option linter.all false
set_option maxRecDepth 100000
set_option maxHeartbeats 2000000
namespace Eh
open PySem PySem.Spec PyProof.Rows L2
section
variable {P : Program} {w : World} {A : Around} {E : Value → Shared → Prop} {s : Shared} {a : Addr} {ts : List Str}
theorem strs_txt : ∀ (l : List Value), (∀ v ∈ l, ∃ x tk, v = Value.str x tk) → StrsAre l (l.map fun v => txtOf (0, v))
  | [], _ => .nil
  | v :: l, h => by
    obtain ⟨x, tk, rfl⟩ := h v List.mem_cons_self
    exact .cons x tk (strs_txt l fun u hu => h u (List.mem_cons_of_mem _ hu))
theorem setT_sorted {Q : Value → Shared → Prop} (R : SetT w s.heap a ts) (hh : A.handled = none) (h64 : ts.length < 64)
    (k : ∀ s' p (out : Array Value) (c : Nat) (ys : List Str), (∀ b o, s.heap.get? b = some o → s'.heap.get? b = some o) → s'.gens = s.gens → s'.os = s.os → s.heap.objs.size ≤ p →
      s'.heap.get? p = some (seqObj "list" out c) → StrsAre out.toList ys → ys.Perm ts → sortedS ys = true → Q (.ref p) s') : wpAny (model P w) A (call (.builtin "sorted") [.ref a]) Q E s := by
  obtain ⟨nd, o, es, ep, t, ho, hx, hd, b⟩ := R
  refine Calls.call_function_entry kind_sorted plain_sorted entry_sorted (args_sorted1 _) ?_
  unfold Builtin.«sorted»
  refine wpAny_bind (m := checkCount "sorted" 1 1 _) (wpAny_pure (wpAny_bind (collect_set (A := A.in1) hh ⟨o, ho, hx.1, hd⟩ b.fits b.room b.ris b.led fun s1 vs k1 hz g1 o1 pm => ?_)))
  have hvl : vs.length = ts.length := by rw [pm.length_eq, List.length_map, Array.length_toList, b.size]
  have hS := strs_txt vs fun v hv => by
    obtain ⟨e, he, q⟩ := List.mem_map.mp (pm.mem_iff.mp hv)
    obtain ⟨x, tk, h1, _⟩ := b.good e he
    exact ⟨x, tk, by rw [← q]; exact h1⟩
  have pk : (vs.map fun v => txtOf (0, v)).Perm ts := by
    have q := pm.map fun v => txtOf (0, v)
    rw [List.map_map] at q
    exact q.trans b.perm
  refine wpAny_bind (wpAny_newList ?_ (by rw [hvl, sizeLine_eq]; omega))
  have hoL : (s1.heap.push (seqObj "list" vs.toArray 0)).get? s1.heap.objs.size = some (seqObj "list" vs.toArray 0) := Heap.get?_push_size _ rfl
  refine wpAny_bind (wpAny_holding (wpAny_call_entry slot_list_sort ⟨_, hoL, rfl⟩ entry_list_sort (list_sort_treeK strKind_oneLt hoL hS.keysOf (fun v₁ v₂ rest e => keyKind_strs (by rw [← e]; exact hS)) (by rw [hvl]; exact h64) fun st' hp hs => ⟨_, rfl, ?_⟩) (args_list_sort _)))
  obtain ⟨ys, y1, y2, y3⟩ := sorted_out_str hS hp hs
  obtain ⟨c, hc⟩ := sortedHeap_at (vs := vs) (out := (arrOf st').map (·.2)) hoL
  refine wpAny_pure ⟨_, rfl, k _ s1.heap.objs.size _ c ys (fun d u e => ?_) g1 o1 hz hc y1 (y2.trans pk) y3⟩
  have q := k1 d u e
  have hlt := Heap.lt_size q
  show (sortedHeap (s1.heap.push (seqObj "list" vs.toArray 0)) s1.heap.objs.size vs _).get? d = some u
  rw [sortedHeap_old (Nat.ne_of_lt hlt) (by rw [size_push']; exact Nat.lt_succ_of_lt hlt)]
  exact Heap.get?_push_of_some _ q
end
section
variable {X : Cx}
def rSortX (w : World) : List V → Hp → VK → Prop := fun vs H Q => ∃ (a : Addr) (ts : List Str), vs = [.ref a] ∧ H a = some (SetX w a ts) ∧ ts.Nodup ∧ ts.length < 64 ∧ ∀ (ys : List Str) p, ys.Perm ts → sortedS ys = true → H p = none → Q (.ref p) (upd H p (.lst (ys.map V.str)))
theorem sortX (hc : X.calm = true) : CallR X (.builtin "sorted") (rSortX X.w) := by
  intro pins s σ H vs us Q I r h
  obtain ⟨a, ts, rfl, ha, nd, h64, q⟩ := h
  rw [Vals.ref1 r]
  refine setT_sorted (setX_get I ha) (I.ok.hd hc) h64 fun s' p out c ys k g o hp hg hs h1 h2 => ?_
  have hlen : (ys.map V.str).length ≤ sizeLine := by rw [List.length_map, h1.length_eq, sizeLine_eq]; omega
  have hn : H p = none := I.hok.fresh hp
  obtain ⟨h', g', d', t', o'⟩ := s'
  obtain rfl : o' = s.os := o
  have J : Inv X pins σ (upd H p (.lst (ys.map V.str))) { s with heap := h', gens := g', drawn := d', toks := t' } :=
    I.call (ch := []) (Un.laid k hp hn) (I.hok.laid k hp ⟨hlen, out.toList, c, vals_of_strs hs, hg⟩) (by rw [show g' = s.gens from g]; exact I.bare) (fun _ z => nomatch z)
  exact ⟨.ref p, _, J, rfl, q ys p h1 h2 hn⟩
end
section
variable {te : TE} {tt : TT} {g : TG} {σ : L2.St} {H1 : Hp} {D : Addr} {Qd : Hp → Prop} {vs : List Nat} {K : PySem.W.Frag} {a : Addr} {xs : List V}
theorem lcTg (R : Nat → List V → Hp → Prop) (h0 : R 0 [] (upd H1 D (.lst []))) (hl : ∀ j acc H, R j acc H → SqT K H a xs)
    (hs : ∀ j x acc H, xs[j]? = some x → acc.length ≤ j → H D = some (.lst acc) → R j acc H →
      g x (wipe σ vs) H fun σ2 H2 => wipe σ2 vs = wipe σ vs ∧ tt σ2 H2 fun b H3 => if b = true then te σ2 H3 (LcK R D j) else LcP R D (j + 1) H3)
    (hd : ∀ acc H, acc.length ≤ xs.length → H D = some (.lst acc) → R xs.length acc H → Qd H) : LcGoal (Itt K a) g tt te vs σ H1 D Qd := by
  refine ⟨fun j m H => m = xs.length - j ∧ j ≤ xs.length ∧ LcP R D j H, ⟨xs.length, by omega, Nat.zero_le _, [], Nat.le_refl _, upd_same, h0⟩, ?_⟩
  rintro j m H ⟨rfl, hj, acc, hlen, e, r⟩
  have q := hl _ _ _ r
  by_cases hlt : j < xs.length
  · refine .inr ⟨⟨xs, xs[j], q, List.getElem?_eq_getElem hlt⟩, LcP R D (j + 1), fun H' p => ⟨xs.length - (j + 1), by omega, rfl, hlt, p⟩, fun x H' y => ?_⟩
    obtain ⟨rfl, y⟩ := y
    exact hs j x acc _ (y xs q) hlen e r
  · have ej : j = xs.length := by omega
    subst ej
    exact .inl ⟨⟨xs, q, Nat.le_refl _⟩, hd acc H hlen e r⟩
def ScP (w : World) (R : Nat → List Str → Hp → Prop) (D : Addr) (j : Nat) (H : Hp) : Prop := ∃ ts, ts.length ≤ j ∧ H D = some (SetX w D ts) ∧ R j ts H
def ScK (w : World) (R : Nat → List Str → Hp → Prop) (D : Addr) (j : Nat) : VK := fun y H4 => ∃ ts z, y = .str z ∧ H4 D = some (SetX w D ts) ∧ ts.length < 1000 ∧ ScP w R D (j + 1) (upd H4 D (SetX w D (put z ts)))
theorem put_len (z : Str) (ts : List Str) : (put z ts).length ≤ ts.length + 1 := by
  unfold put
  split
  · omega
  · simp
theorem ScK.mk {w : World} {R : Nat → List Str → Hp → Prop} {j : Nat} {ts : List Str} {z : Str} {H : Hp} (hl : ts.length ≤ j) (hj : j < 1000) (e : H D = some (SetX w D ts)) (r : R (j + 1) (put z ts) (upd H D (SetX w D (put z ts)))) : ScK w R D j (.str z) H :=
  ⟨ts, z, rfl, e, by omega, put z ts, Nat.le_trans (put_len z ts) (by omega), upd_same, r⟩
theorem scTg {w : World} (R : Nat → List Str → Hp → Prop) (h0 : R 0 [] (upd H1 D (SetX w D []))) (hl : ∀ j acc H, R j acc H → SqT K H a xs)
    (hs : ∀ j x ts H, xs[j]? = some x → ts.length ≤ j → H D = some (SetX w D ts) → R j ts H →
      g x (wipe σ vs) H fun σ2 H2 => wipe σ2 vs = wipe σ vs ∧ tt σ2 H2 fun b H3 => if b = true then te σ2 H3 (ScK w R D j) else ScP w R D (j + 1) H3)
    (hd : ∀ ts H, ts.length ≤ xs.length → H D = some (SetX w D ts) → R xs.length ts H → Qd H) :
    ∃ W : Nat → Nat → Hp → Prop, (∃ m, W 0 m (upd H1 D (SetX w D []))) ∧ ∀ i m H, W i m H →
      ((Itt K a).stop i H ∧ Qd H) ∨ ((Itt K a).go i H ∧ ∃ Nx : Hp → Prop, (∀ H', Nx H' → ∃ m', m' < m ∧ W (i + 1) m' H') ∧ ∀ x H', (Itt K a).yld i H x H' → g x (wipe σ vs) H' fun σ2 H2 => wipe σ2 vs = wipe σ vs ∧ tt σ2 H2 fun b H3 =>
        if b = true then te σ2 H3 fun y H4 => ∃ ts z, y = .str z ∧ H4 D = some (SetX w D ts) ∧ ts.length < 1000 ∧ Nx (upd H4 D (SetX w D (put z ts))) else Nx H3) := by
  refine ⟨fun j m H => m = xs.length - j ∧ j ≤ xs.length ∧ ScP w R D j H, ⟨xs.length, by omega, Nat.zero_le _, [], Nat.le_refl _, upd_same, h0⟩, ?_⟩
  rintro j m H ⟨rfl, hj, ts, hlen, e, r⟩
  have q := hl _ _ _ r
  by_cases hlt : j < xs.length
  · refine .inr ⟨⟨xs, xs[j], q, List.getElem?_eq_getElem hlt⟩, ScP w R D (j + 1), fun H' p => ⟨xs.length - (j + 1), by omega, rfl, hlt, p⟩, fun x H' y => ?_⟩
    obtain ⟨rfl, y⟩ := y
    exact hs j x ts _ (y xs q) hlen e r
  · have ej : j = xs.length := by omega
    subst ej
    exact .inl ⟨⟨xs, q, Nat.le_refl _⟩, hd ts H hlen e r⟩
end
end Eh
set_option Elab.async false
set_option linter.all false
set_option maxRecDepth 100000
namespace Eh
open PySem PySem.Spec PyProof.Rows L2
inductive Pl
  | leaf (k : Str) (t : V)
  | node (k : Str) (ps : List Pl)
mutual
def nodesOf : Pl → List (Str × V)
  | .leaf k t => [(k, t)]
  | .node k ps => (k, .int (ps.length : Int)) :: nodesAll ps
def nodesAll : List Pl → List (Str × V)
  | [] => []
  | p :: ps => nodesOf p ++ nodesAll ps
end
def leafOk (k : Str) (t : V) : Bool := match t with
  | .str _ => k == "fact" || k == "not"
  | .int i => (k == "yes" || k == "no") && decide (i = 0)
  | _ => false
def nodeKinds : List Str := ["all", "some", "mine", "yours"]
def nodeOk (k : Str) : Bool := nodeKinds.contains k
mutual
inductive At (K : PySem.W.Frag) (H : Hp) : V → Pl → Prop
  | leaf {a : Addr} {k : Str} {t : V} : SqT K H a [.str k, t] → leafOk k t = true → At K H (.ref a) (.leaf k t)
  | node {a b : Addr} {k : Str} {vs : List V} {ps : List Pl} : SqT K H a [.str k, .ref b] → SqT K H b vs → nodeOk k = true → 2 ≤ ps.length → ps.length ≤ 4 → AtAll K H vs ps → At K H (.ref a) (.node k ps)
inductive AtAll (K : PySem.W.Frag) (H : Hp) : List V → List Pl → Prop
  | nil : AtAll K H [] []
  | cons {v : V} {vs : List V} {p : Pl} {ps : List Pl} : At K H v p → AtAll K H vs ps → AtAll K H (v :: vs) (p :: ps)
end
/-- the tuples stay -/
def Tk (H H' : Hp) : Prop := ∀ a xs, Rd H a (.tup xs) → Rd H' a (.tup xs)
theorem Tk.refl {H : Hp} : Tk H H := fun _ _ h => h
theorem Tk.trans {H H1 H2 : Hp} (a : Tk H H1) (b : Tk H1 H2) : Tk H H2 := fun p xs h => b p xs (a p xs h)
theorem Tk.seq {K : PySem.W.Frag} {H H' : Hp} {a : Addr} {xs : List V} (t : Tk H H') (h : SqT K H a xs) : SqT K H' a xs := h.imp (t a xs) id
theorem stk {H H' : Hp} (s : Same H H') : Tk H H' := fun a xs h => h.imp (s a _) fun ⟨o, e⟩ => ⟨o, s a _ e⟩
theorem Gr.tk {d : Addr} {H H' : Hp} (g : Gr d H H') (D : D3 H d) : Tk H H' := fun a xs h => by
  obtain ⟨x, b, c, e⟩ := D
  rcases h with h | ⟨o, h⟩
  · exact .inl (g.keep a _ (fun z => by rw [z, e] at h; cases h) h)
  · exact .inr ⟨o, g.keep a _ (fun z => by rw [z, e] at h; cases h) h⟩
theorem Tk.new {H : Hp} {l : Addr} {o : HO} (n : H l = none) : Tk H (upd H l o) := stk (same_new n)
theorem Tk.put {H : Hp} {l : Addr} {xs ys : List V} (e : H l = some (.lst xs)) : Tk H (upd H l (.lst ys)) := fun a zs h => by
  have n : a ≠ l := fun z => by
    rw [z] at h
    rcases h with h | ⟨o, h⟩
    · rw [e] at h; cases h
    · rw [e] at h; cases h
  rcases h with h | ⟨o, h⟩
  · exact .inl (by rw [upd_ne n]; exact h)
  · exact .inr ⟨o, by rw [upd_ne n]; exact h⟩
mutual
theorem At.tk {K : PySem.W.Frag} {H H' : Hp} (t : Tk H H') : ∀ {v : V} {p : Pl}, At K H v p → At K H' v p
  | _, _, .leaf h o => .leaf (t.seq h) o
  | _, _, .node h1 h2 o a b r => .node (t.seq h1) (t.seq h2) o a b (AtAll.tk t r)
theorem AtAll.tk {K : PySem.W.Frag} {H H' : Hp} (t : Tk H H') : ∀ {vs : List V} {ps : List Pl}, AtAll K H vs ps → AtAll K H' vs ps
  | _, _, .nil => .nil
  | _, _, .cons h r => .cons (At.tk t h) (AtAll.tk t r)
end
theorem AtAll.length {K : PySem.W.Frag} {H : Hp} : ∀ {vs : List V} {ps : List Pl}, AtAll K H vs ps → vs.length = ps.length
  | _, _, .nil => rfl
  | _, _, .cons _ r => by rw [List.length_cons, List.length_cons, r.length]
theorem AtAll.get {K : PySem.W.Frag} {H : Hp} : ∀ {vs : List V} {ps : List Pl}, AtAll K H vs ps → ∀ {i : Nat} {v : V}, vs[i]? = some v → ∃ p, ps[i]? = some p ∧ At K H v p
  | _, _, .nil, i, v, h => by simp at h
  | _, _, .cons (v := x) (p := p) hp r, 0, v, h => by
    cases (show some x = some v from h)
    exact ⟨p, rfl, hp⟩
  | _, _, .cons hp r, i + 1, v, h => r.get (i := i) h
theorem AtAll.snoc {K : PySem.W.Frag} {H : Hp} : ∀ {vs : List V} {ps : List Pl} {v : V} {p : Pl}, AtAll K H vs ps → At K H v p → AtAll K H (vs ++ [v]) (ps ++ [p])
  | _, _, _, _, .nil, h => .cons h .nil
  | _, _, _, _, .cons h r, h' => .cons h (r.snoc h')
theorem nodesAll_append : ∀ (ps qs : List Pl), nodesAll (ps ++ qs) = nodesAll ps ++ nodesAll qs
  | [], qs => by rw [List.nil_append, nodesAll, List.nil_append]
  | p :: ps, qs => by rw [List.cons_append, nodesAll, nodesAll, nodesAll_append ps qs, List.append_assoc]
theorem nodesOf_pos (p : Pl) : 0 < (nodesOf p).length := by
  cases p with
  | leaf k t => rw [nodesOf]; exact Nat.one_pos
  | node k ps => rw [nodesOf]; exact Nat.succ_pos _
theorem nodesOf_get : ∀ {ps : List Pl} {i : Nat} {p : Pl}, ps[i]? = some p → (nodesOf p).length ≤ (nodesAll ps).length
  | [], _, _, h => by simp at h
  | q :: ps, 0, p, h => by
    cases (show some q = some p from h)
    rw [nodesAll, List.length_append]
    omega
  | q :: ps, i + 1, p, h => by
    have := nodesOf_get (ps := ps) (i := i) h
    rw [nodesAll, List.length_append]
    omega
theorem nodesAll_take : ∀ {ps : List Pl} {i : Nat} {p : Pl}, ps[i]? = some p → nodesAll (ps.take (i + 1)) = nodesAll (ps.take i) ++ nodesOf p
  | [], _, _, h => by simp at h
  | q :: ps, 0, p, h => by
    cases (show some q = some p from h)
    show nodesAll [q] = nodesAll [] ++ nodesOf q
    show nodesOf q ++ nodesAll [] = [] ++ nodesOf q
    rw [show nodesAll [] = [] from by rw [nodesAll], List.append_nil, List.nil_append]
  | q :: ps, i + 1, p, h => by
    show nodesAll (q :: ps.take (i + 1)) = nodesAll (q :: ps.take i) ++ nodesOf p
    rw [nodesAll, nodesAll, nodesAll_take (ps := ps) (i := i) h, List.append_assoc]
/-- nodes as they stand: pairs -/
inductive NdsAt (K : PySem.W.Frag) (H : Hp) : List V → List (Str × V) → Prop
  | nil : NdsAt K H [] []
  | cons {a : Addr} {k : Str} {t : V} {vs : List V} {ns : List (Str × V)} : SqT K H a [.str k, t] → NdsAt K H vs ns → NdsAt K H (.ref a :: vs) ((k, t) :: ns)
theorem NdsAt.tk {K : PySem.W.Frag} {H H' : Hp} (t : Tk H H') : ∀ {vs : List V} {ns : List (Str × V)}, NdsAt K H vs ns → NdsAt K H' vs ns
  | _, _, .nil => .nil
  | _, _, .cons h r => .cons (t.seq h) (r.tk t)
theorem NdsAt.length {K : PySem.W.Frag} {H : Hp} : ∀ {vs : List V} {ns : List (Str × V)}, NdsAt K H vs ns → vs.length = ns.length
  | _, _, .nil => rfl
  | _, _, .cons _ r => by rw [List.length_cons, List.length_cons, r.length]
theorem NdsAt.app {K : PySem.W.Frag} {H : Hp} : ∀ {vs us : List V} {ns ms : List (Str × V)}, NdsAt K H vs ns → NdsAt K H us ms → NdsAt K H (vs ++ us) (ns ++ ms)
  | _, _, _, _, .nil, h => h
  | _, _, _, _, .cons h r, h' => .cons h (r.app h')
theorem NdsAt.get {K : PySem.W.Frag} {H : Hp} : ∀ {vs : List V} {ns : List (Str × V)}, NdsAt K H vs ns → ∀ {i : Nat} {v : V}, vs[i]? = some v → ∃ a k t, v = .ref a ∧ ns[i]? = some (k, t) ∧ SqT K H a [.str k, t]
  | _, _, .nil, i, v, h => by simp at h
  | _, _, .cons (a := a) (k := k) (t := t) hp r, 0, v, h => by
    cases (show some (V.ref a) = some v from h)
    exact ⟨a, k, t, rfl, rfl, hp⟩
  | _, _, .cons hp r, i + 1, v, h => r.get (i := i) h
def isLeaf : Pl → Bool
  | .leaf _ _ => true
  | .node _ _ => false
def leafKinds : List Str := ["fact", "not", "yes", "no"]
theorem leaf_kind {k : Str} {t : V} (h : leafOk k t = true) : leafKinds.contains k = true := by
  unfold leafOk at h
  cases t with
  | str z =>
    rcases (Bool.or_eq_true _ _).mp h with h | h
    · rw [eq_of_beq h]; decide +kernel
    · rw [eq_of_beq h]; decide +kernel
  | int i =>
    rcases (Bool.or_eq_true _ _).mp ((Bool.and_eq_true _ _).mp h).1 with h | h
    · rw [eq_of_beq h]; decide +kernel
    · rw [eq_of_beq h]; decide +kernel
  | _ => cases h
theorem node_cases {k : Str} (h : nodeOk k = true) : k = "all" ∨ k = "some" ∨ k = "mine" ∨ k = "yours" := by
  unfold nodeOk nodeKinds at h
  rw [List.contains_iff_mem] at h
  simpa only [List.mem_cons, List.not_mem_nil, or_false] using h
theorem node_kind {k : Str} (h : nodeOk k = true) : leafKinds.contains k = false := by
  rcases node_cases h with rfl | rfl | rfl | rfl <;> decide +kernel
theorem inV_strs (k : Str) (ws : List Str) : inV (.str k) (ws.map V.str) = ws.contains k := by
  unfold inV
  rw [List.any_map, List.contains_eq_any_beq]
  congr 1
  funext z
  show (z == k) = (k == z)
  rw [Bool.eq_iff_iff, beq_iff_eq, beq_iff_eq]
  exact eq_comm
section
variable {P : Program} {w : World} {K : PySem.W.Frag} {mg : Str → Option Value} {base : Heap}
def spIsLeaf (K : PySem.W.Frag) : Sp := fun vs H Q _ => ∃ v pl, vs = [v] ∧ At K H v pl ∧ ∀ H', Same H H' → Q (.bl (isLeaf pl)) H'
theorem ok_is_leaf {f : Addr} {fd : FuncData} (F : Fun K "_law_is_leaf" "_law_is_leaf" s__law_is_leaf f fd) (T : Txt mg) : FnOk P w K mg base CX0 1 f fd ["plain"] (spIsLeaf K) := by
  refine F.ok sc__law_is_leaf (fun vs H Q E h => ?_) (fun cdv A outer s H vs Q E hr h => ?_)
  · obtain ⟨v, pl, rfl, _⟩ := h
    rfl
  · obtain ⟨v, pl, rfl, hA, q⟩ := h
    refine ⟨_, (pss_one (ps_ret (pe_cmpR (inQ (K := K) rfl) (pe_ix (ixT (K := K) rfl) (pv 0) pe_int (fun _ _ => rfl)) (pe_lst (pa_cons pe_str (pa_cons pe_str (pa_cons pe_str (pa_cons pe_str pa_nil))))) (by rfl)))), ?_⟩
    obtain ⟨a, k, t, rfl, hk, hb⟩ : ∃ a k t, v = .ref a ∧ SqT K H a [.str k, t] ∧ leafKinds.contains k = isLeaf pl := by
      cases hA with
      | leaf h o => exact ⟨_, _, _, rfl, h, leaf_kind o⟩
      | node h1 _ o _ _ _ => exact ⟨_, _, _, rfl, h1, node_kind o⟩
    refine ⟨_, rfl, a, _, 0, .str k, rfl, rfl, hk, rfl, lenOk 4, fun p np => ?_⟩
    refine ⟨p, leafKinds.map V.str, rfl, .inl (SqL.of upd_same), rfl, flat_strs _, ?_⟩
    rw [inV_strs, hb]
    exact q _ (same_new np)
def spNodes (K : PySem.W.Frag) (n : Nat) : Sp := fun vs H Q _ => ∃ v pl, vs = [v] ∧ At K H v pl ∧ (nodesOf pl).length ≤ n ∧ n < 1000 ∧ ∀ xs p H', Same H H' → H p = none → H' p = some (.lst xs) → NdsAt K H' xs (nodesOf pl) → Q (.ref p) H'
theorem ok_nodes {f fL : Addr} {fd fdL : FuncData} (F : Fun K "_law_nodes" "_law_nodes" s__law_nodes f fd) (T : Txt mg) (C__law_is_leaf : Cal P w K mg base 1 "_law_is_leaf" fL fdL ["plain"] (spIsLeaf K))
    (m : mg "_law_nodes" = some (.ref f)) (kp : PySem.W.keepIn K (.ref f) = true) (b : Binds K fd ["plain"] []) : ∀ n : Nat, FnOk P w K mg base CX0 (n + 1) f fd ["plain"] (spNodes K n)
  | 0 => F.ok sc__law_nodes (fun vs H Q E h => by
      obtain ⟨v, pl, rfl, _⟩ := h
      rfl) (fun cdv A outer s H vs Q E hr h => by
      obtain ⟨v, pl, rfl, _, h0, _⟩ := h
      have := nodesOf_pos pl
      omega)
  | n + 1 => by
    have G := ok_nodes F T C__law_is_leaf m kp b n
    refine F.ok sc__law_nodes (fun vs H Q E h => ?_) (fun cdv A outer s H vs Q E hr h => ?_)
    · obtain ⟨v, pl, rfl, _⟩ := h
      rfl
    · obtain ⟨v, pl, rfl, hA, hn, hn1, q⟩ := h
      have hr1 := hr.mono (j := 1) (by omega)
      refine ⟨_, (pss_cons (ps_if (pt_val (pe_call C__law_is_leaf.G hr1 (by rfl) C__law_is_leaf.m C__law_is_leaf.k C__law_is_leaf.b .nil pass0 (pa_cons (pv 0) pa_nil)))
  (pss_one (ps_ret (pe_lst (pa_cons (pv 0) pa_nil))))
  pss_nil)
  (pss_cons (ps_set (i := 1) sc__law_nodes.nd rfl (.inl rfl) (pe_lst (pa_cons (pe_tup (pa_cons (pe_ix (ixT (K := K) rfl) (pv 0) pe_int (fun _ _ => rfl)) (pa_cons (pe_callB (lenQ (K := K) rfl) (by rfl) T.len_ (by decide +kernel) (pa_cons (pe_ix (ixT (K := K) rfl) (pv 0) pe_int (fun _ _ => rfl)) pa_nil)) pa_nil))) pa_nil)))
  (pss_cons (ps_for PassesOwn.never (by rfl) (pi_tup (pe_ix (ixT (K := K) rfl) (pv 0) pe_int (fun _ _ => rfl))) (pg_name (i := 2) sc__law_nodes.nd rfl (.inl rfl))
  (pss_one (ps_set (i := 1) sc__law_nodes.nd rfl (.inl rfl) (pe_op op_cat (pv 1) (pe_call G hr (by rfl) m kp b .nil pass0 (pa_cons (pv 2) pa_nil))))))
  (pss_one (ps_ret (pv 1)))))), ?_⟩
      refine ⟨_, rfl, v, pl, rfl, hA, fun H1 s1 => ?_⟩
      refine ⟨_, rfl, ?_⟩
      cases hA with
      | leaf h o =>
        rename_i a k t
        refine iteT ?_
        refine ⟨_, rfl, lenOk 1, fun p np => ?_⟩
        have s2 := s1.trans (same_new (o := .lst [V.ref a]) np)
        refine q _ p _ s2 (s1.free np) upd_same ?_
        rw [nodesOf]
        exact .cons ((stk s2).seq h) .nil
      | node h1 h2 o a1 a2 r =>
        rename_i a c k vs ps
        refine iteF ?_
        refine ⟨_, rfl, a, _, 0, .str k, rfl, rfl, (stk s1).seq h1, rfl, _, rfl, a, _, 1, .ref c, rfl, rfl, (stk s1).seq h1, rfl, ?_⟩
        refine .inl ⟨c, vs, rfl, .inr ((stk s1).seq h2), lenOk 2, fun t nt => ⟨lenOk 1, fun l nl => ?_⟩⟩
        have s2 := s1.trans (same_new (o := .tup [.str k, .int (vs.length : Int)]) nt)
        have s3 := s2.trans (same_new (o := .lst [V.ref t]) nl)
        have nlt : l ≠ t := fun e => by rw [e, upd_same] at nl; cases nl
        have nH : H l = none := s2.free nl
        have hlen := r.length
        have hn' : (nodesAll ps).length ≤ n := by
          rw [nodesOf, List.length_cons] at hn
          omega
        refine ⟨_, rfl, a, _, 1, .ref c, rfl, rfl, (stk s3).seq h1, rfl, c, rfl, ⟨vs, (stk s3).seq h2⟩, for_tup (K := K) (a := c) (xs := vs) (fun i σ H2 => ∃ x l xs, σ = [some (.ref a), some (.ref l), x] ∧ Same H H2 ∧ H l = none ∧ H2 l = some (.lst xs) ∧ NdsAt K H2 xs ((k, .int (ps.length : Int)) :: nodesAll (ps.take i))) ?_ (fun i σ H2 _ h => ?_) ?_ ?_⟩
        · refine ⟨none, l, _, rfl, s3, nH, upd_same, ?_⟩
          rw [← hlen]
          have e : (nodesAll (ps.take 0)) = [] := by rw [List.take_zero, nodesAll]
          rw [e]
          exact .cons (SqT.of (by rw [upd_ne nlt.symm]; exact upd_same)) .nil
        · obtain ⟨_, _, _, _, s4, _⟩ := h
          exact (stk s4).seq h2
        · rintro i v2 σ H2 hi ⟨x, l2, xs, rfl, s4, n4, e4, d4⟩
          obtain ⟨p2, hp2, hA2⟩ := r.get hi
          refine ⟨_, rfl, _, rfl, v2, p2, rfl, hA2.tk (stk s4), Nat.le_trans (nodesOf_get hp2) hn', by omega, fun ys p5 H5 s5 n5 e5 d5 => ?_⟩
          have b1 := (d4.tk (stk s5)).length
          have b2 := d5.length
          have b3 := nodesOf_get hp2
          have b4 : (nodesAll (ps.take i)).length ≤ n := by
            have := congrArg List.length (nodesAll_append (ps.take i) (ps.drop i))
            rw [List.take_append_drop, List.length_append] at this
            omega
          rw [List.length_cons] at b1
          refine ⟨l2, p5, xs, ys, rfl, rfl, s5 _ _ e4, e5, Nat.le_of_lt (small (by omega)), fun p6 n6 => ?_⟩
          have s6 := s5.trans (same_new (o := .lst (xs ++ ys)) n6)
          refine ⟨_, p6, _, rfl, s4.trans s6, (s4.trans s5).free n6, upd_same, ?_⟩
          rw [nodesAll_take hp2, ← List.cons_append]
          exact (d4.tk (stk s6)).app (d5.tk (Tk.new n6))
        · rintro σ H2 ⟨x, l2, xs, rfl, s4, n4, e4, d4⟩
          refine ⟨_, rfl, q xs l2 H2 s4 n4 e4 ?_⟩
          rw [nodesOf]
          have e : ps.take vs.length = ps := by rw [hlen]; exact List.take_length
          rw [e] at d4
          exact d4
end
end Eh
set_option Elab.async false
set_option linter.all false
set_option maxRecDepth 100000
namespace Eh
open PySem PySem.Spec PyProof.Rows L2
theorem off_gr {d : Addr} {H H' : Hp} (D : D3 H' d) (k : ∀ b, b ≠ d → H' b = H b) : Gr d H H' := ⟨D, fun a o n e => by rw [k a n]; exact e⟩
theorem same_gr {d : Addr} {H H' : Hp} (D : D3 H d) (s : Same H H') : Gr d H H' := by
  obtain ⟨g, b, c, e⟩ := D
  exact ⟨⟨g, b, c, s _ _ e⟩, fun a o _ z => s a o z⟩
theorem lenS (n : Nat) {m : Nat} (e : m = n := by rfl) (h : n < 1000000 := by decide) : m ≤ sizeLine := by
  rw [e]
  exact Nat.le_of_lt (small h)
theorem iteT' {c : Bool} {A B : Prop} (e : c = true) (h : A) : if c = true then A else B := by
  rw [if_pos e]
  exact h
theorem iteF' {c : Bool} {A B : Prop} (e : c = false) (h : B) : if c = true then A else B := by
  rw [e]
  exact iteF h
/-- how many nodes are of some kinds -/
def countIn (ws : List Str) (ns : List (Str × V)) : Nat := (ns.filter fun n => ws.contains n.1).length
theorem countIn_app (ws : List Str) (a b : List (Str × V)) : countIn ws (a ++ b) = countIn ws a + countIn ws b := by
  unfold countIn
  rw [List.filter_append, List.length_append]
theorem countIn_one (ws : List Str) (k : Str) (u : V) : countIn ws [(k, u)] = if ws.contains k = true then 1 else 0 := by
  unfold countIn
  rw [List.filter_cons]
  show (if ws.contains k = true then _ else _ : List (Str × V)).length = _
  split <;> rfl
theorem take_succ' {α : Type} {l : List α} {j : Nat} {c : α} (h : l[j]? = some c) : l.take (j + 1) = l.take j ++ [c] := by
  rw [List.take_add_one, h]
  rfl
/-- its words are among some -/
def InW (ws : List Str) (ns : List (Str × V)) : Prop := ∀ k z, (k, V.str z) ∈ ns → z ∈ ws
section
variable {P : Program} {w : World} {K : PySem.W.Frag} {mg : Str → Option Value} {base : Heap}
def spCount (K : PySem.W.Frag) (n : Nat) : Sp := fun vs H Q _ => ∃ v pl a ws, vs = [v, .ref a] ∧ At K H v pl ∧ SqL K H a (ws.map V.str) ∧ (nodesOf pl).length ≤ n ∧ n < 1000 ∧ ∀ H', Same H H' → Q (.int (countIn ws (nodesOf pl))) H'
theorem ok_count {n : Nat} {f fN : Addr} {fd fdN : FuncData} (F : Fun K "_law_count" "_law_count" s__law_count f fd) (T : Txt mg) (C__law_nodes : Cal P w K mg base (n + 1) "_law_nodes" fN fdN ["plain"] (spNodes K n)) :
    FnOk P w K mg base CX0 (n + 2) f fd ["plain", "kinds"] (spCount K n) := by
  refine F.ok sc__law_count (fun vs H Q E h => ?_) (fun cdv A outer s H vs Q E hr h => ?_)
  · obtain ⟨v, pl, a, ws, rfl, _⟩ := h
    rfl
  · obtain ⟨v, pl, a, ws, rfl, hA, hS, hn, hn1, q⟩ := h
    refine ⟨_, (pss_one (ps_ret (pe_callB (lenQ (K := K) rfl) (by rfl) T.len_ (by decide +kernel) (pa_cons (pe_lc (own := [("node", 2)]) (g := gName 2) (by rfl) sc__law_count.nd (piL (K := K) rfl (pe_call C__law_nodes.G hr (by rfl) C__law_nodes.m C__law_nodes.k C__law_nodes.b .nil pass0 (pa_cons (pv 0) pa_nil))) (blkOk_by (by kernel_rfl)) (fun _ _ _ _ _ => (pg_name (i := 2) sc__law_count.nd rfl (.inl rfl))) (fun _ _ _ _ _ => (pts_one (pt_cmpR (inQ (K := K) rfl) (pe_ix (ixT (K := K) rfl) (pv 2) pe_int (fun _ _ => rfl)) (pv 1) (by rfl)))) (fun _ _ _ _ _ => (pv 2))) pa_nil)))), ?_⟩
    refine ⟨_, rfl, v, pl, rfl, hA, hn, hn1, fun xs p H1 s1 n1 e1 d1 => ?_⟩
    refine ⟨p, rfl, ⟨xs, SqL.of e1⟩, fun D nD => ?_⟩
    have s2 := s1.trans (same_new (o := .lst []) nD)
    have nDH : H D = none := s1.free nD
    have npD : p ≠ D := ne_of_none e1 nD
    have hl := d1.length
    refine lcL (fun j acc H2 => Same H H2 ∧ H2 p = some (.lst xs) ∧ NdsAt K H2 xs (nodesOf pl) ∧ acc.length = countIn ws ((nodesOf pl).take j)) ⟨s2, by rw [upd_ne npD]; exact e1, d1.tk (Tk.new nD), rfl⟩ (fun j acc H2 h => SqL.of h.2.1) ?_ ?_
    · rintro j x acc H2 hx hl2 e2 ⟨s3, e3, d3, ea⟩
      obtain ⟨t, k, u, rfl, hk, ht⟩ := d3.get hx
      have hj : j < 1000 := by
        have := (List.getElem?_eq_some_iff.mp hx).1
        omega
      refine ⟨_, rfl, t, _, 0, .str k, rfl, rfl, ht, rfl, _, rfl, a, ws.map V.str, rfl, .inl (s3.seq hS), rfl, flat_strs _, _, rfl, ?_⟩
      rw [inV_strs]
      have et : countIn ws ((nodesOf pl).take (j + 1)) = countIn ws ((nodesOf pl).take j) + countIn ws [(k, u)] := by rw [take_succ' hk, countIn_app]
      cases ek : ws.contains k with
      | true =>
        refine iteT ⟨_, rfl, ?_⟩
        refine LcK.mk hl2 (by omega) e2 ⟨fun b o eb => ?_, ?_, d3.tk (Tk.put e2), ?_⟩
        · rw [upd_ne (ne_of_none eb nDH)]
          exact s3 b o eb
        · rw [upd_ne npD]
          exact e3
        · rw [List.length_append, ea, et]
          rw [countIn_one, if_pos ek]
          rfl
      | false =>
        refine iteF ⟨acc, by omega, e2, s3, e3, d3, ?_⟩
        rw [ea, et]
        rw [countIn_one, if_neg (by rw [ek]; exact Bool.false_ne_true)]
        rfl
    · rintro acc H2 hl2 e2 ⟨s3, e3, d3, ea⟩
      refine .inl ⟨D, acc, rfl, .inl (SqL.of e2), ?_⟩
      rw [hl, List.take_length] at ea
      rw [ea]
      exact q H2 s3
def spLeaf (K : PySem.W.Frag) : Sp := fun vs H Q _ => ∃ d a ws, vs = [.ref d, .ref a] ∧ D3 H d ∧ SqL K H a (ws.map V.str) ∧ a ≠ d ∧ 0 < ws.length ∧ ws.length < 1000000 ∧
  ∀ v k t H', Gr d H H' → At K H' v (.leaf k t) → InW ws [(k, t)] → Q v H'
theorem ok_leaf {f fR fP : Addr} {fd fdR fdP : FuncData} (F : Fun K "_law_leaf" "_law_leaf" s__law_leaf f fd) (T : Txt mg) (C__law_roll : Cal P w K mg base 1 "_law_roll" fR fdR ["dice", "many"] spRoll)
    (C__law_pick : Cal P w K mg base 2 "_law_pick" fP fdP ["dice", "items"] (spPick K)) : FnOk P w K mg base CX0 3 f fd ["dice", "words"] (spLeaf K) := by
  refine F.ok sc__law_leaf (fun vs H Q E h => ?_) (fun cdv A outer s H vs Q E hr h => ?_)
  · obtain ⟨d, a, ws, rfl, _⟩ := h
    rfl
  · obtain ⟨d, a, ws, rfl, D, hS, hn, h0, h1, q⟩ := h
    have hr1 := hr.mono (j := 1) (by omega)
    refine ⟨_, (pss_cons (ps_set (i := 2) sc__law_leaf.nd rfl (.inl rfl) (pe_call C__law_roll.G hr1 (by rfl) C__law_roll.m C__law_roll.k C__law_roll.b .nil pass0 (pa_cons (pv 0) (pa_cons pe_int pa_nil))))
  (pss_cons (ps_if (pt_cmpR op_lt (pv 2) pe_int (nomark _))
  (pss_one (ps_ret (pe_ix (ixL (K := K) rfl) (pe_lst (pa_cons (pe_tup (pa_cons pe_str (pa_cons pe_int pa_nil))) (pa_cons (pe_tup (pa_cons pe_str (pa_cons pe_int pa_nil))) pa_nil))) (pv 2) (fun _ _ => rfl))))
  pss_nil)
  (pss_one (ps_ret (pe_tup (pa_cons (pe_ix (ixL (K := K) rfl) (pe_lst (pa_cons pe_str (pa_cons pe_str pa_nil))) (pe_op op_modN (pv 2) pe_int) (fun _ _ => rfl)) (pa_cons (pe_call C__law_pick.G hr (by rfl) C__law_pick.m C__law_pick.k C__law_pick.b .nil pass0 (pa_cons (pv 0) (pa_cons (pv 1) pa_nil))) pa_nil))))))), ?_⟩
    refine ⟨_, rfl, d, 9, rfl, D, by decide, by decide, fun r H1 r0 r1 D1 k1 => ?_⟩
    have g1 := off_gr (H := H) D1 k1
    refine ⟨_, rfl, r, 2, rfl, rfl, _, rfl, ite2 (fun hlt => ?_) (fun _ => ?_)⟩
    · have hlt : r < 2 := of_decide_eq_true hlt
      refine ⟨lenOk 2, fun t1 n1 => ⟨lenOk 2, fun t2 n2 => ⟨lenOk 2, fun l n3 => ?_⟩⟩⟩
      have a1 := Gr.laid (o := .tup [.str "yes", .int 0]) g1.dice n1
      have a2 := Gr.laid (o := .tup [.str "no", .int 0]) a1.dice n2
      have a3 := Gr.laid (o := .lst [.ref t1, .ref t2]) a2.dice n3
      have n12 : t1 ≠ t2 := ne_of_none (upd_same) n2
      have n13 : t1 ≠ l := ne_of_none (H := upd (upd H1 t1 _) t2 _) (by rw [upd_ne n12]; exact upd_same) n3
      have n23 : t2 ≠ l := ne_of_none upd_same n3
      have r01 : r = 0 ∨ r = 1 := by omega
      rcases r01 with rfl | rfl
      · refine ⟨_, rfl, l, _, 0, _, rfl, rfl, SqL.of upd_same, rfl, q _ "yes" (.int 0) _ (g1.trans (a1.trans (a2.trans a3))) (.leaf (SqT.of ?_) (by decide +kernel)) (fun k z hz => ?_)⟩
        · rw [upd_ne n13, upd_ne n12]
          exact upd_same
        · rw [List.mem_singleton] at hz
          cases hz
      · refine ⟨_, rfl, l, _, 1, _, rfl, rfl, SqL.of upd_same, rfl, q _ "no" (.int 0) _ (g1.trans (a1.trans (a2.trans a3))) (.leaf (SqT.of ?_) (by decide +kernel)) (fun k z hz => ?_)⟩
        · rw [upd_ne n23]
          exact upd_same
        · rw [List.mem_singleton] at hz
          cases hz
    · refine ⟨lenOk 2, fun l n1 => ?_⟩
      have a1 := Gr.laid (o := .lst [.str "fact", .str "not"]) g1.dice n1
      refine ⟨_, rfl, _, _, rfl, rfl, (show (2 : Int) ≠ 0 by decide), ?_⟩
      have b0 := fmod_in (i := r) (m := 2) (by decide)
      obtain ⟨k, ek, hk⟩ : ∃ k, atI [V.str "fact", .str "not"] (r.fmod 2) = some (.str k) ∧ (k = "fact" ∨ k = "not") := by
        have : r.fmod 2 = 0 ∨ r.fmod 2 = 1 := by omega
        rcases this with e | e
        · exact ⟨"fact", by rw [e]; rfl, .inl rfl⟩
        · exact ⟨"not", by rw [e]; rfl, .inr rfl⟩
      have g2 := g1.trans a1
      refine ⟨l, _, _, _, rfl, rfl, SqL.of upd_same, ek, _, rfl, _, rfl, d, a, ws.map V.str, rfl, g2.dice, g2.seq hn hS, hn, by rw [List.length_map]; exact h0, by rw [List.length_map]; exact h1, fun x H3 hx D3' k3 => ?_⟩
      obtain ⟨z, hz, rfl⟩ := List.mem_map.mp hx
      have g3 := g2.trans (off_gr D3' k3)
      refine ⟨lenOk 2, fun t nt => ?_⟩
      refine q _ k (.str z) _ (g3.trans (Gr.laid D3' nt)) (.leaf (SqT.of upd_same) ?_) (fun k2 z2 h2 => ?_)
      · rcases hk with rfl | rfl <;> rfl
      · rw [List.mem_singleton] at h2
        cases h2
        exact hz
end
end Eh
set_option Elab.async false
set_option linter.all false
set_option maxRecDepth 100000
namespace Eh
open PySem PySem.Spec PyProof.Rows L2
/-- two ways that come together -/
theorem join2 {α β : Type} {C Pm : α → β → Prop} {c : Bool} {A B : Prop} (ha : c = true → (∀ x y, C x y → Pm x y) → A) (hb : c = false → (∀ x y, C x y → Pm x y) → B) (tail : ∀ x y, C x y → Pm x y) : if c = true then A else B := by
  cases c with
  | true => exact iteT (ha rfl tail)
  | false => exact iteF (hb rfl tail)
theorem atI_last {xs : List V} {v : V} : atI (xs ++ [v]) (-1) = some v := by
  have h : xs.length < (xs ++ [v]).length := by rw [List.length_append]; exact Nat.lt_succ_self _
  unfold atI ixN
  rw [if_neg (by omega), if_pos (by rw [List.length_append, List.length_singleton]; omega)]
  have e : ((-1 : Int) + ((xs ++ [v]).length : Int)).toNat = xs.length := by
    rw [List.length_append, List.length_singleton]
    omega
  show (xs ++ [v])[_]? = _
  first
    | rw [e]
    | rw [show (((xs ++ [v]).length : Int) + -1).toNat = xs.length from by rw [List.length_append, List.length_singleton]; omega]
  exact List.getElem?_concat_length
end Eh
set_option Elab.async false
set_option linter.all false
set_option maxRecDepth 100000
namespace Eh
open PySem PySem.Spec PyProof.Rows L2
def choiceKinds : List Str := ["mine", "yours"]
theorem InW.app {ws : List Str} {a b : List (Str × V)} (h : InW ws a) (k : InW ws b) : InW ws (a ++ b) := fun x z hz => (List.mem_append.mp hz).elim (h x z) (k x z)
theorem InW.nil {ws : List Str} : InW ws [] := fun _ _ h => nomatch h
theorem Gr.ne {d l : Addr} {H : Hp} {xs : List V} (D : D3 H d) (n : H l = none) : l ≠ d := D.ne n
theorem choice_node {k : Str} (h : choiceKinds.contains k = true) : nodeOk k = true := by
  unfold choiceKinds at h
  rw [List.contains_iff_mem] at h
  simp only [List.mem_cons, List.not_mem_nil, or_false] at h
  rcases h with rfl | rfl <;> decide +kernel
theorem iteC {K' : VK} {σ : L2.St} {H : Hp} {a b : V} {c : Bool} (h : ∀ v, (c = true → v = a) → (c = false → v = b) → tC v σ H K') : if c = true then tC a σ H K' else tC b σ H K' := by
  cases c with
  | true => exact iteT (h a (fun _ => rfl) (fun e => nomatch e))
  | false => exact iteF (h b (fun e => nomatch e) (fun _ => rfl))
section
variable {P : Program} {w : World} {K : PySem.W.Frag} {mg : Str → Option Value} {base : Heap}
def spDrawn (K : PySem.W.Frag) (n : Nat) : Sp := fun vs H Q _ => ∃ (d a : Addr) (ws : List Str) (most choices : Int), vs = [.ref d, .ref a, .int most, .int choices] ∧ D3 H d ∧ SqL K H a (ws.map V.str) ∧ a ≠ d ∧ 0 < ws.length ∧ ws.length < 1000000 ∧
  1 ≤ most ∧ most ≤ n ∧ n < 900 ∧ 0 ≤ choices ∧ choices < 100000 ∧
  ∀ v pl H', Gr d H H' → At K H' v pl → InW ws (nodesOf pl) → ((nodesOf pl).length : Int) ≤ most → (countIn choiceKinds (nodesOf pl) : Int) ≤ choices → Q v H'
theorem ok_drawn {N : Nat} (hNb : N < 1000) {f fR fP fL fN fC : Addr} {fd fdR fdP fdL fdN fdC : FuncData} (F : Fun K "_law_drawn" "_law_drawn" s__law_drawn f fd) (T : Txt mg) (C__law_roll : Cal P w K mg base 1 "_law_roll" fR fdR ["dice", "many"] spRoll)
    (C__law_pick : Cal P w K mg base 2 "_law_pick" fP fdP ["dice", "items"] (spPick K)) (C__law_leaf : Cal P w K mg base 3 "_law_leaf" fL fdL ["dice", "words"] (spLeaf K)) (C__law_nodes : Cal P w K mg base (N + 1) "_law_nodes" fN fdN ["plain"] (spNodes K N))
    (C__law_count : Cal P w K mg base (N + 2) "_law_count" fC fdC ["plain", "kinds"] (spCount K N)) (m : mg "_law_drawn" = some (.ref f)) (kp : PySem.W.keepIn K (.ref f) = true) (b : Binds K fd ["dice", "words", "most", "choices"] []) :
    ∀ n : Nat, n ≤ N → FnOk P w K mg base CX0 (N + 3 + n) f fd ["dice", "words", "most", "choices"] (spDrawn K n)
  | 0, _ => F.ok sc__law_drawn (fun vs H Q E h => by
      obtain ⟨d, a, ws, most, choices, rfl, _⟩ := h
      rfl) (fun cdv A outer s H vs Q E hr h => by
      obtain ⟨d, a, ws, most, choices, rfl, _, _, _, _, _, h1, h2, _⟩ := h
      omega)
  | n + 1, hN => by
    have G := ok_drawn hNb F T C__law_roll C__law_pick C__law_leaf C__law_nodes C__law_count m kp b n (by omega)
    refine F.ok sc__law_drawn (fun vs H Q E h => ?_) (fun cdv A outer s H vs Q E hr h => ?_)
    · obtain ⟨d, a, ws, most, choices, rfl, _⟩ := h
      rfl
    · obtain ⟨d, a, ws, most, choices, rfl, D, hS, hn, hw0, hw1, hm1, hm2, hn9, hc0, hc1, q⟩ := h
      have hr : Room (N + 3 + n) _ := hr
      have hr0 := hr.mono (j := 1) (by omega)
      have hr2 := hr.mono (j := 2) (by omega)
      have hr3 := hr.mono (j := 3) (by omega)
      have hrN := hr.mono (j := N + 1) (by omega)
      have hrC := hr.mono (j := N + 2) (by omega)
      have hrG := hr.mono (j := N + 3 + n) (by omega)
      refine ⟨_, (pss_cons (ps_if (PW.pt (pw_or (pt_cmpR op_lt (pv 2) pe_int (nomark _)) (pw_or1 (pt_cmpR op_eq (pe_call C__law_roll.G hr0 (by rfl) C__law_roll.m C__law_roll.k C__law_roll.b .nil pass0 (pa_cons (pv 0) (pa_cons pe_int pa_nil))) pe_int (nomark _)))))
  (pss_one (ps_ret (pe_call C__law_leaf.G hr3 (by rfl) C__law_leaf.m C__law_leaf.k C__law_leaf.b .nil pass0 (pa_cons (pv 0) (pa_cons (pv 1) pa_nil)))))
  pss_nil)
  (pss_cons (ps_set (i := 4) sc__law_drawn.nd rfl (.inl rfl) (pe_call C__law_pick.G hr2 (by rfl) C__law_pick.m C__law_pick.k C__law_pick.b .nil pass0 (pa_cons (pv 0) (pa_cons (pe_op op_cat (pe_lst (pa_cons pe_str (pa_cons pe_str pa_nil))) (pe_ifExp (pt_cmpR op_gt (pv 3) pe_int (nomark _)) (pe_op op_rep (pe_lst (pa_cons pe_str (pa_cons pe_str pa_nil))) pe_int) (pe_lst pa_nil))) pa_nil))))
  (pss_cons (ps_set (i := 5) sc__law_drawn.nd rfl (.inl rfl) (pe_ifExp (pt_cmpR op_lt (pv 2) pe_int (nomark _)) pe_int (pe_call C__law_pick.G hr2 (by rfl) C__law_pick.m C__law_pick.k C__law_pick.b .nil pass0 (pa_cons (pv 0) (pa_cons (pe_lst (pa_cons pe_int (pa_cons pe_int (pa_cons pe_int (pa_cons pe_int pa_nil))))) pa_nil)))))
  (pss_cons (ps_par (i := 6) (j := 7) (by rfl) sc__law_drawn.nd rfl rfl (by decide) (by rfl) (by rfl) (pa_cons (pe_op op_sub (pv 3) (pe_ifExp (pt_cmpR (inQ (K := K) rfl) (pv 4) (pe_lst (pa_cons pe_str (pa_cons pe_str pa_nil))) (by rfl)) pe_int pe_int)) (pa_cons (pe_lst pa_nil) pa_nil)) (by rfl))
  (pss_cons (ps_set (i := 8) sc__law_drawn.nd rfl (.inl rfl) (pe_op op_sub (pe_op op_sub (pv 2) pe_int) (pv 5)))
  (pss_cons (ps_for PassesOwn.never (by rfl) (pi_range1 (by rfl) T.range_ (pa_cons (pv 5) pa_nil)) (pg_name (i := 9) sc__law_drawn.nd rfl (.inl rfl))
  (pss_cons (ps_set (i := 10) sc__law_drawn.nd rfl (.inl rfl) (pe_ifExp (pt_cmpR op_lt (pv 9) (pe_op op_sub (pv 5) pe_int) (nomark _)) (pe_call C__law_pick.G hr2 (by rfl) C__law_pick.m C__law_pick.k C__law_pick.b .nil pass0 (pa_cons (pv 0) (pa_cons (pe_lst (pa_cons pe_int (pa_cons (pe_op op_fdivN (pv 8) pe_int) (pa_cons (pv 8) pa_nil)))) pa_nil))) (pv 8)))
  (pss_cons (ps_set (i := 11) sc__law_drawn.nd rfl (.inl rfl) (pe_ifExp (pt_cmpR op_lt (pv 9) (pe_op op_sub (pv 5) pe_int) (nomark _)) (pe_call C__law_roll.G hr0 (by rfl) C__law_roll.m C__law_roll.k C__law_roll.b .nil pass0 (pa_cons (pv 0) (pa_cons (pe_op op_add (pv 6) pe_int) pa_nil))) (pv 6)))
  (pss_cons (ps_expr (bmK (K := K) rfl (pe_bm PySem.F.plainAttrs_list PySem.F.slot_list_append PySem.F.type_list_append mt_append (pv 7) (pa_cons (pe_call G hrG (by rfl) m kp b .nil pass0 (pa_cons (pv 0) (pa_cons (pv 1) (pa_cons (pe_op op_add pe_int (pv 10)) (pa_cons (pv 11) pa_nil))))) pa_nil))))
  (pss_cons (ps_set (i := 8) sc__law_drawn.nd rfl (.inl rfl) (pe_op op_add (pe_op op_sub (pv 8) (pe_callB (lenQ (K := K) rfl) (by rfl) T.len_ (by decide +kernel) (pa_cons (pe_call C__law_nodes.G hrN (by rfl) C__law_nodes.m C__law_nodes.k C__law_nodes.b .nil pass0 (pa_cons (pe_ix (ixL (K := K) rfl) (pv 7) (pe_un un_neg pe_int) (fun _ _ => rfl)) pa_nil)) pa_nil))) pe_int))
  (pss_one (ps_set (i := 6) sc__law_drawn.nd rfl (.inl rfl) (pe_op op_sub (pv 6) (pe_call C__law_count.G hrC (by rfl) C__law_count.m C__law_count.k C__law_count.b .nil pass0 (pa_cons (pe_ix (ixL (K := K) rfl) (pv 7) (pe_un un_neg pe_int) (fun _ _ => rfl)) (pa_cons (pe_lst (pa_cons pe_str (pa_cons pe_str pa_nil))) pa_nil)))))))))))
  (pss_one (ps_ret (pe_tup (pa_cons (pv 4) (pa_cons (pe_callTy call_tuple_of (by rfl) T.tuple_ (by decide +kernel) (pa_cons (pv 7) pa_nil)) pa_nil))))))))))), ?_⟩
      have leafK : ∀ H1, Gr d H H1 → ∃ d' a' ws', [V.ref d, V.ref a] = [.ref d', .ref a'] ∧ D3 H1 d' ∧ SqL K H1 a' (ws'.map V.str) ∧ a' ≠ d' ∧ 0 < ws'.length ∧ ws'.length < 1000000 ∧ ∀ v k t H', Gr d' H1 H' → At K H' v (.leaf k t) → InW ws' [(k, t)] → Q v H' := fun H1 g1 =>
        ⟨d, a, ws, rfl, g1.dice, g1.seq hn hS, hn, hw0, hw1, fun v k t H' g2 hA hw => q v _ H' (g1.trans g2) hA (by rw [nodesOf]; exact hw) (by rw [nodesOf]; exact hm1) (by
          rw [nodesOf, countIn_one, if_neg]
          · exact hc0
          · intro hk
            have := choice_node hk
            cases hA with
            | leaf _ o =>
              have h1 := leaf_kind o
              rw [node_kind this] at h1
              cases h1)⟩
      refine ⟨_, rfl, most, 3, rfl, rfl, _, rfl, ite2 (fun _ => ?_) (fun hm3 => ?_)⟩
      · exact ⟨_, rfl, _, rfl, leafK H (.refl D)⟩
      have hm3 : 3 ≤ most := by
        have := mt decide_eq_true hm3
        omega
      refine ⟨_, rfl, d, 6, rfl, D, by decide, by decide, fun r H1 r0 r1 D1 k1 => ?_⟩
      have g1 := off_gr (H := H) D1 k1
      refine ⟨rfl, _, rfl, ite2 (fun _ => ?_) (fun _ => ?_)⟩
      · exact ⟨_, rfl, _, rfl, leafK H1 g1⟩
      clear leafK
      -- kind
      refine ⟨_, rfl, lenOk 2, fun l1 n1 => ?_⟩
      have a1 := Gr.laid (o := .lst [.str "all", .str "some"]) g1.dice n1
      refine ⟨_, rfl, choices, 0, rfl, rfl, _, rfl, ?_⟩
      refine' join2 (C := fun (k : Str) H' => Gr d H H' ∧ nodeOk k = true ∧ (choiceKinds.contains k = true → 0 < choices)) (ha := ?ha1) (hb := ?hb1) (tail := ?tl1)
      case ha1 =>
        intro hch tail
        have hch : 0 < choices := of_decide_eq_true hch
        refine ⟨lenOk 2, fun l2 n2 => ?_⟩
        have a2 := Gr.laid (o := .lst [.str "mine", .str "yours"]) a1.dice n2
        refine ⟨l2, 2, _, rfl, rfl, upd_same, by decide, by decide, by rw [sizeLine_eq]; show 2 * 2 ≤ _; omega, fun l3 n3 => ?_⟩
        have a3 := Gr.laid (o := .lst (List.replicate (2 : Int).toNat [V.str "mine", .str "yours"]).flatten) a2.dice n3
        have e1 : l1 ≠ d := g1.dice.ne n1
        refine ⟨l1, l3, _, _, rfl, rfl, a3.keep _ _ e1 (a2.keep _ _ e1 upd_same), upd_same, lenS 6, fun l4 n4 => ?_⟩
        have a4 := Gr.laid (o := .lst ([V.str "all", .str "some"] ++ (List.replicate (2 : Int).toNat [V.str "mine", .str "yours"]).flatten)) a3.dice n4
        refine ⟨d, l4, _, rfl, a4.dice, SqL.of upd_same, a3.dice.ne n4, by decide, by decide, fun x H2 hx D2 k2 => ?_⟩
        have hx : x ∈ [V.str "all", .str "some", .str "mine", .str "yours", .str "mine", .str "yours"] := hx
        obtain ⟨k, rfl, hk⟩ : ∃ k, x = .str k ∧ nodeOk k = true := by
          simp only [List.mem_cons, List.not_mem_nil, or_false] at hx
          rcases hx with rfl | rfl | rfl | rfl | rfl | rfl <;> exact ⟨_, rfl, by decide +kernel⟩
        exact tail k H2 ⟨g1.trans (a1.trans (a2.trans (a3.trans (a4.trans (off_gr D2 k2))))), hk, fun _ => hch⟩
      case hb1 =>
        intro hch tail
        refine ⟨Nat.zero_le _, fun l2 n2 => ?_⟩
        have a2 := Gr.laid (o := .lst []) a1.dice n2
        have e1 : l1 ≠ d := g1.dice.ne n1
        refine ⟨l1, l2, _, _, rfl, rfl, a2.keep _ _ e1 upd_same, upd_same, lenS 2, fun l4 n4 => ?_⟩
        have a4 := Gr.laid (o := .lst ([V.str "all", .str "some"] ++ [])) a2.dice n4
        refine ⟨d, l4, _, rfl, a4.dice, SqL.of upd_same, a2.dice.ne n4, by decide, by decide, fun x H2 hx D2 k2 => ?_⟩
        have hx : x ∈ [V.str "all", .str "some"] := hx
        obtain ⟨k, rfl, hk, hk2⟩ : ∃ k, x = .str k ∧ nodeOk k = true ∧ choiceKinds.contains k = false := by
          simp only [List.mem_cons, List.not_mem_nil, or_false] at hx
          rcases hx with rfl | rfl <;> exact ⟨_, rfl, by decide +kernel, by decide +kernel⟩
        exact tail k H2 ⟨g1.trans (a1.trans (a2.trans (a4.trans (off_gr D2 k2)))), hk, fun h => absurd h (by rw [hk2]; exact Bool.false_ne_true)⟩
      clear a1 n1 g1
      intro k H3 ⟨g3, hk, hkc⟩
      -- many
      refine ⟨_, rfl, most, 4, rfl, rfl, _, rfl, ?_⟩
      refine' join2 (C := fun (mm : Int) H' => Gr d H H' ∧ (mm = 2 ∨ (mm = 3 ∧ 4 ≤ most))) (ha := ?ha2) (hb := ?hb2) (tail := ?tl2)
      case hb2 =>
        intro h4 tail
        have h4 : 4 ≤ most := by
          have := of_decide_eq_false h4
          omega
        refine ⟨_, rfl, lenOk 4, fun l1 n1 => ?_⟩
        have a1 := Gr.laid (o := .lst [.int 2, .int 2, .int 2, .int 3]) g3.dice n1
        refine ⟨d, l1, _, rfl, a1.dice, SqL.of upd_same, g3.dice.ne n1, by decide, by decide, fun x H2 hx D2 k2 => ?_⟩
        obtain ⟨mm, rfl, hm⟩ : ∃ mm : Int, x = .int mm ∧ (mm = 2 ∨ mm = 3) := by
          simp only [List.mem_cons, List.not_mem_nil, or_false] at hx
          rcases hx with rfl | rfl | rfl | rfl
          · exact ⟨_, rfl, .inl rfl⟩
          · exact ⟨_, rfl, .inl rfl⟩
          · exact ⟨_, rfl, .inl rfl⟩
          · exact ⟨_, rfl, .inr rfl⟩
        exact tail mm H2 ⟨g3.trans (a1.trans (off_gr D2 k2)), hm.imp id fun e => ⟨e, h4⟩⟩
      case ha2 =>
        intro _ tail
        exact tail 2 H3 ⟨g3, .inl rfl⟩
      clear g3
      intro mm H4 ⟨g4, hmm⟩
      -- left
      refine ⟨_, rfl, _, rfl, lenOk 2, fun l1 n1 => ?_⟩
      have a1 := Gr.laid (o := .lst [.str "mine", .str "yours"]) g4.dice n1
      refine ⟨l1, choiceKinds.map V.str, rfl, .inl (SqL.of upd_same), rfl, flat_strs _, _, rfl, ?_⟩
      refine iteC (fun v e1 e2 => ?_)
      obtain ⟨j, rfl, hj0, hj1, hjc⟩ : ∃ j : Int, v = .int j ∧ 0 ≤ j ∧ j ≤ choices ∧ (choiceKinds.contains k = true → j = 1) := by
        cases hb : choiceKinds.contains k with
        | true => 
          have := hkc hb
          exact ⟨1, e1 ((inV_strs k choiceKinds).trans hb), by omega, by omega, fun _ => rfl⟩
        | false => exact ⟨0, e2 ((inV_strs k choiceKinds).trans hb), by omega, by omega, fun h => nomatch h⟩
      have g5 := g4.trans a1
      show tC (V.int j) _ ?h5 _
      generalize ?h5 = H5 at g5 ⊢
      clear e1 e2 a1 n1 g4
      refine ⟨_, _, rfl, rfl, Nat.zero_le _, fun l n1 => ?_⟩
      have a1 := Gr.laid (o := .lst []) g5.dice n1
      have nl : l ≠ d := g5.dice.ne n1
      have nlH : H l = none := g5.free D n1
      refine ⟨_, _, rfl, ?_⟩
      refine ⟨_, rfl, _, _, rfl, rfl, _, rfl, _, _, rfl, rfl, ?_⟩
      refine ⟨_, rfl, mm, rfl, by omega, by omega, ?_⟩
      have i1 : 2 ≤ mm := by omega
      have i2 : mm ≤ 3 := by omega
      have i3 : 0 ≤ most - 1 - mm := by omega
      refine for_range (lo := 0) (n := mm.toNat) (fun i σ H2 => ∃ (room left : Int) (vs : List V) (ps : List Pl) (x9 x10 x11 : Option V), σ = [some (.ref d), some (.ref a), some (.int most), some (.int choices), some (.str k), some (.int mm), some (.int left), some (.ref l), some (.int room), x9, x10, x11] ∧
        Gr d H H2 ∧ H2 l = some (.lst vs) ∧ AtAll K H2 vs ps ∧ ps.length = i ∧ InW ws (nodesAll ps) ∧ 0 ≤ room ∧ room + (nodesAll ps).length = most - 1 - mm + i ∧ i ≤ (nodesAll ps).length ∧ 0 ≤ left ∧ left + countIn choiceKinds (nodesAll ps) = choices - j) ?_ ?_ ?_
      · exact ⟨_, _, [], [], _, _, _, rfl, g5.trans a1, upd_same, .nil, rfl, (by rw [nodesAll]; exact InW.nil), i3, (by rw [nodesAll]; rfl), Nat.zero_le _, by omega, by rw [nodesAll]; show _ + ((0 : Nat) : Int) = _; omega⟩
      · rintro i σ H6 hi ⟨room, left, vs, ps, x9, x10, x11, rfl, g6, e6, A6, hps, w6, r0, r6, hi6, l0, l6⟩
        have him : (i : Int) < mm := by omega
        have hroom : room ≤ most - 1 - mm := by omega
        have nl0 : l ≠ d := fun e => by
          obtain ⟨u1, u2, u3, e3⟩ := D
          rw [e, e3] at nlH
          cases nlH
        refine ⟨_, rfl, _, rfl, _, _, rfl, rfl, _, _, rfl, rfl, _, rfl, ?_⟩
        refine' join2 (C := fun (more : Int) H' => Gr d H6 H' ∧ 0 ≤ more ∧ more ≤ room) (ha := ?ha4) (hb := ?hb4) (tail := ?tl4)
        case ha4 =>
          intro _ tail
          refine ⟨_, rfl, _, rfl, _, _, rfl, rfl, (show (2 : Int) ≠ 0 ∧ (2 : Int).natAbs < 1073741824 by decide), _, rfl, lenOk 3, fun l1 n1 => ?_⟩
          have a1 := Gr.laid (o := .lst [.int 0, .int (room.fdiv 2), .int room]) g6.dice n1
          refine ⟨d, l1, _, rfl, a1.dice, SqL.of upd_same, g6.dice.ne n1, (show 0 < 3 by decide), (show 3 < 1000000 by decide), fun x H2 hx D2 k2 => ?_⟩
          have hf : room.fdiv 2 = room / 2 := Int.fdiv_eq_ediv_of_nonneg room (by decide)
          obtain ⟨more, rfl, h1, h2⟩ : ∃ more : Int, x = .int more ∧ 0 ≤ more ∧ more ≤ room := by
            simp only [List.mem_cons, List.not_mem_nil, or_false] at hx
            rcases hx with rfl | rfl | rfl
            · exact ⟨0, rfl, by omega, by omega⟩
            · exact ⟨_, rfl, by omega, by omega⟩
            · exact ⟨_, rfl, by omega, by omega⟩
          exact tail more H2 ⟨a1.trans (off_gr D2 k2), h1, h2⟩
        case hb4 =>
          intro _ tail
          exact ⟨_, rfl, tail room H6 ⟨.refl g6.dice, r0, by omega⟩⟩
        intro more H7 ⟨g7, hm0, hm1'⟩
        refine ⟨_, rfl, _, rfl, _, _, rfl, rfl, _, _, rfl, rfl, _, rfl, ?_⟩
        refine' join2 (C := fun (share : Int) H' => Gr d H6 H' ∧ 0 ≤ share ∧ share ≤ left) (ha := ?ha5) (hb := ?hb5) (tail := ?tl5)
        case ha5 =>
          intro _ tail
          refine ⟨_, rfl, _, rfl, _, _, rfl, rfl, d, _, rfl, g7.dice, by omega, by omega, fun r H8 q0 q1 D8 k8 => ?_⟩
          exact tail r H8 ⟨g7.trans (off_gr D8 k8), q0, by omega⟩
        case hb5 =>
          intro _ tail
          exact ⟨_, rfl, tail left H7 ⟨g7, l0, by omega⟩⟩
        intro share H8 ⟨g8, hs0, hs1⟩
        clear g7
        have g68 := g6.trans g8
        refine ⟨_, rfl, .inl ⟨rfl, _, SqL.of (g8.keep _ _ nl0 e6)⟩, _, rfl, _, rfl, _, rfl, _, _, rfl, rfl, _, rfl, ?_⟩
        refine ⟨d, a, ws, _, _, rfl, g68.dice, g68.seq hn hS, hn, hw0, hw1, by omega, by omega, by omega, hs0, by omega, fun v pl H9 g9 A9 w9 s9 c9 => ?_⟩
        have g69 := g8.trans g9
        have e9 := g69.keep _ _ nl0 e6
        have hvs := A6.length
        have tk9 : Tk H6 H9 := g69.tk g6.dice
        refine ⟨l, vs, v, rfl, rfl, e9, small (by omega), ?_⟩
        have tkp : Tk H9 (upd H9 l (.lst (vs ++ [v]))) := Tk.put e9
        have g610 : Gr d H (upd H9 l (.lst (vs ++ [v]))) := (g6.trans g69).put nlH nl0
        have A10 := A9.tk tkp
        have AA := ((A6.tk tk9).tk tkp).snoc A10
        have p1 := nodesOf_pos pl
        refine ⟨_, rfl, _, rfl, _, rfl, l, _, (-1), v, rfl, rfl, SqL.of upd_same, atI_last, v, pl, rfl, A10, by omega, by omega, fun xs p H11 s11 n11 e11 d11 => ?_⟩
        have el : H11 l = some (.lst (vs ++ [v])) := s11 _ _ upd_same
        refine .inl ⟨p, xs, rfl, .inl (SqL.of e11), _, _, rfl, rfl, _, _, rfl, rfl, ?_⟩
        refine ⟨_, rfl, _, rfl, _, rfl, l, _, (-1), v, rfl, rfl, SqL.of el, atI_last, lenOk 2, fun l3 n3 => ?_⟩
        have s12 := s11.trans (same_new (o := .lst [.str "mine", .str "yours"]) n3)
        refine ⟨v, pl, l3, choiceKinds, rfl, A10.tk (stk s12), SqL.of upd_same, by omega, by omega, fun H13 s13 => ?_⟩
        have s14 := s12.trans s13
        have s15 := same_gr g610.dice s14
        have hl := d11.length
        refine ⟨_, _, rfl, rfl, ?_⟩
        have ea : nodesAll (ps ++ [pl]) = nodesAll ps ++ nodesOf pl := by
          rw [nodesAll_append, nodesAll, nodesAll, List.append_nil]
        refine ⟨_, _, vs ++ [v], ps ++ [pl], _, _, _, rfl, g610.trans s15, s14 _ _ upd_same, AA.tk (stk s14), by rw [List.length_append, hps]; rfl, by rw [ea]; exact w6.app w9, ?_, ?_, ?_, ?_, ?_⟩
        · omega
        · rw [ea, List.length_append]
          omega
        · rw [ea, List.length_append]
          omega
        · omega
        · rw [ea, countIn_app]
          omega
      · rintro σ H6 ⟨room, left, vs, ps, x9, x10, x11, rfl, g6, e6, A6, hps, w6, r0, r6, hi6, l0, l6⟩
        refine ⟨_, rfl, _, rfl, l, vs, rfl, .inl ⟨SqL.of e6, fun t nt => ⟨lenOk 2, fun t2 nt2 => ?_⟩⟩⟩
        have a1 := Gr.laid (o := .tup vs) g6.dice nt
        have a2 := Gr.laid (o := .tup [.str k, .ref t]) a1.dice nt2
        have ne : t ≠ t2 := ne_of_none upd_same nt2
        have tk2 : Tk H6 _ := (a1.trans a2).tk g6.dice
        refine q _ (.node k ps) _ (g6.trans (a1.trans a2)) (.node (SqT.of upd_same) (SqT.of (by rw [upd_ne ne]; exact upd_same)) hk (by omega) (by omega) (A6.tk tk2)) ?_ ?_ ?_
        · rw [nodesOf]
          intro x z hz
          rcases List.mem_cons.mp hz with e | e
          · cases e
          · exact w6 x z e
        · rw [nodesOf, List.length_cons]
          omega
        · rw [nodesOf, show (k, V.int (ps.length : Int)) :: nodesAll ps = [(k, V.int (ps.length : Int))] ++ nodesAll ps from rfl, countIn_app, countIn_one]
          split
          · rename_i hc
            have := hjc hc
            omega
          · omega
end
end Eh
set_option Elab.async false
set_option linter.all false
set_option maxRecDepth 100000
namespace Eh
open PySem PySem.Spec PyProof.Rows L2
def inWB (ws : List Str) (ns : List (Str × V)) : Bool := ns.all fun n => match n.2 with
  | .str z => ws.contains z
  | _ => true
theorem inW_of {ws : List Str} {ns : List (Str × V)} (h : inWB ws ns = true) : InW ws ns := fun k z hz => List.contains_iff_mem.mp (List.all_eq_true.mp h _ hz)
def abc : List Str := ["a", "b", "c"]
/-- a known one -/
def Kn (K : PySem.W.Frag) (H : Hp) (x : V) : Prop := ∃ pl, At K H x pl ∧ inWB abc (nodesOf pl) = true ∧ (nodesOf pl).length ≤ 11 ∧ countIn choiceKinds (nodesOf pl) ≤ 4
def KnAll (K : PySem.W.Frag) (H : Hp) (xs : List V) : Prop := ∀ x ∈ xs, Kn K H x
theorem KnAll.tk {K : PySem.W.Frag} {H H' : Hp} {xs : List V} (h : KnAll K H xs) (t : Tk H H') : KnAll K H' xs := fun x hx => by
  obtain ⟨pl, A, r⟩ := h x hx
  exact ⟨pl, A.tk t, r⟩
theorem KnAll.add {K : PySem.W.Frag} {H : Hp} {xs : List V} {x : V} (h : KnAll K H xs) (k : Kn K H x) : KnAll K H (xs ++ [x]) := fun y hy => (List.mem_append.mp hy).elim (h y) fun z => by
  rw [List.mem_singleton.mp z]
  exact k
structure Six (K : PySem.W.Frag) (H : Hp) (va vb vc wa wb wc : V) : Prop where
  a : At K H va (.leaf "fact" (.str "a"))
  b : At K H vb (.leaf "fact" (.str "b"))
  c : At K H vc (.leaf "fact" (.str "c"))
  na : At K H wa (.leaf "not" (.str "a"))
  nb : At K H wb (.leaf "not" (.str "b"))
  nc : At K H wc (.leaf "not" (.str "c"))
theorem Six.tk {K : PySem.W.Frag} {H H' : Hp} {va vb vc wa wb wc : V} (h : Six K H va vb vc wa wb wc) (t : Tk H H') : Six K H' va vb vc wa wb wc := ⟨h.a.tk t, h.b.tk t, h.c.tk t, h.na.tk t, h.nb.tk t, h.nc.tk t⟩
theorem node_new {K : PySem.W.Frag} {d t u : Addr} {H : Hp} {vs : List V} {ps : List Pl} {k : Str} (D : D3 H d) (A : AtAll K H vs ps) (hk : nodeOk k = true) (h2 : 2 ≤ ps.length) (h4 : ps.length ≤ 4) (n : H t = none) (m : (upd H t (.tup vs)) u = none) :
    Gr d H (upd (upd H t (.tup vs)) u (.tup [.str k, .ref t])) ∧ At K (upd (upd H t (.tup vs)) u (.tup [.str k, .ref t])) (.ref u) (.node k ps) := by
  have a1 := Gr.laid (o := .tup vs) D n
  have a2 := Gr.laid (o := .tup [.str k, .ref t]) a1.dice m
  exact ⟨a1.trans a2, .node (SqT.of upd_same) (SqT.of (by rw [upd_ne (ne_of_none upd_same m)]; exact upd_same)) hk h2 h4 (A.tk ((a1.trans a2).tk D))⟩
theorem leaf_new {K : PySem.W.Frag} {d t : Addr} {H : Hp} {k : Str} {v : V} (D : D3 H d) (hk : leafOk k v = true) (n : H t = none) : Gr d H (upd H t (.tup [.str k, v])) ∧ At K (upd H t (.tup [.str k, v])) (.ref t) (.leaf k v) :=
  ⟨.laid D n, .leaf (SqT.of upd_same) hk⟩
section
variable {P : Program} {w : World} {K : PySem.W.Frag} {mg : Str → Option Value} {base : Heap}
def spKnown (K : PySem.W.Frag) : Sp := fun vs H Q _ => ∃ d, vs = [.ref d] ∧ D3 H d ∧ ∀ v pl H', Gr d H H' → At K H' v pl → InW abc (nodesOf pl) → (nodesOf pl).length ≤ 11 → countIn choiceKinds (nodesOf pl) ≤ 4 → Q v H'
theorem ok_known {f fP : Addr} {fd fdP : FuncData} (F : Fun K "_law_known" "_law_known" s__law_known f fd) (T : Txt mg) (C__law_pick : Cal P w K mg base 2 "_law_pick" fP fdP ["dice", "items"] (spPick K)) : FnOk P w K mg base CX0 3 f fd ["dice"] (spKnown K) := by
  refine F.ok sc__law_known (fun vs H Q E h => ?_) (fun cdv A outer s H vs Q E hr h => ?_)
  · obtain ⟨d, rfl, _⟩ := h
    rfl
  · obtain ⟨d, rfl, D, q⟩ := h
    refine ⟨_, (pss_cons (ps_asg (pe_tup (pa_cons (pe_tup (pa_cons pe_str (pa_cons pe_str pa_nil))) (pa_cons (pe_tup (pa_cons pe_str (pa_cons pe_str pa_nil))) (pa_cons (pe_tup (pa_cons pe_str (pa_cons pe_str pa_nil))) pa_nil)))) (pg_tup (by rfl) (pgs_cons (pg_name (i := 1) sc__law_known.nd rfl (.inl rfl)) (pgs_cons (pg_name (i := 2) sc__law_known.nd rfl (.inl rfl)) (pgs_cons (pg_name (i := 3) sc__law_known.nd rfl (.inl rfl)) pgs_nil)))))
  (pss_cons (ps_asg (pe_tup (pa_cons (pe_tup (pa_cons pe_str (pa_cons pe_str pa_nil))) (pa_cons (pe_tup (pa_cons pe_str (pa_cons pe_str pa_nil))) (pa_cons (pe_tup (pa_cons pe_str (pa_cons pe_str pa_nil))) pa_nil)))) (pg_tup (by rfl) (pgs_cons (pg_name (i := 4) sc__law_known.nd rfl (.inl rfl)) (pgs_cons (pg_name (i := 5) sc__law_known.nd rfl (.inl rfl)) (pgs_cons (pg_name (i := 6) sc__law_known.nd rfl (.inl rfl)) pgs_nil)))))
  (pss_cons (ps_set (i := 7) sc__law_known.nd rfl (.inl rfl) (pe_lst (pa_cons (pe_tup (pa_cons pe_str (pa_cons (pe_tup (pa_cons (pv 1) (pa_cons (pv 4) pa_nil))) pa_nil))) (pa_cons (pe_tup (pa_cons pe_str (pa_cons (pe_tup (pa_cons (pv 1) (pa_cons (pv 4) pa_nil))) pa_nil))) (pa_cons (pe_tup (pa_cons pe_str (pa_cons (pe_tup (pa_cons (pv 1) (pa_cons (pv 4) pa_nil))) pa_nil))) (pa_cons (pe_tup (pa_cons pe_str (pa_cons (pe_tup (pa_cons (pv 4) (pa_cons (pe_tup (pa_cons pe_str (pa_cons (pe_tup (pa_cons (pv 1) (pa_cons (pv 1) pa_nil))) pa_nil))) pa_nil))) pa_nil))) pa_nil))))))
  (pss_cons (ps_expr (bmK (K := K) rfl (pe_bm PySem.F.plainAttrs_list PySem.F.slot_list_append PySem.F.type_list_append mt_append (pv 7) (pa_cons (pe_tup (pa_cons pe_str (pa_cons (pe_tup (pa_cons (pe_tup (pa_cons pe_str (pa_cons (pe_tup (pa_cons (pv 1) (pa_cons (pv 2) pa_nil))) pa_nil))) (pa_cons (pe_tup (pa_cons pe_str (pa_cons (pe_tup (pa_cons (pv 4) (pa_cons (pv 5) pa_nil))) pa_nil))) pa_nil))) pa_nil))) pa_nil))))
  (pss_cons (ps_expr (bmK (K := K) rfl (pe_bm PySem.F.plainAttrs_list PySem.F.slot_list_append PySem.F.type_list_append mt_append (pv 7) (pa_cons (pe_tup (pa_cons pe_str (pa_cons (pe_tup (pa_cons (pe_tup (pa_cons pe_str (pa_cons (pe_tup (pa_cons (pv 5) (pa_cons (pv 6) pa_nil))) pa_nil))) (pa_cons (pe_tup (pa_cons pe_str (pa_cons (pe_tup (pa_cons (pe_tup (pa_cons pe_str (pa_cons (pe_tup (pa_cons (pv 2) (pa_cons (pv 3) pa_nil))) pa_nil))) (pa_cons (pe_tup (pa_cons pe_str (pa_cons (pe_tup (pa_cons (pv 2) (pa_cons (pv 3) pa_nil))) pa_nil))) pa_nil))) pa_nil))) pa_nil))) pa_nil))) pa_nil))))
  (pss_cons (ps_expr (bmK (K := K) rfl (pe_bm PySem.F.plainAttrs_list PySem.F.slot_list_append PySem.F.type_list_append mt_append (pv 7) (pa_cons (pe_tup (pa_cons pe_str (pa_cons (pe_tup (pa_cons (pe_tup (pa_cons pe_str (pa_cons (pe_tup (pa_cons (pv 1) (pa_cons (pv 2) pa_nil))) pa_nil))) (pa_cons (pe_tup (pa_cons pe_str (pa_cons (pe_tup (pa_cons (pv 4) (pa_cons (pv 1) pa_nil))) pa_nil))) pa_nil))) pa_nil))) pa_nil))))
  (pss_cons (ps_expr (bmK (K := K) rfl (pe_bm PySem.F.plainAttrs_list PySem.F.slot_list_append PySem.F.type_list_append mt_append (pv 7) (pa_cons (pe_tup (pa_cons pe_str (pa_cons (pe_tup (pa_cons (pe_tup (pa_cons pe_str (pa_cons (pe_tup (pa_cons (pv 1) (pa_cons (pv 2) pa_nil))) pa_nil))) (pa_cons (pe_tup (pa_cons pe_str (pa_cons (pe_tup (pa_cons (pv 4) (pa_cons (pv 5) pa_nil))) pa_nil))) pa_nil))) pa_nil))) pa_nil))))
  (pss_one (ps_ret (pe_call C__law_pick.G hr (by rfl) C__law_pick.m C__law_pick.k C__law_pick.b .nil pass0 (pa_cons (pv 0) (pa_cons (pv 7) pa_nil)))))))))))), ?_⟩
    refine ⟨lenOk 2, fun t1 n1 => ⟨lenOk 2, fun t2 n2 => ⟨lenOk 2, fun t3 n3 => ⟨lenOk 3, fun s1 o1 => ?_⟩⟩⟩⟩
    refine ⟨s1, _, rfl, SqT.of upd_same, rfl, _, _, rfl, _, _, rfl, _, _, rfl, rfl, ?_⟩
    obtain ⟨g1, l1⟩ := leaf_new (K := K) (k := "fact") (v := .str "a") D rfl n1
    obtain ⟨g2, l2⟩ := leaf_new (K := K) (k := "fact") (v := .str "b") g1.dice rfl n2
    obtain ⟨g3, l3⟩ := leaf_new (K := K) (k := "fact") (v := .str "c") g2.dice rfl n3
    have j1 := Gr.laid (o := .tup [.ref t1, .ref t2, .ref t3]) g3.dice o1
    refine ⟨lenOk 2, fun t4 n4 => ⟨lenOk 2, fun t5 n5 => ⟨lenOk 2, fun t6 n6 => ⟨lenOk 3, fun s2 o2 => ?_⟩⟩⟩⟩
    refine ⟨s2, _, rfl, SqT.of upd_same, rfl, _, _, rfl, _, _, rfl, _, _, rfl, rfl, ?_⟩
    obtain ⟨g4, l4⟩ := leaf_new (K := K) (k := "not") (v := .str "a") j1.dice rfl n4
    obtain ⟨g5, l5⟩ := leaf_new (K := K) (k := "not") (v := .str "b") g4.dice rfl n5
    obtain ⟨g6, l6⟩ := leaf_new (K := K) (k := "not") (v := .str "c") g5.dice rfl n6
    have j2 := Gr.laid (o := .tup [.ref t4, .ref t5, .ref t6]) g6.dice o2
    have L : Six K _ _ _ _ _ _ _ := ⟨l1.tk ((g2.trans (g3.trans (j1.trans (g4.trans (g5.trans (g6.trans j2)))))).tk g1.dice), l2.tk ((g3.trans (j1.trans (g4.trans (g5.trans (g6.trans j2))))).tk g2.dice), l3.tk ((j1.trans (g4.trans (g5.trans (g6.trans j2)))).tk g3.dice), l4.tk ((g5.trans (g6.trans j2)).tk g4.dice), l5.tk ((g6.trans j2).tk g5.dice), l6.tk (j2.tk g6.dice)⟩
    have g := g1.trans (g2.trans (g3.trans (j1.trans (g4.trans (g5.trans (g6.trans j2))))))
    clear l1 l2 l3 l4 l5 l6 g1 g2 g3 g4 g5 g6 j1 j2
    generalize upd _ s2 _ = H0 at g L ⊢
    clear n1 n2 n3 n4 n5 n6 o1 o2
    have dn : KnAll K H0 [] := fun _ h => nomatch h
    refine ⟨_, rfl, ?_⟩
    refine ⟨_, rfl, ?_⟩
    refine ⟨lenOk 2, fun t1 n1 => ⟨lenOk 2, fun u1 m1 => ?_⟩⟩
    obtain ⟨h1, A1⟩ := node_new (k := "mine") g.dice (.cons L.a (.cons L.na .nil)) (by decide +kernel) (by decide) (by decide) n1 m1
    replace L := L.tk (h1.tk g.dice)
    replace dn := dn.tk (h1.tk g.dice)
    skip
    replace g := g.trans h1
    generalize upd (upd _ t1 _) u1 _ = H1 at g A1 L dn ⊢
    clear n1 m1 h1
    replace dn := dn.add ⟨_, A1, by decide +kernel, by decide +kernel, by decide +kernel⟩
    refine ⟨_, rfl, ?_⟩
    refine ⟨_, rfl, ?_⟩
    refine ⟨lenOk 2, fun t2 n2 => ⟨lenOk 2, fun u2 m2 => ?_⟩⟩
    obtain ⟨h2, A2⟩ := node_new (k := "yours") g.dice (.cons L.a (.cons L.na .nil)) (by decide +kernel) (by decide) (by decide) n2 m2
    replace L := L.tk (h2.tk g.dice)
    replace dn := dn.tk (h2.tk g.dice)
    skip
    replace g := g.trans h2
    generalize upd (upd _ t2 _) u2 _ = H2 at g A2 L dn ⊢
    clear n2 m2 h2
    replace dn := dn.add ⟨_, A2, by decide +kernel, by decide +kernel, by decide +kernel⟩
    refine ⟨_, rfl, ?_⟩
    refine ⟨_, rfl, ?_⟩
    refine ⟨lenOk 2, fun t3 n3 => ⟨lenOk 2, fun u3 m3 => ?_⟩⟩
    obtain ⟨h3, A3⟩ := node_new (k := "some") g.dice (.cons L.a (.cons L.na .nil)) (by decide +kernel) (by decide) (by decide) n3 m3
    replace L := L.tk (h3.tk g.dice)
    replace dn := dn.tk (h3.tk g.dice)
    skip
    replace g := g.trans h3
    generalize upd (upd _ t3 _) u3 _ = H3 at g A3 L dn ⊢
    clear n3 m3 h3
    replace dn := dn.add ⟨_, A3, by decide +kernel, by decide +kernel, by decide +kernel⟩
    refine ⟨_, rfl, ?_⟩
    refine ⟨_, rfl, ?_⟩
    refine ⟨_, rfl, ?_⟩
    refine ⟨lenOk 2, fun t4 n4 => ⟨lenOk 2, fun u4 m4 => ?_⟩⟩
    obtain ⟨h4, A4⟩ := node_new (k := "all") g.dice (.cons L.a (.cons L.a .nil)) (by decide +kernel) (by decide) (by decide) n4 m4
    replace L := L.tk (h4.tk g.dice)
    replace dn := dn.tk (h4.tk g.dice)
    skip
    replace g := g.trans h4
    generalize upd (upd _ t4 _) u4 _ = H4 at g A4 L dn ⊢
    clear n4 m4 h4
    refine ⟨lenOk 2, fun t5 n5 => ⟨lenOk 2, fun u5 m5 => ?_⟩⟩
    obtain ⟨h5, A5⟩ := node_new (k := "some") g.dice (.cons L.na (.cons A4 .nil)) (by decide +kernel) (by decide) (by decide) n5 m5
    replace L := L.tk (h5.tk g.dice)
    replace dn := dn.tk (h5.tk g.dice)
    skip
    replace g := g.trans h5
    generalize upd (upd _ t5 _) u5 _ = H5 at g A5 L dn ⊢
    clear n5 m5 h5
    replace dn := dn.add ⟨_, A5, by decide +kernel, by decide +kernel, by decide +kernel⟩
    refine ⟨lenOk 4, fun l nL => ?_⟩
    have nl : l ≠ d := g.dice.ne nL
    have nlH : H l = none := g.free D nL
    obtain ⟨xs, hxs, ex⟩ : ∃ xs : List V, xs.length = 4 ∧ xs = [.ref u1, .ref u2, .ref u3, .ref u5] := ⟨_, rfl, rfl⟩
    replace dn : KnAll K H5 xs := by rw [ex]; exact dn
    have eL : upd H5 l (.lst xs) l = some (.lst xs) := upd_same
    have hh := Gr.laid (o := .lst xs) g.dice nL
    replace L := L.tk (hh.tk g.dice)
    replace dn := dn.tk (hh.tk g.dice)
    replace g := g.trans hh
    rw [← ex]
    clear ex hh nL
    generalize upd H5 l _ = H6x at g eL L dn ⊢
    refine ⟨_, rfl, .inl ⟨rfl, _, SqL.of eL⟩, ?_⟩
    refine ⟨_, rfl, ?_⟩
    refine ⟨_, rfl, ?_⟩
    refine ⟨lenOk 2, fun t6 n6 => ⟨lenOk 2, fun u6 m6 => ?_⟩⟩
    obtain ⟨h6, A6⟩ := node_new (k := "mine") g.dice (.cons L.a (.cons L.b .nil)) (by decide +kernel) (by decide) (by decide) n6 m6
    replace L := L.tk (h6.tk g.dice)
    replace dn := dn.tk (h6.tk g.dice)
    replace eL := h6.keep _ _ nl eL
    replace g := g.trans h6
    generalize upd (upd _ t6 _) u6 _ = H6 at g A6 eL L dn ⊢
    clear n6 m6 h6
    refine ⟨_, rfl, ?_⟩
    refine ⟨_, rfl, ?_⟩
    refine ⟨lenOk 2, fun t7 n7 => ⟨lenOk 2, fun u7 m7 => ?_⟩⟩
    obtain ⟨h7, A7⟩ := node_new (k := "yours") g.dice (.cons L.na (.cons L.nb .nil)) (by decide +kernel) (by decide) (by decide) n7 m7
    replace L := L.tk (h7.tk g.dice)
    replace A6 := A6.tk (h7.tk g.dice)
    replace dn := dn.tk (h7.tk g.dice)
    replace eL := h7.keep _ _ nl eL
    replace g := g.trans h7
    generalize upd (upd _ t7 _) u7 _ = H7 at g A7 eL L A6 dn ⊢
    clear n7 m7 h7
    refine ⟨lenOk 2, fun t8 n8 => ⟨lenOk 2, fun u8 m8 => ?_⟩⟩
    obtain ⟨h8, A8⟩ := node_new (k := "some") g.dice (.cons A6 (.cons A7 .nil)) (by decide +kernel) (by decide) (by decide) n8 m8
    replace L := L.tk (h8.tk g.dice)
    replace dn := dn.tk (h8.tk g.dice)
    replace eL := h8.keep _ _ nl eL
    replace g := g.trans h8
    generalize upd (upd _ t8 _) u8 _ = H8 at g A8 eL L dn ⊢
    clear n8 m8 h8
    refine ⟨l, xs, .ref u8, rfl, rfl, eL, small (by omega), ?_⟩
    have tp : Tk H8 (upd H8 l (.lst (xs ++ [.ref u8]))) := Tk.put eL
    replace L := L.tk tp
    replace dn := (dn.tk tp).add ⟨_, A8.tk tp, by decide +kernel, by decide +kernel, by decide +kernel⟩
    replace g := g.put (o := .lst (xs ++ [.ref u8])) nlH nl
    replace eL : upd H8 l (.lst (xs ++ [.ref u8])) l = some (.lst (xs ++ [.ref u8])) := upd_same
    replace hxs : (xs ++ [V.ref u8]).length = 5 := by rw [List.length_append, hxs]; rfl
    clear tp A8
    generalize xs ++ [V.ref u8] = xs1 at g eL hxs dn L ⊢
    generalize upd H8 l _ = Hy0 at g eL L dn ⊢
    refine ⟨_, rfl, .inl ⟨rfl, _, SqL.of eL⟩, ?_⟩
    refine ⟨_, rfl, ?_⟩
    refine ⟨_, rfl, ?_⟩
    refine ⟨lenOk 2, fun t9 n9 => ⟨lenOk 2, fun u9 m9 => ?_⟩⟩
    obtain ⟨h9, A9⟩ := node_new (k := "mine") g.dice (.cons L.nb (.cons L.nc .nil)) (by decide +kernel) (by decide) (by decide) n9 m9
    replace L := L.tk (h9.tk g.dice)
    replace dn := dn.tk (h9.tk g.dice)
    replace eL := h9.keep _ _ nl eL
    replace g := g.trans h9
    generalize upd (upd _ t9 _) u9 _ = H9 at g A9 eL L dn ⊢
    clear n9 m9 h9
    refine ⟨_, rfl, ?_⟩
    refine ⟨_, rfl, ?_⟩
    refine ⟨lenOk 2, fun t10 n10 => ⟨lenOk 2, fun u10 m10 => ?_⟩⟩
    obtain ⟨h10, A10⟩ := node_new (k := "yours") g.dice (.cons L.b (.cons L.c .nil)) (by decide +kernel) (by decide) (by decide) n10 m10
    replace L := L.tk (h10.tk g.dice)
    replace A9 := A9.tk (h10.tk g.dice)
    replace dn := dn.tk (h10.tk g.dice)
    replace eL := h10.keep _ _ nl eL
    replace g := g.trans h10
    generalize upd (upd _ t10 _) u10 _ = H10 at g A10 eL L A9 dn ⊢
    clear n10 m10 h10
    refine ⟨_, rfl, ?_⟩
    refine ⟨_, rfl, ?_⟩
    refine ⟨lenOk 2, fun t11 n11 => ⟨lenOk 2, fun u11 m11 => ?_⟩⟩
    obtain ⟨h11, A11⟩ := node_new (k := "yours") g.dice (.cons L.b (.cons L.c .nil)) (by decide +kernel) (by decide) (by decide) n11 m11
    replace L := L.tk (h11.tk g.dice)
    replace A9 := A9.tk (h11.tk g.dice)
    replace A10 := A10.tk (h11.tk g.dice)
    replace dn := dn.tk (h11.tk g.dice)
    replace eL := h11.keep _ _ nl eL
    replace g := g.trans h11
    generalize upd (upd _ t11 _) u11 _ = H11 at g A11 eL L A9 A10 dn ⊢
    clear n11 m11 h11
    refine ⟨lenOk 2, fun t12 n12 => ⟨lenOk 2, fun u12 m12 => ?_⟩⟩
    obtain ⟨h12, A12⟩ := node_new (k := "all") g.dice (.cons A10 (.cons A11 .nil)) (by decide +kernel) (by decide) (by decide) n12 m12
    replace L := L.tk (h12.tk g.dice)
    replace A9 := A9.tk (h12.tk g.dice)
    replace dn := dn.tk (h12.tk g.dice)
    replace eL := h12.keep _ _ nl eL
    replace g := g.trans h12
    generalize upd (upd _ t12 _) u12 _ = H12 at g A12 eL L A9 dn ⊢
    clear n12 m12 h12
    refine ⟨lenOk 2, fun t13 n13 => ⟨lenOk 2, fun u13 m13 => ?_⟩⟩
    obtain ⟨h13, A13⟩ := node_new (k := "some") g.dice (.cons A9 (.cons A12 .nil)) (by decide +kernel) (by decide) (by decide) n13 m13
    replace L := L.tk (h13.tk g.dice)
    replace dn := dn.tk (h13.tk g.dice)
    replace eL := h13.keep _ _ nl eL
    replace g := g.trans h13
    generalize upd (upd _ t13 _) u13 _ = H13 at g A13 eL L dn ⊢
    clear n13 m13 h13
    refine ⟨l, xs1, .ref u13, rfl, rfl, eL, small (by omega), ?_⟩
    have tp : Tk H13 (upd H13 l (.lst (xs1 ++ [.ref u13]))) := Tk.put eL
    replace L := L.tk tp
    replace dn := (dn.tk tp).add ⟨_, A13.tk tp, by decide +kernel, by decide +kernel, by decide +kernel⟩
    replace g := g.put (o := .lst (xs1 ++ [.ref u13])) nlH nl
    replace eL : upd H13 l (.lst (xs1 ++ [.ref u13])) l = some (.lst (xs1 ++ [.ref u13])) := upd_same
    replace hxs : (xs1 ++ [V.ref u13]).length = 6 := by rw [List.length_append, hxs]; rfl
    clear tp A13
    generalize xs1 ++ [V.ref u13] = xs2 at g eL hxs dn L ⊢
    generalize upd H13 l _ = Hy1 at g eL L dn ⊢
    refine ⟨_, rfl, .inl ⟨rfl, _, SqL.of eL⟩, ?_⟩
    refine ⟨_, rfl, ?_⟩
    refine ⟨_, rfl, ?_⟩
    refine ⟨lenOk 2, fun t14 n14 => ⟨lenOk 2, fun u14 m14 => ?_⟩⟩
    obtain ⟨h14, A14⟩ := node_new (k := "mine") g.dice (.cons L.a (.cons L.b .nil)) (by decide +kernel) (by decide) (by decide) n14 m14
    replace L := L.tk (h14.tk g.dice)
    replace dn := dn.tk (h14.tk g.dice)
    replace eL := h14.keep _ _ nl eL
    replace g := g.trans h14
    generalize upd (upd _ t14 _) u14 _ = H14 at g A14 eL L dn ⊢
    clear n14 m14 h14
    refine ⟨_, rfl, ?_⟩
    refine ⟨_, rfl, ?_⟩
    refine ⟨lenOk 2, fun t15 n15 => ⟨lenOk 2, fun u15 m15 => ?_⟩⟩
    obtain ⟨h15, A15⟩ := node_new (k := "some") g.dice (.cons L.na (.cons L.a .nil)) (by decide +kernel) (by decide) (by decide) n15 m15
    replace L := L.tk (h15.tk g.dice)
    replace A14 := A14.tk (h15.tk g.dice)
    replace dn := dn.tk (h15.tk g.dice)
    replace eL := h15.keep _ _ nl eL
    replace g := g.trans h15
    generalize upd (upd _ t15 _) u15 _ = H15 at g A15 eL L A14 dn ⊢
    clear n15 m15 h15
    refine ⟨lenOk 2, fun t16 n16 => ⟨lenOk 2, fun u16 m16 => ?_⟩⟩
    obtain ⟨h16, A16⟩ := node_new (k := "yours") g.dice (.cons A14 (.cons A15 .nil)) (by decide +kernel) (by decide) (by decide) n16 m16
    replace L := L.tk (h16.tk g.dice)
    replace dn := dn.tk (h16.tk g.dice)
    replace eL := h16.keep _ _ nl eL
    replace g := g.trans h16
    generalize upd (upd _ t16 _) u16 _ = H16 at g A16 eL L dn ⊢
    clear n16 m16 h16
    refine ⟨l, xs2, .ref u16, rfl, rfl, eL, small (by omega), ?_⟩
    have tp : Tk H16 (upd H16 l (.lst (xs2 ++ [.ref u16]))) := Tk.put eL
    replace L := L.tk tp
    replace dn := (dn.tk tp).add ⟨_, A16.tk tp, by decide +kernel, by decide +kernel, by decide +kernel⟩
    replace g := g.put (o := .lst (xs2 ++ [.ref u16])) nlH nl
    replace eL : upd H16 l (.lst (xs2 ++ [.ref u16])) l = some (.lst (xs2 ++ [.ref u16])) := upd_same
    replace hxs : (xs2 ++ [V.ref u16]).length = 7 := by rw [List.length_append, hxs]; rfl
    clear tp A16
    generalize xs2 ++ [V.ref u16] = xs3 at g eL hxs dn L ⊢
    generalize upd H16 l _ = Hy2 at g eL L dn ⊢
    refine ⟨_, rfl, .inl ⟨rfl, _, SqL.of eL⟩, ?_⟩
    refine ⟨_, rfl, ?_⟩
    refine ⟨_, rfl, ?_⟩
    refine ⟨lenOk 2, fun t17 n17 => ⟨lenOk 2, fun u17 m17 => ?_⟩⟩
    obtain ⟨h17, A17⟩ := node_new (k := "mine") g.dice (.cons L.a (.cons L.b .nil)) (by decide +kernel) (by decide) (by decide) n17 m17
    replace L := L.tk (h17.tk g.dice)
    replace dn := dn.tk (h17.tk g.dice)
    replace eL := h17.keep _ _ nl eL
    replace g := g.trans h17
    generalize upd (upd _ t17 _) u17 _ = H17 at g A17 eL L dn ⊢
    clear n17 m17 h17
    refine ⟨_, rfl, ?_⟩
    refine ⟨_, rfl, ?_⟩
    refine ⟨lenOk 2, fun t18 n18 => ⟨lenOk 2, fun u18 m18 => ?_⟩⟩
    obtain ⟨h18, A18⟩ := node_new (k := "yours") g.dice (.cons L.na (.cons L.nb .nil)) (by decide +kernel) (by decide) (by decide) n18 m18
    replace L := L.tk (h18.tk g.dice)
    replace A17 := A17.tk (h18.tk g.dice)
    replace dn := dn.tk (h18.tk g.dice)
    replace eL := h18.keep _ _ nl eL
    replace g := g.trans h18
    generalize upd (upd _ t18 _) u18 _ = H18 at g A18 eL L A17 dn ⊢
    clear n18 m18 h18
    refine ⟨lenOk 2, fun t19 n19 => ⟨lenOk 2, fun u19 m19 => ?_⟩⟩
    obtain ⟨h19, A19⟩ := node_new (k := "all") g.dice (.cons A17 (.cons A18 .nil)) (by decide +kernel) (by decide) (by decide) n19 m19
    replace L := L.tk (h19.tk g.dice)
    replace dn := dn.tk (h19.tk g.dice)
    replace eL := h19.keep _ _ nl eL
    replace g := g.trans h19
    generalize upd (upd _ t19 _) u19 _ = H19 at g A19 eL L dn ⊢
    clear n19 m19 h19
    refine ⟨l, xs3, .ref u19, rfl, rfl, eL, small (by omega), ?_⟩
    have tp : Tk H19 (upd H19 l (.lst (xs3 ++ [.ref u19]))) := Tk.put eL
    replace L := L.tk tp
    replace dn := (dn.tk tp).add ⟨_, A19.tk tp, by decide +kernel, by decide +kernel, by decide +kernel⟩
    replace g := g.put (o := .lst (xs3 ++ [.ref u19])) nlH nl
    replace eL : upd H19 l (.lst (xs3 ++ [.ref u19])) l = some (.lst (xs3 ++ [.ref u19])) := upd_same
    replace hxs : (xs3 ++ [V.ref u19]).length = 8 := by rw [List.length_append, hxs]; rfl
    clear tp A19
    generalize xs3 ++ [V.ref u19] = xs4 at g eL hxs dn L ⊢
    generalize upd H19 l _ = Hy3 at g eL L dn ⊢

    refine ⟨_, rfl, _, rfl, d, l, xs4, rfl, g.dice, SqL.of eL, nl, by omega, by omega, fun x H' hx D' k' => ?_⟩
    obtain ⟨pl, A, w1, w2, w3⟩ := dn x hx
    have h' := off_gr D' k'
    exact q x pl H' (g.trans h') (A.tk (h'.tk g.dice)) (inW_of w1) w2 w3
end
end Eh
set_option Elab.async false
set_option linter.all false
set_option maxRecDepth 100000
namespace Eh
open PySem PySem.Spec PyProof.Rows L2
section
variable {P : Program} {w : World} {K : PySem.W.Frag} {mg : Str → Option Value} {base : Heap}
/-- ys are some of xs -/
def SomeOf (ys xs : List V) : Prop := ∃ rest, (ys ++ rest).Perm xs
def spSome (K : PySem.W.Frag) : Sp := fun vs H Q _ => ∃ (d a : Addr) (xs : List V) (n : Nat), vs = [.ref d, .ref a, .int n] ∧ D3 H d ∧ SqL K H a xs ∧ a ≠ d ∧ xs.length < 1000000 ∧ n < 1000000 ∧
  ∀ ys p H', SomeOf ys xs → ys.length = min n xs.length → Gr d H H' → H p = none → H' p = some (.lst ys) → Q (.ref p) H'
theorem perm_erase {α : Type} : ∀ {xs : List α} {i : Nat} {x : α}, xs[i]? = some x → (x :: xs.eraseIdx i).Perm xs
  | [], _, _, h => by simp at h
  | y :: r, 0, x, h => by
    cases (show some y = some x from h)
    exact List.Perm.refl _
  | y :: r, i + 1, x, h => by
    have ih := perm_erase (xs := r) (i := i) (x := x) h
    exact (List.Perm.swap y x _).trans (ih.cons y)
theorem seqIndex_nat {n j : Nat} (h : j < n) : seqIndex? (j : Int) n = some j := (ixN_seq (n := n) (i := (j : Int)) (j := j) (by
  unfold ixN
  rw [if_pos (by omega), if_pos (by omega)]
  rfl)).1
theorem ok_some {f fR : Addr} {fd fdR : FuncData} (F : Fun K "_law_some" "_law_some" s__law_some f fd) (T : Txt mg) (C__law_roll : Cal P w K mg base 1 "_law_roll" fR fdR ["dice", "many"] spRoll) :
    FnOk P w K mg base CX0 2 f fd ["dice", "items", "size"] (spSome K) := by
  refine F.ok sc__law_some (fun vs H Q E h => ?_) (fun cdv A outer s H vs Q E hr h => ?_)
  · obtain ⟨d, a, xs, n, rfl, _⟩ := h
    rfl
  · obtain ⟨d, a, xs, n, rfl, D, hS, hn, h1, h2, q⟩ := h
    refine ⟨_, (pss_cons (ps_set (i := 3) sc__law_some.nd rfl (.inr rfl) (pe_callTy (lstOf (K := K) rfl) (by rfl) T.list_ (by decide +kernel) (pa_cons (pv 1) pa_nil)))
  (pss_one (ps_ret (pe_lc (own := [("turn", 4)]) (g := gName 4) (by rfl) sc__law_some.nd (pi_range1 (by rfl) T.range_ (pa_cons (pe_callB (call_min2 (by rfl)) (by rfl) T.min_ (by decide +kernel) (pa_cons (pv 2) (pa_cons (pe_callB (lenQ (K := K) rfl) (by rfl) T.len_ (by decide +kernel) (pa_cons (pv 3) pa_nil)) pa_nil))) pa_nil)) (blkOk_by (by kernel_rfl)) (fun _ _ _ _ _ => (pg_name (i := 4) sc__law_some.nd rfl (.inl rfl))) (fun _ _ _ _ _ => pts_nil) (fun _ _ _ _ _ => (bmK (K := K) rfl (pe_bm PySem.F.plainAttrs_list PySem.F.slot_list_pop PySem.F.type_list_pop mt_popAt (pv 3) (pa_cons (pe_call C__law_roll.G hr (by rfl) C__law_roll.m C__law_roll.k C__law_roll.b .nil pass0 (pa_cons (pv 0) (pa_cons (pe_callB (lenQ (K := K) rfl) (by rfl) T.len_ (by decide +kernel) (pa_cons (pv 3) pa_nil)) pa_nil))) pa_nil)))))))), ?_⟩
    -- left = list(items)
    refine ⟨_, rfl, a, xs, rfl, .inl hS, fun l nl => ?_⟩
    have nld : l ≠ d := D.ne nl
    have g0 : Gr d H (upd H l (.lst xs)) := .laid D nl
    -- min(size, len(left))
    refine ⟨_, rfl, _, rfl, .inl ⟨l, xs, rfl, .inl (SqL.of upd_same), n, xs.length, rfl, ?_⟩⟩
    obtain ⟨m, em, hm⟩ : ∃ m : Nat, (if (xs.length : Int) < (n : Int) then (xs.length : Int) else (n : Int)) = (m : Int) ∧ m = min n xs.length := by
      refine ⟨min n xs.length, ?_, rfl⟩
      split <;> omega
    rw [em]
    refine ⟨m, rfl, by omega, by omega, fun p np => ?_⟩
    have npl : p ≠ l := fun e => by rw [e, upd_same] at np; cases np
    have npH : H p = none := by rw [upd_ne npl] at np; exact np
    have npd : p ≠ d := D.ne npH
    refine lcR (fun i ys H2 => ∃ zs, (ys ++ zs).Perm xs ∧ ys.length = i ∧ Gr d H H2 ∧ H2 l = some (.lst zs)) ⟨xs, List.Perm.refl _, rfl, g0.put npH npd, by rw [upd_ne npl.symm, upd_same]⟩ ?_ ?_
    · rintro i ys H2 hi hly e1 ⟨zs, hp, hl, g2, e2⟩
      have hlen : ys.length + zs.length = xs.length := by rw [← hp.length_eq, List.length_append]
      refine ⟨_, rfl, .inl ⟨rfl, _, SqL.of e2⟩, _, rfl, _, rfl, .inl ⟨l, zs, rfl, .inl (SqL.of e2), d, _, rfl, g2.dice, by omega, by omega, fun r H3 r0 r1 D3' k => ?_⟩⟩
      have hr' : r.toNat < zs.length := by omega
      have e2' : H3 l = some (.lst zs) := by rw [k l nld]; exact e2
      have e1' : H3 p = some (.lst ys) := by rw [k p npd]; exact e1
      have er := seqIndex_nat hr'
      rw [Int.toNat_of_nonneg r0] at er
      refine ⟨l, zs, r, r.toNat, zs[r.toNat], rfl, rfl, e2', by omega, by omega, er, List.getElem?_eq_getElem hr', ?_⟩
      refine LcK.mk hly (by omega) (by rw [upd_ne npl]; exact e1') ⟨zs.eraseIdx r.toNat, ?_, ?_, ?_, ?_⟩
      · rw [List.append_assoc]
        exact (List.Perm.append_left ys (perm_erase (List.getElem?_eq_getElem hr'))).trans hp
      · rw [List.length_append]
        show ys.length + 1 = i + 1
        omega
      · have g3 : Gr d H H3 := ⟨D3', fun b o nb e => by rw [k b nb]; exact g2.keep b o nb e⟩
        exact (g3.put nl nld).put npH npd
      · rw [upd_ne npl.symm, upd_same]
    · rintro ys H2 _ e1 ⟨zs, hp, hl, g2, e2⟩
      exact q ys p H2 ⟨zs, hp⟩ (by omega) g2 npH e1
end
end Eh
set_option Elab.async false
set_option linter.all false
set_option maxRecDepth 100000
namespace Eh
open PySem PySem.Spec PyProof.Rows L2
def uni6 : List Str := ["a", "b", "c", "fact", "zz", "d"]
def six6 : List Str := ["a", "b", "c", "fact", "no", "zz"]
theorem six_uni {z : Str} (h : z ∈ six6) (n : z ≠ "no") : z ∈ uni6 := by
  unfold six6 at h
  simp only [List.mem_cons, List.not_mem_nil, or_false] at h
  rcases h with rfl | rfl | rfl | rfl | rfl | rfl
  · decide +kernel
  · decide +kernel
  · decide +kernel
  · decide +kernel
  · exact absurd rfl n
  · decide +kernel
theorem abc_uni {z : Str} (h : z ∈ abc) : z ∈ uni6 := by
  unfold abc at h
  simp only [List.mem_cons, List.not_mem_nil, or_false] at h
  rcases h with rfl | rfl | rfl <;> decide +kernel
theorem cut3 (xs : List V) : cutV xs none (some 3) = xs.take 3 := by
  unfold cutV HT.sIx
  simp
section
variable {P : Program} {w : World} {K : PySem.W.Frag} {mg : Str → Option Value} {base : Heap}
def spPromise (K : PySem.W.Frag) : Sp := fun vs H Q _ => ∃ d, vs = [.ref d] ∧ D3 H d ∧ ∀ v pl ws H', Gr d H H' → At K H' v pl → ws.length ≤ 3 → (∀ z ∈ ws, z ∈ uni6) → InW ws (nodesOf pl) → (nodesOf pl).length ≤ 11 → countIn choiceKinds (nodesOf pl) ≤ 4 → Q v H'
theorem ok_promise {k : Nat} (hk : 3 ≤ k) {f fR fP fS fK fD : Addr} {fd fdR fdP fdS fdK fdD : FuncData} (F : Fun K "_law_promise" "_law_promise" s__law_promise f fd) (T : Txt mg) (C__law_roll : Cal P w K mg base 1 "_law_roll" fR fdR ["dice", "many"] spRoll)
    (C__law_pick : Cal P w K mg base 2 "_law_pick" fP fdP ["dice", "items"] (spPick K)) (C__law_some : Cal P w K mg base 2 "_law_some" fS fdS ["dice", "items", "size"] (spSome K))
    (C__law_known : Cal P w K mg base 3 "_law_known" fK fdK ["dice"] (spKnown K)) (C__law_drawn : Cal P w K mg base k "_law_drawn" fD fdD ["dice", "words", "most", "choices"] (spDrawn K 11)) : FnOk P w K mg base CX0 (k + 1) f fd ["dice"] (spPromise K) := by
  refine F.ok sc__law_promise (fun vs H Q E h => ?_) (fun cdv A outer s H vs Q E hr h => ?_)
  · obtain ⟨d, rfl, _⟩ := h
    rfl
  · obtain ⟨d, rfl, D, q⟩ := h
    have hr1 := hr.mono (j := 1) (by omega)
    have hr2 := hr.mono (j := 2) (by omega)
    have hr3 := hr.mono (j := 3) (by omega)
    refine ⟨_, (pss_cons (ps_if (pt_cmpR op_eq (pe_call C__law_roll.G hr1 (by rfl) C__law_roll.m C__law_roll.k C__law_roll.b .nil pass0 (pa_cons (pv 0) (pa_cons pe_int pa_nil))) pe_int (nomark _))
  (pss_one (ps_ret (pe_call C__law_known.G hr3 (by rfl) C__law_known.m C__law_known.k C__law_known.b .nil pass0 (pa_cons (pv 0) pa_nil))))
  pss_nil)
  (pss_cons (ps_set (i := 1) sc__law_promise.nd rfl (.inl rfl) (pe_call C__law_some.G hr2 (by rfl) C__law_some.m C__law_some.k C__law_some.b .nil pass0 (pa_cons (pv 0) (pa_cons (pe_lst (pa_cons pe_str (pa_cons pe_str (pa_cons pe_str (pa_cons pe_str (pa_cons pe_str (pa_cons pe_str pa_nil))))))) (pa_cons (pe_op op_add pe_int (pe_call C__law_roll.G hr1 (by rfl) C__law_roll.m C__law_roll.k C__law_roll.b .nil pass0 (pa_cons (pv 0) (pa_cons pe_int pa_nil)))) pa_nil)))))
  (pss_cons (ps_set (i := 1) sc__law_promise.nd rfl (.inl rfl) (pe_op op_cat (pe_lc (own := [("word", 2)]) (g := gName 2) (by rfl) sc__law_promise.nd (piL (K := K) rfl (pv 1)) (blkOk_by (by kernel_rfl)) (fun _ _ _ _ _ => (pg_name (i := 2) sc__law_promise.nd rfl (.inl rfl))) (fun _ _ _ _ _ => (pts_one (pt_cmpR op_ne (pv 2) pe_str (nomark _)))) (fun _ _ _ _ _ => (pv 2))) (pe_lst (pa_cons pe_str pa_nil))))
  (pss_one (ps_ret (pe_call C__law_drawn.G hr (by rfl) C__law_drawn.m C__law_drawn.k C__law_drawn.b .nil pass0 (pa_cons (pv 0) (pa_cons (pe_slice (slL (K := K) rfl) (pv 1) po_none (po_some pe_int)) (pa_cons (pe_call C__law_pick.G hr2 (by rfl) C__law_pick.m C__law_pick.k C__law_pick.b .nil pass0 (pa_cons (pv 0) (pa_cons (pe_lst (pa_cons pe_int (pa_cons pe_int (pa_cons pe_int (pa_cons pe_int (pa_cons pe_int pa_nil)))))) pa_nil))) (pa_cons (pe_call C__law_pick.G hr2 (by rfl) C__law_pick.m C__law_pick.k C__law_pick.b .nil pass0 (pa_cons (pv 0) (pa_cons (pe_lst (pa_cons pe_int (pa_cons pe_int (pa_cons pe_int (pa_cons pe_int (pa_cons pe_int pa_nil)))))) pa_nil))) pa_nil)))))))))), ?_⟩
    refine ⟨_, rfl, d, 6, rfl, D, by decide, by decide, fun r H1 r0 r1 D1 k1 => ?_⟩
    have g1 := off_gr (H := H) D1 k1
    refine ⟨rfl, _, rfl, ite2 (fun _ => ?_) (fun _ => ?_)⟩
    · exact ⟨_, rfl, d, rfl, D1, fun v pl H2 g2 A hw hl hc => q v pl abc H2 (g1.trans g2) A (by decide) (fun z hz => abc_uni hz) hw hl hc⟩
    refine ⟨_, rfl, lenOk 6, fun l1 n1 => ?_⟩
    have a1 := Gr.laid (o := .lst (six6.map V.str)) g1.dice n1
    refine ⟨_, rfl, d, 3, rfl, a1.dice, by decide, by decide, fun r2 H2 r20 r21 D2 k2 => ?_⟩
    have g2 := g1.trans (a1.trans (off_gr D2 k2))
    refine ⟨_, _, rfl, rfl, ?_⟩
    obtain ⟨n, en, hn⟩ : ∃ n : Nat, (1 : Int) + r2 = (n : Int) ∧ 1 ≤ n ∧ n ≤ 3 := ⟨(1 + r2).toNat, by omega, by omega, by omega⟩
    have nl1 : l1 ≠ d := g1.dice.ne n1
    refine ⟨d, l1, six6.map V.str, n, (by show [V.ref d, V.ref l1, V.int (1 + r2)] = _; rw [en]), D2, SqL.of (by rw [k2 l1 nl1]; exact upd_same), nl1, by decide, by omega, fun ys p H3 hys hyl g3 n3 e3 => ?_⟩
    have g4 := g2.trans g3
    have npd : p ≠ d := g2.dice.ne n3
    refine ⟨_, rfl, p, rfl, ⟨ys, SqL.of e3⟩, fun D0 nD => ?_⟩
    have a2 := Gr.laid (o := .lst []) g4.dice nD
    have nDd : D0 ≠ d := g4.dice.ne nD
    have nDH : H D0 = none := g4.free D nD
    have npD : p ≠ D0 := ne_of_none e3 nD
    have mem : ∀ y ∈ ys, ∃ z, y = V.str z ∧ z ∈ six6 := fun y hy => by
      obtain ⟨rest, hp⟩ := hys
      have := hp.mem_iff.mp (List.mem_append_left rest hy)
      obtain ⟨z, hz, rfl⟩ := List.mem_map.mp this
      exact ⟨z, rfl, hz⟩
    have hlen : ys.length ≤ 3 := by omega
    refine lcL (fun j acc H5 => Gr d H H5 ∧ H5 p = some (.lst ys) ∧ ∃ zs : List Str, acc = zs.map V.str ∧ ∀ z ∈ zs, z ∈ uni6) ⟨g4.trans a2, by rw [upd_ne npD]; exact e3, [], rfl, fun _ h => nomatch h⟩ (fun j acc H5 h => SqL.of h.2.1) ?_ ?_
    · rintro j x acc H5 hx hl2 e2 ⟨g5, e5, zs, rfl, hzs⟩
      obtain ⟨z, rfl, hz⟩ := mem x (List.mem_of_getElem? hx)
      have hj : j < 3 := by
        have := (List.getElem?_eq_some_iff.mp hx).1
        omega
      refine ⟨_, rfl, rfl, _, rfl, ?_⟩
      by_cases ez : V.str z = V.str "no"
      · rw [decide_eq_true ez]
        exact iteF ⟨_, by omega, e2, g5, e5, zs, rfl, hzs⟩
      · rw [decide_eq_false ez]
        refine iteT ⟨_, rfl, LcK.mk hl2 (by omega) e2 ⟨g5.put nDH nDd, by rw [upd_ne npD]; exact e5, zs ++ [z], by rw [List.map_append]; rfl, fun u hu => ?_⟩⟩
        rcases List.mem_append.mp hu with h | h
        · exact hzs u h
        · rw [List.mem_singleton.mp h]
          exact six_uni hz fun e => ez (by rw [e])
    · rintro acc H5 hl2 e2 ⟨g5, e5, zs, rfl, hzs⟩
      refine ⟨lenOk 1, fun l3 n5 => ?_⟩
      have a3 := Gr.laid (o := .lst [.str "d"]) g5.dice n5
      refine ⟨D0, l3, _, _, rfl, rfl, a3.keep _ _ nDd e2, upd_same, Nat.le_of_lt (small (by show _ + 1 < _; omega)), fun l4 n6 => ?_⟩
      rw [show zs.map V.str ++ [V.str "d"] = (zs ++ [("d" : Str)]).map V.str from by rw [List.map_append]; rfl]
      have a4 := Gr.laid (o := .lst ((zs ++ [("d" : Str)]).map V.str)) a3.dice n6
      have g6 := g5.trans (a3.trans a4)
      refine ⟨_, rfl, _, rfl, _, rfl, l4, _, rfl, SqL.of upd_same, fun l5 n7 => ?_⟩
      rw [cut3, ← List.map_take]
      obtain ⟨ws, ews⟩ : ∃ ws, ws = (zs ++ [("d" : Str)]).take 3 := ⟨_, rfl⟩
      rw [← ews]
      have hws : ∀ z ∈ ws, z ∈ uni6 := fun z hz => by
        rw [ews] at hz
        rcases List.mem_append.mp (List.mem_of_mem_take hz) with h | h
        · exact hzs z h
        · rw [List.mem_singleton.mp h]
          decide +kernel
      have hw3 : ws.length ≤ 3 := by rw [ews, List.length_take]; omega
      have hw0 : 0 < ws.length := by rw [ews, List.length_take, List.length_append]; show 0 < min 3 (_ + 1); omega
      have a5 := Gr.laid (o := .lst (ws.map V.str)) g6.dice n7
      have g7 := g6.trans a5
      have n5d : l5 ≠ d := g6.dice.ne n7
      refine ⟨_, rfl, lenOk 5, fun l6 n8 => ?_⟩
      have a6 := Gr.laid (o := .lst [.int 3, .int 5, .int 7, .int 9, .int 11]) g7.dice n8
      refine ⟨d, l6, _, rfl, a6.dice, SqL.of upd_same, g7.dice.ne n8, by decide, by decide, fun x H8 hx D8 k8 => ?_⟩
      have g8 := a6.trans (off_gr D8 k8)
      obtain ⟨most, rfl, m1, m2⟩ : ∃ most : Int, x = .int most ∧ 1 ≤ most ∧ most ≤ 11 := by
        simp only [List.mem_cons, List.not_mem_nil, or_false] at hx
        rcases hx with rfl | rfl | rfl | rfl | rfl <;> exact ⟨_, rfl, by decide, by decide⟩
      refine ⟨_, rfl, lenOk 5, fun l7 n9 => ?_⟩
      have a7 := Gr.laid (o := .lst [.int 1, .int 2, .int 2, .int 3, .int 4]) g8.dice n9
      refine ⟨d, l7, _, rfl, a7.dice, SqL.of upd_same, g8.dice.ne n9, by decide, by decide, fun x H9 hx D9 k9 => ?_⟩
      have g9 := g8.trans (a7.trans (off_gr D9 k9))
      obtain ⟨ch, rfl, c1, c2⟩ : ∃ ch : Int, x = .int ch ∧ 0 ≤ ch ∧ ch ≤ 4 := by
        simp only [List.mem_cons, List.not_mem_nil, or_false] at hx
        rcases hx with rfl | rfl | rfl | rfl | rfl <;> exact ⟨_, rfl, by decide, by decide⟩
      refine ⟨d, l5, ws, most, ch, rfl, D9, SqL.of (g9.keep _ _ n5d upd_same), n5d, hw0, by omega, m1, by omega, by decide, c1, by omega, fun v pl H10 g10 A hw hl hc => ?_⟩
      exact q v pl ws H10 (g7.trans (g9.trans g10)) A hw3 hws hw (by omega) (by omega)
end
end Eh
set_option Elab.async false
set_option linter.all false
set_option maxRecDepth 100000
namespace Eh
open PySem PySem.Spec PyProof.Rows L2
def low (c : Nat) : Bool := decide (97 ≤ c ∧ c ≤ 122)
def factS (z : Str) : Bool := decide (1 ≤ z.length ∧ z.length ≤ 8) && !(decide (z = "yes")) && !(decide (z = "no")) && z.cps.toList.all low
def factV : V → Bool
  | .str z => factS z
  | _ => false
/-- a value whose type is known and is not str, or a text -/
def Asc (z : Str) : Prop := z.length < 1000000 ∧ ∀ c ∈ z.cps.toList, c < 128
def Kind (K : PySem.W.Frag) (H : Hp) (v : V) : Prop := (∃ z : Str, v = .str z ∧ Asc z) ∨ ((∀ z, v ≠ .str z) ∧ ∃ t, TyX K H v t ∧ PySem.W.kitOne K t (.type "str") = some false)
section
variable {P : Program} {w : World} {K : PySem.W.Frag} {mg : Str → Option Value} {base : Heap}
def spFact (K : PySem.W.Frag) : Sp := fun vs H Q _ => ∃ v, vs = [v] ∧ Kind K H v ∧ ∀ H', Same H H' → Q (.bl (factV v)) H'
theorem kitStr {K : PySem.W.Frag} : PySem.W.kitOne K (.type "str") (.type "str") = some true := kit_ty (by decide +kernel)
theorem le_sign (c : Nat) : (!decide ((⟨#[c]⟩ : Str).cps.toList < ("a" : Str).cps.toList)) = decide (97 ≤ c) := by
  show (!decide ([c] < [97])) = decide (97 ≤ c)
  have e : ([c] < [97]) ↔ c < 97 := by
    constructor
    · intro h
      cases h with
      | rel h => exact h
      | cons h => cases h
    · intro h
      exact List.Lex.rel h
  rw [decide_eq_decide.mpr e]
  by_cases h : c < 97
  · rw [decide_eq_true h, decide_eq_false (by omega)]
    rfl
  · rw [decide_eq_false h, decide_eq_true (by omega)]
    rfl
theorem ge_sign (c : Nat) : (!decide (("z" : Str).cps.toList < (⟨#[c]⟩ : Str).cps.toList)) = decide (c ≤ 122) := by
  show (!decide ([122] < [c])) = decide (c ≤ 122)
  have e : ([122] < [c]) ↔ 122 < c := by
    constructor
    · intro h
      cases h with
      | rel h => exact h
      | cons h => cases h
    · intro h
      exact List.Lex.rel h
  rw [decide_eq_decide.mpr e]
  by_cases h : 122 < c
  · rw [decide_eq_true h, decide_eq_false (by omega)]
    rfl
  · rw [decide_eq_false h, decide_eq_true (by omega)]
    rfl
theorem sbeq (a b : Str) : (a == b) = decide (a = b) := by rw [Bool.eq_iff_iff, beq_iff_eq, decide_eq_true_iff]
theorem yesno (z : Str) : inV (.str z) [.str "yes", .str "no"] = (decide (("yes" : Str) = z) || decide (("no" : Str) = z)) := by
  show (("yes" : Str) == z || (("no" : Str) == z || false)) = _
  rw [Bool.or_false, sbeq, sbeq]
def rNi (K : PySem.W.Frag) : R2 := fun x y H Q => ∃ p xs, y = .ref p ∧ (SqL K H p xs ∨ SqT K H p xs) ∧ flatV x = true ∧ xs.all flatV = true ∧ ∀ b, inV x xs = b → Q (.bl (!b)) H
theorem niB {X : Cx} (h : X.K = K) : OpR X (compareOp .NotIn) (rNi K) := by
  subst h
  intro pins s σ H x y v u Q I rx ry h
  obtain ⟨p, xs, e1, e2, e3, e4, q⟩ := h
  exact op_notIn_seq pins s σ H x y v u Q I rx ry ⟨p, xs, e1, e2, e3, e4, q _ rfl⟩
theorem all_take {α : Type} {f : α → Bool} {l : List α} {j : Nat} {c : α} (h : l[j]? = some c) : (l.take (j + 1)).map f = (l.take j).map f ++ [f c] := by
  rw [List.take_add_one, h, List.map_append]
  rfl
theorem ok_is_fact {f : Addr} {fd : FuncData} (F : Fun K "is_fact" "is_fact" s_is_fact f fd) (T : Txt mg) (c8 : ∃ t, mg "MAX_LETTERS" = some (.int 8 t)) : FnOk P w K mg base CX0 1 f fd ["value"] (spFact K) := by
  obtain ⟨t8, e8⟩ := c8
  refine F.ok sc_is_fact (fun vs H Q E h => ?_) (fun cdv A outer s H vs Q E hr h => ?_)
  · obtain ⟨v, rfl, _⟩ := h
    rfl
  · obtain ⟨v, rfl, hk, q⟩ := h
    refine ⟨_, (pss_cons (ps_if (PW.pt (pw_or (pt_not (pt_val (pe_callB (isiQ (K := K) rfl) (by rfl) T.isinstance_ (by decide +kernel) (pa_cons (pv 0) (pa_cons (pe_bltn (v := .ty "str") (by rfl) T.str_ (by decide +kernel) rfl) pa_nil))))) (pw_or1 (pt_not (pt_chain op_le op_le pe_int (pe_callB (lenQ (K := K) rfl) (by rfl) T.len_ (by decide +kernel) (pa_cons (pv 0) pa_nil)) (pe_glob (v := .int 8) rfl e8 ⟨_, rfl⟩))))))
  (pss_one (ps_ret pe_bl))
  pss_nil)
  (pss_one (ps_ret (pe_and (pe_cmpR (niB (K := K) rfl) (pv 0) (pe_tup (pa_cons pe_str (pa_cons pe_str pa_nil))) (by rfl)) (pe_one (pe_callB (allQ (K := K) rfl (by rfl)) (by rfl) T.all_ (by decide +kernel) (pa_cons (pe_lc (own := [("letter", 1)]) (g := gName 1) (by rfl) sc_is_fact.nd (pi_str (pv 0)) (blkOk_by (by kernel_rfl)) (fun _ _ _ _ _ => (pg_name (i := 1) sc_is_fact.nd rfl (.inl rfl))) (fun _ _ _ _ _ => pts_nil) (fun _ _ _ _ _ => (pe_chain op_le_str op_le_str pe_str (pv 1) pe_str))) pa_nil))))))), ?_⟩
    rcases hk with ⟨z, rfl, hz, _⟩ | ⟨hn, t, ty, ek⟩
    · refine ⟨_, rfl, .str z, .ty "str", .type "str", .type "str", true, rfl, .ty _, .base (.str z), kitStr, _, rfl, iteF ?_⟩
      refine ⟨_, rfl, .inr ⟨z, rfl, Nat.le_of_lt (small hz), 1, _, rfl, rfl, _, rfl, ite2 (fun h1 => ?_) (fun h1 => ?_)⟩⟩
      · refine ⟨_, 8, rfl, rfl, _, rfl, ?_⟩
        have h1' : (1 : Int) ≤ z.length := of_decide_eq_true h1
        by_cases h8 : (z.length : Int) ≤ 8
        · rw [decide_eq_true h8]
          refine iteF ?_
          refine ⟨_, rfl, lenOk 2, fun t nt => ⟨t, _, rfl, .inr (SqT.of upd_same), rfl, rfl, fun b hb => ⟨_, rfl, ?_⟩⟩⟩
          have s1 : Same H (upd H t (.tup [.str "yes", .str "no"])) := same_new nt
          rw [yesno] at hb
          cases b with
          | true =>
            refine iteF ?_
            have e : factV (.str z) = false := by
              show factS z = false
              unfold factS
              rcases (Bool.or_eq_true _ _).mp hb with h | h
              · rw [← of_decide_eq_true h]; rfl
              · rw [← of_decide_eq_true h]; rfl
            have q' := q _ s1
            rw [e] at q'
            exact q'
          | false =>
            refine iteT ?_
            obtain ⟨hb1, hb2⟩ := (Bool.or_eq_false_iff).mp hb
            refine ⟨_, rfl, z, rfl, fun D nD => ?_⟩
            have s2 := s1.trans (same_new (o := .lst []) nD)
            have nD1 : H D = none := s1.free nD
            refine lcS (fun j acc H2 => Same H H2 ∧ acc = ((z.cps.toList.take j).map low).map V.bl) ⟨s2, rfl⟩ ?_ ?_
            · rintro j c acc H2 hc hl e ⟨s3, ea⟩
              refine yesT ?_
              refine ⟨_, rfl, "a", _, rfl, rfl, _, rfl, ?_⟩
              rw [le_sign]
              have hj : j < 1000000 := by
                have := (Array.getElem?_eq_some_iff.mp hc).1
                have e2 : z.cps.size = z.length := rfl
                omega
              have fin : ∀ H4 b, H4 = H2 → b = low c → LcK (fun j acc H2 => Same H H2 ∧ acc = ((z.cps.toList.take j).map low).map V.bl) D j (.bl b) H4 := by
                rintro _ _ rfl rfl
                refine LcK.mk hl hj e ⟨fun b o eb => ?_, ?_⟩
                · rw [upd_ne (ne_of_none eb nD1)]
                  exact s3 b o eb
                · rw [ea, all_take (by rw [Array.getElem?_toList]; exact hc), List.map_append]
                  rfl
              refine ite2 (fun h1 => ?_) (fun h1 => ?_)
              · refine ⟨_, "z", rfl, rfl, ?_⟩
                rw [ge_sign]
                refine fin _ _ rfl ?_
                have h1' := of_decide_eq_true h1
                unfold low
                exact decide_eq_decide.mpr ⟨fun h => ⟨h1', h⟩, fun h => h.2⟩
              · refine fin _ _ rfl ?_
                have h1' : ¬ (97 ≤ c) := fun h => h1 (decide_eq_true h)
                unfold low
                exact (decide_eq_false (fun h => h1' h.1)).symm
            · rintro acc H2 hl e ⟨s3, ea⟩
              refine ⟨D, _, rfl, SqL.of (e.trans (by rw [ea])), ?_⟩
              have e2 : factV (.str z) = ((z.cps.toList.take z.cps.size).map low).all id := by
                show factS z = _
                unfold factS
                rw [decide_eq_true (show 1 ≤ z.length ∧ z.length ≤ 8 from ⟨by omega, by omega⟩), decide_eq_false (fun h => of_decide_eq_false hb1 h.symm), decide_eq_false (fun h => of_decide_eq_false hb2 h.symm)]
                rw [List.take_of_length_le (by rw [Array.length_toList]; exact Nat.le_refl _), List.all_map]
                rfl
              have q' := q _ s3
              rw [e2] at q'
              exact q'
        · rw [decide_eq_false h8]
          refine iteT ?_
          have e : factV (.str z) = false := by
            show factS z = false
            unfold factS
            rw [decide_eq_false (fun h => h8 (by omega))]
            rfl
          have q' := q _ (Same.refl H)
          rw [e] at q'
          exact q'
      · refine ⟨_, rfl, iteT ?_⟩
        have e : factV (.str z) = false := by
          show factS z = false
          unfold factS
          rw [decide_eq_false (fun h => h1 (decide_eq_true (by omega)))]
          rfl
        have q' := q _ (Same.refl H)
        rw [e] at q'
        exact q'
    · refine ⟨_, rfl, v, .ty "str", t, .type "str", false, rfl, .ty _, ty, ek, _, rfl, iteT ?_⟩
      have e : factV v = false := by
        cases v with
        | str z => exact absurd rfl (hn z)
        | _ => rfl
      have q' := q _ (Same.refl H)
      rw [e] at q'
      exact q'
end
def intV : V → Bool
  | .int i => decide ((if i < 0 then -i else i) < 10 ^ (60 : Int).toNat)
  | _ => false
def KindI (K : PySem.W.Frag) (H : Hp) (v : V) : Prop := (∃ i, v = .int i) ∨ (∃ b, v = .bl b) ∨ ((∀ i, v ≠ .int i) ∧ ∃ t, TyX K H v t ∧ PySem.W.kitOne K t (.type "int") = some false)
section
variable {P : Program} {w : World} {K : PySem.W.Frag} {mg : Str → Option Value} {base : Heap}
def spInteger (K : PySem.W.Frag) : Sp := fun vs H Q _ => ∃ v, vs = [v] ∧ KindI K H v ∧ Q (.bl (intV v)) H
theorem kitII {K : PySem.W.Frag} : PySem.W.kitOne K (.type "int") (.type "int") = some true := kit_ty (by decide +kernel)
theorem kitIB {K : PySem.W.Frag} : PySem.W.kitOne K (.type "int") (.type "bool") = some false := kit_ty (by decide +kernel)
theorem kitBI {K : PySem.W.Frag} : PySem.W.kitOne K (.type "bool") (.type "int") = some true := kit_ty (by decide +kernel)
theorem kitBB {K : PySem.W.Frag} : PySem.W.kitOne K (.type "bool") (.type "bool") = some true := kit_ty (by decide +kernel)
theorem ok_is_integer {f : Addr} {fd : FuncData} (F : Fun K "is_integer" "is_integer" s_is_integer f fd) (T : Txt mg) : FnOk P w K mg base CX0 1 f fd ["value"] (spInteger K) := by
  refine F.ok sc_is_integer (fun vs H Q E h => ?_) (fun cdv A outer s H vs Q E hr h => ?_)
  · obtain ⟨v, rfl, _⟩ := h
    rfl
  · obtain ⟨v, rfl, hk, q⟩ := h
    refine ⟨_, (pss_cons (ps_if (PW.pt (pw_or (pt_not (pt_val (pe_callB (isiQ (K := K) rfl) (by rfl) T.isinstance_ (by decide +kernel) (pa_cons (pv 0) (pa_cons (pe_bltn (v := .ty "int") (by rfl) T.int_ (by decide +kernel) rfl) pa_nil))))) (pw_or1 (pt_val (pe_callB (isiQ (K := K) rfl) (by rfl) T.isinstance_ (by decide +kernel) (pa_cons (pv 0) (pa_cons (pe_bltn (v := .ty "bool") (by rfl) T.bool_ (by decide +kernel) rfl) pa_nil)))))))
  (pss_one (ps_ret pe_bl))
  pss_nil)
  (pss_one (ps_ret (pe_cmpR op_lt (pe_callB call_abs (by rfl) T.abs_ (by decide +kernel) (pa_cons (pv 0) pa_nil)) (pe_op op_pow pe_int pe_int) (nomark _))))), ?_⟩
    rcases hk with ⟨i, rfl⟩ | ⟨b, rfl⟩ | ⟨hn, t, ty, ek⟩
    · refine ⟨_, rfl, .int i, .ty "int", .type "int", .type "int", true, rfl, .ty _, .base (.int i), kitII, _, rfl, iteF ?_⟩
      refine ⟨_, rfl, .int i, .ty "bool", .type "int", .type "bool", false, rfl, .ty _, .base (.int i), kitIB, _, rfl, iteF ?_⟩
      exact ⟨_, rfl, i, rfl, _, _, rfl, rfl, p60, _, _, rfl, rfl, q⟩
    · refine ⟨_, rfl, .bl b, .ty "int", .type "bool", .type "int", true, rfl, .ty _, .base (.bl b), kitBI, _, rfl, iteF ?_⟩
      exact ⟨_, rfl, .bl b, .ty "bool", .type "bool", .type "bool", true, rfl, .ty _, .base (.bl b), kitBB, _, rfl, iteT q⟩
    · refine ⟨_, rfl, v, .ty "int", t, .type "int", false, rfl, .ty _, ty, ek, _, rfl, iteT ?_⟩
      have e : intV v = false := by
        cases v with
        | int i => exact absurd rfl (hn i)
        | _ => rfl
      rw [e] at q
      exact q
end
end Eh
set_option Elab.async false
set_option linter.all false
set_option maxRecDepth 100000
namespace Eh
open PySem PySem.Spec PyProof.Rows L2
def Elt (K : PySem.W.Frag) (H : Hp) (v : V) : Prop := (∃ z, v = .str z ∧ Asc z) ∨ (∃ i, v = .int i) ∨ (∃ b, v = .bl b) ∨ v = .non ∨ ∃ a xs, v = .ref a ∧ SqT K H a xs
theorem ty_tup {K : PySem.W.Frag} {H : Hp} {a : Addr} {xs : List V} (h : SqT K H a xs) : TyX K H (.ref a) (.type "tuple") := by
  rcases h with (h | ⟨o, h⟩) | ⟨o, its, n, h, c, _⟩
  · exact .base (.tup h)
  · exact .fTuple h
  · exact .kTuple h c
theorem Elt.tk {K : PySem.W.Frag} {H H' : Hp} {v : V} (h : Elt K H v) (t : Tk H H') : Elt K H' v := by
  rcases h with h | h | h | h | ⟨a, xs, e, h⟩
  · exact .inl h
  · exact .inr (.inl h)
  · exact .inr (.inr (.inl h))
  · exact .inr (.inr (.inr (.inl h)))
  · exact .inr (.inr (.inr (.inr ⟨a, xs, e, t.seq h⟩)))
theorem Elt.kind {K : PySem.W.Frag} {H : Hp} {v : V} (h : Elt K H v) : Kind K H v := by
  rcases h with h | ⟨i, rfl⟩ | ⟨b, rfl⟩ | rfl | ⟨a, xs, rfl, h⟩
  · exact .inl h
  · exact .inr ⟨fun z e => (nomatch e), _, .base (.int i), kit_ty (by decide +kernel)⟩
  · exact .inr ⟨fun z e => (nomatch e), _, .base (.bl b), kit_ty (by decide +kernel)⟩
  · exact .inr ⟨fun z e => (nomatch e), _, .base .non, kit_ty (by decide +kernel)⟩
  · exact .inr ⟨fun z e => (nomatch e), _, ty_tup h, kit_ty (by decide +kernel)⟩
theorem Elt.kindI {K : PySem.W.Frag} {H : Hp} {v : V} (h : Elt K H v) : KindI K H v := by
  rcases h with ⟨z, rfl, _⟩ | ⟨i, rfl⟩ | ⟨b, rfl⟩ | rfl | ⟨a, xs, rfl, h⟩
  · exact .inr (.inr ⟨fun i e => (nomatch e), _, .base (.str z), kit_ty (by decide +kernel)⟩)
  · exact .inl ⟨i, rfl⟩
  · exact .inr (.inl ⟨b, rfl⟩)
  · exact .inr (.inr ⟨fun i e => (nomatch e), _, .base .non, kit_ty (by decide +kernel)⟩)
  · exact .inr (.inr ⟨fun i e => (nomatch e), _, ty_tup h, kit_ty (by decide +kernel)⟩)
def factKinds : List Str := ["fact", "not"]
def sureKinds : List Str := ["yes", "no"]
def zeroV : V → Bool
  | .int i => decide (i = 0)
  | _ => false
def fewV : V → Bool
  | .int i => decide (2 ≤ i) && decide (i ≤ 4)
  | _ => false
/-- whether a text and a value are a node -/
def nodeAB (k : Str) (b : V) : Bool :=
  if factKinds.contains k then factV b
  else if sureKinds.contains k then zeroV b
  else nodeKinds.contains k && fewV b
def pairNd (a b : V) : Option (Str × V) := match a with
  | .str k => if nodeAB k b = true then some (k, b) else none
  | _ => none
/-- the tuples stay, lists stay lists, dicts stay -/
structure Ku (H H' : Hp) : Prop where
  tk : Tk H H'
  ls : ∀ a xs, H a = some (.lst xs) → ∃ ys, H' a = some (.lst ys)
  dk : ∀ a kvs, H a = some (.dK kvs) → H' a = some (.dK kvs)
theorem ku_same {H H' : Hp} (s : Same H H') : Ku H H' := ⟨stk s, fun a xs e => ⟨xs, s _ _ e⟩, fun a kvs e => s _ _ e⟩
theorem Ku.trans {H H1 H2 : Hp} (a : Ku H H1) (b : Ku H1 H2) : Ku H H2 := ⟨a.tk.trans b.tk, fun p xs e => (a.ls p xs e).elim fun ys e => b.ls p ys e, fun p kvs e => b.dk _ _ (a.dk _ _ e)⟩
theorem Gr.ku {d : Addr} {H H' : Hp} (g : Gr d H H') (D : D3 H d) : Ku H H' := by
  refine ⟨g.tk D, fun a xs e => ?_, fun a kvs e => ?_⟩
  · by_cases z : a = d
    · obtain ⟨x, b, c, e'⟩ := g.dice
      exact ⟨_, by rw [z]; exact e'⟩
    · exact ⟨xs, g.keep a _ z e⟩
  · obtain ⟨x, b, c, e'⟩ := D
    exact g.keep a _ (fun z => by rw [z, e'] at e; cases e) e
theorem Ku.put {H : Hp} {l : Addr} {xs ys : List V} (e : H l = some (.lst xs)) : Ku H (upd H l (.lst ys)) := by
  refine ⟨Tk.put e, fun a zs h => ?_, fun a kvs h => ?_⟩
  · by_cases z : a = l
    · exact ⟨ys, by rw [z]; exact upd_same⟩
    · exact ⟨zs, by rw [upd_ne z]; exact h⟩
  · rw [upd_ne (fun z => by rw [z, e] at h; cases h)]
    exact h
/-- a value that is no tuple -/
def NoT (H : Hp) (v : V) : Prop := (∃ z, v = .str z) ∨ (∃ i, v = .int i) ∨ (∃ b, v = .bl b) ∨ v = .non ∨ (∃ a xs, v = .ref a ∧ H a = some (.lst xs)) ∨ ∃ a kvs, v = .ref a ∧ H a = some (.dK kvs)
theorem NoT.ku {H H' : Hp} {v : V} (h : NoT H v) (k : Ku H H') : NoT H' v := by
  rcases h with h | h | h | h | ⟨a, xs, e, h⟩ | ⟨a, kvs, e, h⟩
  · exact .inl h
  · exact .inr (.inl h)
  · exact .inr (.inr (.inl h))
  · exact .inr (.inr (.inr (.inl h)))
  · obtain ⟨ys, h⟩ := k.ls _ _ h
    exact .inr (.inr (.inr (.inr (.inl ⟨a, ys, e, h⟩))))
  · exact .inr (.inr (.inr (.inr (.inr ⟨a, kvs, e, k.dk _ _ h⟩))))
theorem NoT.ty {K : PySem.W.Frag} {H : Hp} {v : V} (h : NoT H v) : ∃ u, TyX K H v u ∧ PySem.W.kitOne K u (.type "tuple") = some false := by
  rcases h with ⟨z, rfl⟩ | ⟨i, rfl⟩ | ⟨b, rfl⟩ | rfl | ⟨a, xs, rfl, h⟩ | ⟨a, kvs, rfl, h⟩
  · exact ⟨_, .base (.str z), kit_ty (by decide +kernel)⟩
  · exact ⟨_, .base (.int i), kit_ty (by decide +kernel)⟩
  · exact ⟨_, .base (.bl b), kit_ty (by decide +kernel)⟩
  · exact ⟨_, .base .non, kit_ty (by decide +kernel)⟩
  · exact ⟨_, .base (.lst h), kit_ty (by decide +kernel)⟩
  · exact ⟨_, .base (.dK h), kit_ty (by decide +kernel)⟩
inductive NdV (K : PySem.W.Frag) (H : Hp) : V → Option (Str × V) → Prop
  | other {v : V} : NoT H v → NdV K H v none
  | tup {p : Addr} {xs : List V} : SqT K H p xs → xs.length ≠ 2 → xs.length < 1000000 → NdV K H (.ref p) none
  | pair {p : Addr} {a b : V} : SqT K H p [a, b] → Elt K H a → Elt K H b → NdV K H (.ref p) (pairNd a b)
theorem NdV.ku {K : PySem.W.Frag} {H H' : Hp} {v : V} {n : Option (Str × V)} (h : NdV K H v n) (k : Ku H H') : NdV K H' v n := by
  cases h with
  | other t => exact .other (t.ku k)
  | tup h n l => exact .tup (k.tk.seq h) n l
  | pair h a b => exact .pair (k.tk.seq h) (a.tk k.tk) (b.tk k.tk)
structure SignsAt (K : PySem.W.Frag) (w : World) (mg : Str → Option Value) (p : Addr) : Prop where
  g : mg "SIGNS" = some (.ref p)
  d : ∃ es n, KDict K w p es n ∧ ∀ z, ∃ r, PySem.W.nsIn K p z = some r ∧ r.isSome = nodeKinds.contains z
theorem signs_mk {K : PySem.W.Frag} {w : World} {mg : Str → Option Value} {p : Addr} {n : Nat} {h1 h2 h3 h4 : Int} {t1 t2 t3 t4 : Tok} {v1 v2 v3 v4 : Value} (g : mg "SIGNS" = some (.ref p))
    (l : K.lookup p = some ⟨.type "dict", none, .dict #[⟨h1, .str "all" t1, v1⟩, ⟨h2, .str "mine" t2, v2⟩, ⟨h3, .str "some" t3, v3⟩, ⟨h4, .str "yours" t4, v4⟩] n, #[]⟩)
    (hh : PySem.W.KeysLit w.params [⟨h1, .str "all" t1, v1⟩, ⟨h2, .str "mine" t2, v2⟩, ⟨h3, .str "some" t3, v3⟩, ⟨h4, .str "yours" t4, v4⟩]) (low : (p == sysModules) = false) : SignsAt K w mg p := by
  refine ⟨g, _, n, ⟨l, hh, low⟩, fun z => ?_⟩
  have c : nodeKinds.contains z = (("all" : Str) == z || (("some" : Str) == z || (("mine" : Str) == z || (("yours" : Str) == z || false)))) := (inV_strs z nodeKinds).symm
  rw [c]
  unfold PySem.W.nsIn
  rw [l]
  show ∃ r, (match List.find? (fun x => x.key.isStr z) [(⟨h1, .str "all" t1, v1⟩ : DictEntry), ⟨h2, .str "mine" t2, v2⟩, ⟨h3, .str "some" t3, v3⟩, ⟨h4, .str "yours" t4, v4⟩] with
          | some e => some (some e.val)
          | none => if (List.any [(⟨h1, .str "all" t1, v1⟩ : DictEntry), ⟨h2, .str "mine" t2, v2⟩, ⟨h3, .str "some" t3, v3⟩, ⟨h4, .str "yours" t4, v4⟩] fun x => x.refKey) = true then none else some none) = some r ∧ _
  have i (x : Str) (t : Tok) : (Value.str x t).isStr z = (x == z) := rfl
  cases e1 : (("all" : Str) == z) with
  | true => exact ⟨some v1, by simp only [List.find?_cons, i, e1], rfl⟩
  | false =>
    cases e2 : (("mine" : Str) == z) with
    | true => exact ⟨some v2, by simp only [List.find?_cons, i, e1, e2], by simp⟩
    | false =>
      cases e3 : (("some" : Str) == z) with
      | true => exact ⟨some v3, by simp only [List.find?_cons, i, e1, e2, e3], by simp⟩
      | false =>
        cases e4 : (("yours" : Str) == z) with
        | true => exact ⟨some v4, by simp only [List.find?_cons, i, e1, e2, e3, e4], by simp⟩
        | false => exact ⟨none, by simp only [List.find?_cons, i, e1, e2, e3, e4, List.find?_nil]; rfl, by simp⟩
section
variable {P : Program} {w : World} {K : PySem.W.Frag} {mg : Str → Option Value} {base : Heap}
def rInKd (p : Addr) : R2 := fun x y H Q => ∃ z : Str, x = .str z ∧ y = .ref p ∧ Q (.bl (nodeKinds.contains z)) H
theorem inKd {X : Cx} {p : Addr} (S : SignsAt K w mg p) (h : X.K = K) (hw : X.w = w) : OpR X (compareOp .In) (rInKd p) := by
  subst h hw
  obtain ⟨es, n, D, hz⟩ := S.d
  intro pins s σ H x y v u Q I rx ry ⟨z, e1, e2, q⟩
  obtain ⟨r, hr, hs⟩ := hz z
  exact op_in_kd D pins s σ H x y v u Q I rx ry ⟨z, r, e1, e2, hr, by rw [hs]; exact q⟩
def spIsNode (K : PySem.W.Frag) : Sp := fun vs H Q _ => ∃ v nd, vs = [v] ∧ NdV K H v nd ∧ ∀ H', Same H H' → Q (.bl nd.isSome) H'
theorem neSelf {A B : Prop} {v : V} (h : B) : if (!decide (v = v)) = true then A else B := by
  rw [decide_eq_true rfl]
  exact iteF h
theorem kitTT {K : PySem.W.Frag} : PySem.W.kitOne K (.type "tuple") (.type "tuple") = some true := kit_ty (by decide +kernel)
theorem intZ {i : Int} (h : i = 0) : intV (.int i) = true := by
  subst h
  decide +kernel
theorem intS {i : Int} (h : 2 ≤ i ∧ i ≤ 4) : intV (.int i) = true := by
  show decide _ = true
  rw [decide_eq_true_iff, show (10 : Int) ^ (60 : Int).toNat = 10 ^ 60 from rfl]
  split <;> omega
theorem elt_str {K : PySem.W.Frag} {H : Hp} {v : V} (h : Elt K H v) : (∃ z, v = .str z) ∨ ((∀ z, v ≠ .str z) ∧ ∃ t, TyX K H v t ∧ PySem.W.kitOne K t (.type "str") = some false) :=
  h.kind.imp (fun ⟨z, e, _⟩ => ⟨z, e⟩) id
theorem ok_is_node {fF fI p f : Addr} {fdF fdI fd : FuncData} (F : Fun K "is_node" "is_node" s_is_node f fd) (T : Txt mg) (S : SignsAt K w mg p) (c2 : ∃ t, mg "LEAST_PARTS" = some (.int 2 t)) (c4 : ∃ t, mg "MOST_PARTS" = some (.int 4 t))
    (C_is_fact : Cal P w K mg base 1 "is_fact" fF fdF ["value"] (spFact K)) (C_is_integer : Cal P w K mg base 1 "is_integer" fI fdI ["value"] (spInteger K)) : FnOk P w K mg base CX0 2 f fd ["value"] (spIsNode K) := by
  obtain ⟨t2, e2⟩ := c2
  obtain ⟨t4, e4⟩ := c4
  refine F.ok sc_is_node (fun vs H Q E h => ?_) (fun cdv A outer s H vs Q E hr h => ?_)
  · obtain ⟨v, nd, rfl, _⟩ := h
    rfl
  · obtain ⟨v, nd, rfl, hv, q⟩ := h
    refine ⟨_, (pss_cons (ps_if (PW.pt (pw_or (pt_not (pt_val (pe_callB (isiQ (K := K) rfl) (by rfl) T.isinstance_ (by decide +kernel) (pa_cons (pv 0) (pa_cons (pe_bltn (v := .ty "tuple") (by rfl) T.tuple_ (by decide +kernel) rfl) pa_nil))))) (pw_or1 (pt_cmpR op_ne (pe_callB (lenQ (K := K) rfl) (by rfl) T.len_ (by decide +kernel) (pa_cons (pv 0) pa_nil)) pe_int (nomark _)))))
  (pss_one (ps_ret pe_bl))
  pss_nil)
  (pss_cons (ps_asg (pv 0) (pg_tup (by rfl) (pgs_cons (pg_name (i := 1) sc_is_node.nd rfl (.inl rfl)) (pgs_cons (pg_name (i := 2) sc_is_node.nd rfl (.inl rfl)) pgs_nil))))
  (pss_cons (ps_if (pt_not (pt_val (pe_callB (isiQ (K := K) rfl) (by rfl) T.isinstance_ (by decide +kernel) (pa_cons (pv 1) (pa_cons (pe_bltn (v := .ty "str") (by rfl) T.str_ (by decide +kernel) rfl) pa_nil)))))
  (pss_one (ps_ret pe_bl))
  pss_nil)
  (pss_cons (ps_if (pt_cmpR (inQ (K := K) rfl) (pv 1) (pe_tup (pa_cons pe_str (pa_cons pe_str pa_nil))) (by rfl))
  (pss_one (ps_ret (pe_call C_is_fact.G hr (by rfl) C_is_fact.m C_is_fact.k C_is_fact.b .nil pass0 (pa_cons (pv 2) pa_nil))))
  pss_nil)
  (pss_cons (ps_if (pt_cmpR (inQ (K := K) rfl) (pv 1) (pe_tup (pa_cons pe_str (pa_cons pe_str pa_nil))) (by rfl))
  (pss_one (ps_ret (pe_and (pe_call C_is_integer.G hr (by rfl) C_is_integer.m C_is_integer.k C_is_integer.b .nil pass0 (pa_cons (pv 2) pa_nil)) (pe_one (pe_cmpR op_eq (pv 2) pe_int (nomark _))))))
  pss_nil)
  (pss_one (ps_ret (pe_and (pe_cmpR (inKd S rfl rfl) (pv 1) (pe_glob (v := .ref p) rfl S.g rfl) (by rfl)) (pe_and (pe_call C_is_integer.G hr (by rfl) C_is_integer.m C_is_integer.k C_is_integer.b .nil pass0 (pa_cons (pv 2) pa_nil)) (pe_one (pe_chain op_le op_le (pe_glob (v := .int 2) rfl e2 ⟨_, rfl⟩) (pv 2) (pe_glob (v := .int 4) rfl e4 ⟨_, rfl⟩)))))))))))), ?_⟩
    cases hv with
    | other hno =>
      obtain ⟨u, ty, hk⟩ := hno.ty (K := K)
      exact ⟨_, rfl, v, .ty "tuple", _, .type "tuple", false, rfl, .ty _, ty, hk, _, rfl, iteT (q _ (Same.refl H))⟩
    | tup hs hn hl =>
      rename_i p0 xs
      refine ⟨_, rfl, .ref p0, .ty "tuple", _, .type "tuple", true, rfl, .ty _, ty_tup hs, kitTT, _, rfl, iteF ⟨_, rfl, .inl ⟨p0, xs, rfl, .inr hs, ?_⟩⟩⟩
      refine ⟨rfl, _, rfl, ?_⟩
      rw [decide_eq_false (fun e => hn (by injection e with e; omega))]
      exact iteT (q _ (Same.refl H))
    | pair hs ha hb =>
      rename_i p0 a b
      refine ⟨_, rfl, .ref p0, .ty "tuple", _, .type "tuple", true, rfl, .ty _, ty_tup hs, kitTT, _, rfl, iteF ⟨_, rfl, .inl ⟨p0, _, rfl, .inr hs, ?_⟩⟩⟩
      refine ⟨rfl, _, rfl, neSelf ?_⟩
      refine ⟨_, rfl, p0, _, rfl, hs, rfl, _, _, rfl, _, _, rfl, rfl, ?_⟩
      rcases elt_str ha with ⟨k, rfl⟩ | ⟨hn, t, ty, ek⟩
      · refine ⟨_, rfl, .str k, .ty "str", .type "str", .type "str", true, rfl, .ty _, .base (.str k), kitStr, _, rfl, iteF ?_⟩
        refine ⟨_, rfl, lenOk 2, fun t1 n1 => ⟨t1, factKinds.map V.str, rfl, .inr (SqT.of upd_same), rfl, flat_strs _, _, rfl, ?_⟩⟩
        have s1 : Same H (upd H t1 (.tup (factKinds.map V.str))) := same_new n1
        have q : ∀ H', Same H H' → Q (.bl (nodeAB k b)) H' := fun H' s => by
          have e : (pairNd (.str k) b).isSome = nodeAB k b := by
            show (if nodeAB k b = true then some (k, b) else none).isSome = nodeAB k b
            cases nodeAB k b <;> rfl
          rw [← e]
          exact q H' s
        refine ite2 (fun h1 => ?_) (fun h1 => ?_)
        · have h1 : factKinds.contains k = true := (inV_strs k factKinds).symm.trans h1
          refine ⟨_, rfl, b, rfl, (hb.tk (stk s1)).kind, fun H' s2 => ?_⟩
          have q' := q H' (s1.trans s2)
          unfold nodeAB at q'
          rw [if_pos h1] at q'
          exact q'
        have h1 : ¬ factKinds.contains k = true := fun z => h1 ((inV_strs k factKinds).trans z)
        refine ⟨_, rfl, lenOk 2, fun t3 n3 => ⟨t3, sureKinds.map V.str, rfl, .inr (SqT.of upd_same), rfl, flat_strs _, _, rfl, ?_⟩⟩
        have s3 : Same H _ := s1.trans (same_new (o := .tup (sureKinds.map V.str)) n3)
        refine ite2 (fun h2 => ?_) (fun h2 => ?_)
        · have h2 : sureKinds.contains k = true := (inV_strs k sureKinds).symm.trans h2
          have q' := q _ s3
          unfold nodeAB at q'
          rw [if_neg h1, if_pos h2] at q'
          refine ⟨_, rfl, b, rfl, (hb.tk (stk s3)).kindI, _, rfl, ?_⟩
          cases ei : intV b with
          | false =>
            refine iteF ?_
            have e : zeroV b = false := by
              cases b with
              | int i => exact decide_eq_false fun z => by rw [intZ z] at ei; cases ei
              | _ => rfl
            rw [e] at q'
            exact q'
          | true =>
            refine iteT ?_
            cases b with
            | int i =>
              refine ⟨_, rfl, rfl, ?_⟩
              have e : decide ((V.int i) = V.int 0) = decide (i = 0) := decide_eq_decide.mpr ⟨fun z => by injection z, fun z => by rw [z]⟩
              rw [e]
              exact q'
            | _ => cases ei
        have h2 : ¬ sureKinds.contains k = true := fun z => h2 ((inV_strs k sureKinds).trans z)
        have q' := q _ s3
        unfold nodeAB at q'
        rw [if_neg h1, if_neg h2] at q'
        refine ⟨_, rfl, k, rfl, rfl, _, rfl, ?_⟩
        cases ek : nodeKinds.contains k with
        | false =>
          rw [ek] at q'
          exact iteF q'
        | true =>
          rw [ek, Bool.true_and] at q'
          refine iteT ?_
          refine ⟨_, rfl, b, rfl, (hb.tk (stk s3)).kindI, _, rfl, ?_⟩
          cases ei : intV b with
          | false =>
            refine iteF ?_
            have e : fewV b = false := by
              cases b with
              | int i =>
                show (decide (2 ≤ i) && decide (i ≤ 4)) = false
                rw [Bool.and_eq_false_iff]
                by_cases h : 2 ≤ i
                · by_cases h' : i ≤ 4
                  · rw [intS ⟨h, h'⟩] at ei
                    cases ei
                  · exact .inr (decide_eq_false h')
                · exact .inl (decide_eq_false h)
              | _ => rfl
            rw [e] at q'
            exact q'
          | true =>
            refine iteT ?_
            cases b with
            | int i =>
              have q' : Q (.bl (decide (2 ≤ i) && decide (i ≤ 4))) _ := q'
              refine ⟨_, rfl, 2, i, rfl, rfl, _, rfl, ?_⟩
              cases e2 : decide ((2 : Int) ≤ i) with
              | true =>
                refine iteT ⟨i, 4, rfl, rfl, ?_⟩
                rw [e2, Bool.true_and] at q'
                exact q'
              | false =>
                rw [e2] at q'
                exact iteF q'
            | _ => cases ei
      · refine ⟨_, rfl, a, .ty "str", t, .type "str", false, rfl, .ty _, ty, ek, _, rfl, iteT ?_⟩
        have e : pairNd a b = none := by
          unfold pairNd
          split
          · exact absurd rfl (hn _)
          · rfl
        have q' := q _ (Same.refl H)
        rw [e] at q'
        exact q'
end
end Eh
set_option Elab.async false
set_option linter.all false
set_option maxRecDepth 100000
namespace Eh
open PySem PySem.Spec PyProof.Rows L2
def intOf : V → Int
  | .int i => i
  | _ => 0
/-- how many parts a node has -/
def partsN (n : Str × V) : Nat := if nodeKinds.contains n.1 = true then (intOf n.2).toNat else 0
/-- whether nodes are those of so many promises -/
def dueGo : Nat → List (Str × V) → Bool
  | l, [] => decide (l = 0)
  | 0, _ :: _ => false
  | l + 1, n :: ns => dueGo (l + partsN n) ns
def GoodN (ns : List (Str × V)) : Prop := ∀ n ∈ ns, nodeAB n.1 n.2 = true
theorem node_not_fact {k : Str} (h : nodeKinds.contains k = true) : factKinds.contains k = false ∧ sureKinds.contains k = false := by
  rcases node_cases h with rfl | rfl | rfl | rfl <;> exact ⟨by decide +kernel, by decide +kernel⟩
theorem good_int {k : Str} {t : V} (h : nodeAB k t = true) (hk : nodeKinds.contains k = true) : ∃ i : Int, t = .int i ∧ 2 ≤ i ∧ i ≤ 4 := by
  unfold nodeAB at h
  rw [(node_not_fact hk).1, (node_not_fact hk).2, hk] at h
  have h : fewV t = true := by simpa using h
  cases t with
  | int i =>
    have h : (decide (2 ≤ i) && decide (i ≤ 4)) = true := h
    rw [Bool.and_eq_true] at h
    exact ⟨i, rfl, of_decide_eq_true h.1, of_decide_eq_true h.2⟩
  | _ => cases h
theorem sum_set {pre : List Int} {x : Int} : (pre ++ [x]).sum = pre.sum + x := by
  rw [List.sum_append]
  simp
theorem ixN_last (n : Nat) : ixN (n + 1) (-1) = some n := by
  unfold ixN
  rw [if_neg (by omega), if_pos (by omega)]
  congr 1
  omega
theorem drop_at {α : Type} {l : List α} {i : Nat} {x : α} (h : l[i]? = some x) : l.drop i = x :: l.drop (i + 1) := by
  obtain ⟨hl, e⟩ := List.getElem?_eq_some_iff.mp h
  rw [List.drop_eq_getElem_cons hl, e]
/-- a stack of counts -/
def Stk (st : List Int) : Prop := ∀ x ∈ st, 0 ≤ x
theorem Stk.sum {st : List Int} (h : Stk st) : 0 ≤ st.sum := by
  induction st with
  | nil => exact Int.le_refl 0
  | cons a r ih =>
    rw [List.sum_cons]
    have := h a List.mem_cons_self
    have := ih fun x hx => h x (List.mem_cons_of_mem _ hx)
    omega
theorem map_last (pre : List Int) (x : Int) : (pre ++ [x]).map V.int = pre.map V.int ++ [V.int x] := by
  rw [List.map_append]
  rfl
theorem set_last (pre : List Int) (x y : Int) : (pre.map V.int ++ [V.int x]).set pre.length (V.int y) = (pre ++ [y]).map V.int := by
  rw [map_last, List.set_append_right _ _ (by rw [List.length_map]; exact Nat.le_refl _), List.length_map, Nat.sub_self]
  rfl
theorem due_step {s : Int} {n : Str × V} {ns : List (Str × V)} (h : 1 ≤ s) : dueGo s.toNat (n :: ns) = dueGo (s - 1 + partsN n).toNat ns := by
  have e : s.toNat = (s - 1).toNat + 1 := by omega
  rw [e, dueGo]
  congr 1
  omega
theorem last_or {st : List Int} : st = [] ∨ ∃ pre x, st = pre ++ [x] := by
  rcases List.eq_nil_or_concat st with h | ⟨pre, x, h⟩
  · exact .inl h
  · exact .inr ⟨pre, x, by rw [h, List.concat_eq_append]⟩
section
variable {P : Program} {w : World} {K : PySem.W.Frag} {mg : Str → Option Value} {base : Heap}
def spDepth (K : PySem.W.Frag) : Sp := fun vs H Q _ => ∃ p xs ns, vs = [.ref p] ∧ SqT K H p xs ∧ NdsAt K H xs ns ∧ GoodN ns ∧ xs.length < 1000 ∧
  ∀ (dd : Int) H', Same H H' → (1 ≤ dd ↔ dueGo 1 ns = true) → dd ≤ 1 + countIn nodeKinds ns → Q (.int dd) H'
theorem ok_depth_of {p0 f : Addr} {fd : FuncData} (F : Fun K "depth_of" "depth_of" s_depth_of f fd) (T : Txt mg) (S : SignsAt K w mg p0) : FnOk P w K mg base CX0 1 f fd ["nodes"] (spDepth K) := by
  refine F.ok sc_depth_of (fun vs H Q E h => ?_) (fun cdv A outer s H vs Q E hr h => ?_)
  · obtain ⟨p, xs, ns, rfl, _⟩ := h
    rfl
  · obtain ⟨p, xs, ns, rfl, hS, hN, hg, hlen, q⟩ := h
    refine ⟨_, (pss_cons (ps_set (i := 1) sc_depth_of.nd rfl (.inl rfl) (pe_lst (pa_cons pe_int pa_nil)))
  (pss_cons (ps_set (i := 2) sc_depth_of.nd rfl (.inl rfl) pe_int)
  (pss_cons (ps_for PassesOwn.never (by rfl) (pi_tup (pv 0)) (pg_tup (by rfl) (pgs_cons (pg_name (i := 3) sc_depth_of.nd rfl (.inl rfl)) (pgs_cons (pg_name (i := 4) sc_depth_of.nd rfl (.inl rfl)) pgs_nil)))
  (pss_cons (ps_while PassesOwn.never (PW.pt (pw_and (pt_truth (pv 1) (by intro _; rfl)) (pw_and1 (pt_cmpR op_eq (pe_ix (ixL (K := K) rfl) (pv 1) (pe_un un_neg pe_int) (fun _ _ => rfl)) pe_int (nomark _)))))
  (pss_one (ps_expr (bm0K (K := K) rfl (pe_bm0 PySem.F.plainAttrs_list PySem.F.slot_list_pop PySem.F.type_list_pop mt_pop (pv 1))))))
  (pss_cons (ps_if (pt_not (pt_truth (pv 1) (by intro _; rfl)))
  (pss_one (ps_ret pe_int))
  pss_nil)
  (pss_cons (ps_asg (pe_op op_sub (pe_ix (ixL (K := K) rfl) (pv 1) (pe_un un_neg pe_int) (fun _ _ => rfl)) pe_int) (pg_sub (pv 1) (pe_un un_neg pe_int) set_list))
  (pss_cons (ps_set (i := 2) sc_depth_of.nd rfl (.inl rfl) (pe_callB (call_max2 (by rfl)) (by rfl) T.max_ (by decide +kernel) (pa_cons (pv 2) (pa_cons (pe_callB (lenQ (K := K) rfl) (by rfl) T.len_ (by decide +kernel) (pa_cons (pv 1) pa_nil)) pa_nil))))
  (pss_one (ps_if (pt_cmpR (inKd S rfl rfl) (pv 3) (pe_glob (v := .ref p0) rfl S.g rfl) (by rfl))
  (pss_one (ps_expr (bmK (K := K) rfl (pe_bm PySem.F.plainAttrs_list PySem.F.slot_list_append PySem.F.type_list_append mt_append (pv 1) (pa_cons (pv 4) pa_nil)))))
  pss_nil)))))))
  (pss_one (ps_ret (pe_ifExp (pt_cmpR op_eq (pe_callB (cr_sum (by rfl)) (by rfl) T.sum_ (by decide +kernel) (pa_cons (pv 1) pa_nil)) pe_int (nomark _)) (pv 2) pe_int)))))), ?_⟩
    refine ⟨lenOk 1, fun l nl => ?_⟩
    have s1 : Same H (upd H l (.lst [.int 1])) := same_new nl
    have hxn := hN.length
    refine ⟨_, rfl, p, rfl, ⟨xs, (stk s1).seq hS⟩, for_tup (K := K) (a := p) (xs := xs) (fun i σ H2 => ∃ (st : List Int) (dp : Int) (x3 x4 : Option V), σ = [some (.ref p), some (.ref l), some (.int dp), x3, x4] ∧ Same H H2 ∧ H2 l = some (.lst (st.map V.int)) ∧ Stk st ∧
      dueGo 1 ns = dueGo st.sum.toNat (ns.drop i) ∧ (st.length : Int) ≤ 1 + countIn nodeKinds (ns.take i) ∧ dp ≤ 1 + countIn nodeKinds (ns.take i) ∧ (1 ≤ dp ∨ 0 < st.sum) ∧ st.length ≤ i + 1 ∧ (i = 0 → dp = 0)) ?_ (fun i σ H2 _ h => ?_) ?_ ?_⟩
    · refine ⟨[1], 0, none, none, rfl, s1, upd_same, ?_, rfl, ?_, ?_, .inr (by decide), Nat.le_refl _, fun _ => rfl⟩
      · intro x hx
        rw [List.mem_singleton.mp hx]
        decide
      · show (1 : Int) ≤ 1 + _
        omega
      · omega
    · obtain ⟨st, dp, x3, x4, _, s2, _⟩ := h
      exact (stk s2).seq hS
    · rintro i x σ H2 hi ⟨st, dp, x3, x4, rfl, s2, e2, hst, hdue, hsl, hdp, hor, hsi, _⟩
      obtain ⟨a, k, t, rfl, hk, ha⟩ := hN.get hi
      have hgn := hg _ (List.mem_of_getElem? hk)
      have hi9 : i < 1000 := by
        have := (List.getElem?_eq_some_iff.mp hi).1
        omega
      refine ⟨a, _, rfl, (stk s2).seq ha, rfl, _, _, rfl, _, _, rfl, rfl, ?_⟩
      refine ⟨fun m σ H3 => ∃ st' : List Int, m = st'.length ∧ σ = [some (.ref p), some (.ref l), some (.int dp), some (.str k), some t] ∧ Same H H3 ∧ H3 l = some (.lst (st'.map V.int)) ∧ Stk st' ∧ st'.sum = st.sum ∧ st'.length ≤ st.length, ⟨_, st, rfl, rfl, s2, e2, hst, rfl, Nat.le_refl _⟩, ?_⟩
      rintro m σ H3 ⟨st', rfl, rfl, s3, e3, hst', hsum, hl'⟩
      have nH : H l = none := nl
      have keep : ∀ {H' : Hp} {o : HO}, Same H H' → Same H (upd H' l o) := fun {H' o} s b u eb => by
        rw [upd_ne (ne_of_none eb nH)]
        exact s b u eb
      have dr := drop_at hk
      rcases last_or (st := st') with rfl | ⟨pre, x, rfl⟩
      · -- nothing is missing any more
        refine ⟨_, rfl, false, .inl ⟨[], SqL.of e3, rfl⟩, ?_⟩
        refine iteF ?_
        refine ⟨_, rfl, false, .inl ⟨[], SqL.of e3, rfl⟩, ?_⟩
        refine iteT ?_
        refine q 0 H3 s3 ⟨fun z => by omega, fun z => ?_⟩ (by omega)
        rw [hdue, ← hsum, dr] at z
        cases z
      · rw [map_last] at e3
        have hx0 : 0 ≤ x := hst' x (List.mem_append_right _ List.mem_cons_self)
        have hpre : Stk pre := fun y hy => hst' y (List.mem_append_left _ hy)
        have hsum : pre.sum + x = st.sum := by rw [← hsum, sum_set]
        have hl' : pre.length + 1 ≤ st.length := by rw [List.length_append] at hl'; exact hl'
        refine ⟨_, rfl, true, .inl ⟨_, SqL.of e3, by simp⟩, iteT ⟨_, rfl, _, rfl, l, _, (-1), .int x, rfl, rfl, SqL.of e3, atI_last, rfl, _, rfl, ?_⟩⟩
        by_cases hx : V.int x = V.int 0
        · rw [decide_eq_true hx]
          have hx : x = 0 := by injection hx
          refine iteT ⟨_, fun σ' H' h => h, ?_⟩
          refine ⟨_, rfl, .inl ⟨rfl, _, SqL.of e3⟩, l, _, .int x, rfl, rfl, e3, ?_, ?_⟩
          · rw [List.length_append, List.length_singleton, Nat.add_sub_cancel]
            exact List.getElem?_concat_length
          · rw [List.dropLast_concat]
            exact ⟨pre.length, by rw [List.length_append]; exact Nat.lt_succ_self _, pre, rfl, rfl, keep s3, upd_same, hpre, by omega, by omega⟩
        · rw [decide_eq_false hx]
          have hx : x ≠ 0 := fun e => hx (by rw [e])
          refine iteF ?_
          refine ⟨_, rfl, true, .inl ⟨_, SqL.of e3, by simp⟩, iteF ?_⟩
          refine ⟨_, rfl, _, rfl, l, _, (-1), .int x, rfl, rfl, SqL.of e3, atI_last, _, _, rfl, rfl, ?_⟩
          refine ⟨_, rfl, _, rfl, l, _, (-1), pre.length, rfl, rfl, e3, ?_, ?_⟩
          · rw [List.length_append, List.length_map]
            exact ixN_last _
          rw [set_last]
          have s4 : Same H (upd H3 l (.lst ((pre ++ [x - 1]).map V.int))) := keep s3
          have hst4 : Stk (pre ++ [x - 1]) := fun y hy => by
            rcases List.mem_append.mp hy with h | h
            · exact hpre y h
            · rw [List.mem_singleton.mp h]
              omega
          have hps := hpre.sum
          refine ⟨_, rfl, _, rfl, .inl ⟨l, _, rfl, .inl (SqL.of upd_same), _, _, rfl, ?_⟩⟩
          obtain ⟨d2, ed, hd1, hd2⟩ : ∃ d2 : Int, (if (((pre ++ [x - 1]).map V.int).length : Int) > dp then (((pre ++ [x - 1]).map V.int).length : Int) else dp) = d2 ∧ 1 ≤ d2 ∧ d2 ≤ 1 + countIn nodeKinds (ns.take i) := by
            refine ⟨_, rfl, ?_⟩
            rw [List.length_map, List.length_append, List.length_singleton]
            split <;> omega
          rw [ed]
          have ct : countIn nodeKinds (ns.take (i + 1)) = countIn nodeKinds (ns.take i) + countIn nodeKinds [(k, t)] := by rw [take_succ' hk, countIn_app]
          refine ⟨_, rfl, k, rfl, rfl, _, rfl, ?_⟩
          cases ek : nodeKinds.contains k with
          | true =>
            obtain ⟨ti, rfl, ht2, ht4⟩ := good_int hgn ek
            rw [countIn_one, if_pos ek] at ct
            refine iteT ⟨_, rfl, .inl ⟨rfl, _, SqL.of upd_same⟩, _, rfl, l, _, .int ti, rfl, rfl, upd_same, small (by rw [List.length_map, List.length_append, List.length_singleton]; omega), ?_⟩
            rw [← map_last]
            refine ⟨(pre ++ [x - 1]) ++ [ti], d2, _, _, rfl, keep s4, upd_same, ?_, ?_, ?_, ?_, ?_, ?_, fun e => by omega⟩
            · intro y hy
              rcases List.mem_append.mp hy with h | h
              · exact hst4 y h
              · rw [List.mem_singleton.mp h]
                omega
            · rw [hdue, dr, ← hsum, due_step (by omega), sum_set, sum_set]
              congr 2
              unfold partsN
              rw [if_pos ek]
              show pre.sum + x - 1 + ((ti.toNat : Nat) : Int) = _
              omega
            · rw [List.length_append, List.length_append, List.length_singleton, List.length_singleton]
              omega
            · omega
            · exact .inl hd1
            · rw [List.length_append, List.length_append, List.length_singleton, List.length_singleton]
              omega
          | false =>
            rw [countIn_one, if_neg (by rw [ek]; exact Bool.false_ne_true)] at ct
            refine iteF ⟨pre ++ [x - 1], d2, _, _, rfl, s4, upd_same, hst4, ?_, ?_, ?_, ?_, ?_, fun e => by omega⟩
            · rw [hdue, dr, ← hsum, due_step (by omega), sum_set]
              congr 2
              unfold partsN
              rw [if_neg (by rw [ek]; exact Bool.false_ne_true)]
              show pre.sum + x - 1 + 0 = _
              omega
            · rw [List.length_append, List.length_singleton]
              omega
            · omega
            · exact .inl hd1
            · rw [List.length_append, List.length_singleton]
              omega
    · rintro σ H2 ⟨st, dp, x3, x4, rfl, s2, e2, hst, hdue, hsl, hdp, hor, hsi, h0⟩
      refine ⟨_, rfl, l, st, rfl, SqL.of e2, rfl, _, rfl, ?_⟩
      rw [hxn, List.drop_length] at hdue
      rw [hxn, List.take_length] at hsl hdp
      have hs := hst.sum
      have hd : dueGo 1 ns = decide (st.sum.toNat = 0) := hdue
      refine ite2 (fun h => ?_) (fun h => ?_)
      · have h : V.int st.sum = V.int 0 := of_decide_eq_true h
        have h : st.sum = 0 := by injection h
        refine ⟨_, rfl, q dp H2 s2 ⟨fun _ => by rw [hd]; exact decide_eq_true (by omega), fun _ => by omega⟩ hdp⟩
      · have h : st.sum ≠ 0 := fun e => h (decide_eq_true (by rw [e]))
        exact q 0 H2 s2 ⟨fun z => by omega, fun z => by rw [hd] at z; have := of_decide_eq_true z; omega⟩ (by omega)
end
end Eh
set_option Elab.async false
set_option linter.all false
set_option maxRecDepth 100000
namespace Eh
open PySem PySem.Spec PyProof.Rows L2
/-- the facts of nodes -/
def factsN (ns : List (Str × V)) : List Str := ns.filterMap fun n => if factKinds.contains n.1 = true then (match n.2 with | .str z => some z | _ => none) else none
theorem good_fact {k : Str} {t : V} (h : nodeAB k t = true) (hk : factKinds.contains k = true) : ∃ z, t = .str z ∧ factS z = true := by
  unfold nodeAB at h
  rw [if_pos hk] at h
  cases t with
  | str z => exact ⟨z, rfl, h⟩
  | _ => cases h
theorem factsN_one {k : Str} {t : V} {z : Str} (hk : factKinds.contains k = true) (ht : t = .str z) : factsN [(k, t)] = [z] := by
  subst ht
  unfold factsN
  simp only [List.filterMap_cons, hk, if_true, List.filterMap_nil]
theorem factsN_none {k : Str} {t : V} (hk : factKinds.contains k = false) : factsN [(k, t)] = [] := by
  unfold factsN
  simp only [List.filterMap_cons, hk, Bool.false_eq_true, if_false, List.filterMap_nil]
theorem factsN_app (a b : List (Str × V)) : factsN (a ++ b) = factsN a ++ factsN b := by
  unfold factsN
  rw [List.filterMap_append]
theorem pgT {X : Cx} {K : PySem.W.Frag} {es : List Expr} {k : Nat} {pos : Pos} {t : TGs} {n : Nat} (h : X.K = K) (hc : X.calm = true) (hp : PGs X es t)
    (hn : (assignEach es X.env).length = n := by rfl) (hst : (assignEach es X.env).findIdx? (·.1) = none := by rfl) : PG X (.Tuple es k pos) (gTup K n t) := by
  subst h
  exact pg_tup hc hp hn hst
theorem mem_put (x z : Str) (ts : List Str) : x ∈ put z ts ↔ x = z ∨ x ∈ ts := by
  unfold put
  split
  · rename_i h
    exact ⟨.inr, fun e => e.elim (fun e => by rw [e]; exact h) id⟩
  · rw [List.mem_cons]
theorem nodup_put {z : Str} {ts : List Str} (h : ts.Nodup) : (put z ts).Nodup := by
  unfold put
  split
  · exact h
  · rename_i n
    exact List.nodup_cons.mpr ⟨n, h⟩
section
variable {P : Program} {w : World} {K : PySem.W.Frag} {mg : Str → Option Value} {base : Heap}
def spFacts (K : PySem.W.Frag) : Sp := fun vs H Q _ => ∃ p xs ns, vs = [.ref p] ∧ SqT K H p xs ∧ NdsAt K H xs ns ∧ GoodN ns ∧ xs.length < 60 ∧
  ∀ (ys : List Str) p' H', Same H H' → H p' = none → H' p' = some (.tup (ys.map V.str)) → ys.Nodup → sortedS ys = true → (∀ z, z ∈ ys ↔ z ∈ factsN ns) → Q (.ref p') H'
theorem ok_facts_of {f : Addr} {fd : FuncData} (F : Fun K "facts_of" "facts_of" s_facts_of f fd) (T : Txt mg) : FnOk P w K mg base CX0 1 f fd ["nodes"] (spFacts K) := by
  refine F.ok sc_facts_of (fun vs H Q E h => ?_) (fun cdv A outer s H vs Q E hr h => ?_)
  · obtain ⟨p, xs, ns, rfl, _⟩ := h
    rfl
  · obtain ⟨p, xs, ns, rfl, hS, hN, hg, hlen, q⟩ := h
    refine ⟨_, (pss_one (ps_ret (pe_callTy call_tuple_of (by rfl) T.tuple_ (by decide +kernel) (pa_cons (pe_callB (sortX (by rfl)) (by rfl) T.sorted_ (by decide +kernel) (pa_cons (pe_sc (own := [("kind", 1), ("told", 2)]) (g := gTup K 2 (gCons (gName 1) (gCons (gName 2) gNil))) (by rfl) sc_facts_of.nd (pi_tup (pv 0)) (blkOk_by (by kernel_rfl)) (fun _ _ _ _ _ => (pgT (K := K) rfl (by rfl) (pgs_cons (pg_name (i := 1) sc_facts_of.nd rfl (.inl rfl)) (pgs_cons (pg_name (i := 2) sc_facts_of.nd rfl (.inl rfl)) pgs_nil)))) (fun _ _ _ _ _ => (pts_one (pt_cmpR (inQ (K := K) rfl) (pv 1) (pe_tup (pa_cons pe_str (pa_cons pe_str pa_nil))) (by rfl)))) (fun _ _ _ _ _ => (pv 2))) pa_nil)) pa_nil)))), ?_⟩
    have hxn := hN.length
    refine ⟨_, rfl, p, rfl, ⟨xs, hS⟩, fun D nD => ?_⟩
    have s1 : Same H (upd H D (SetX w D [])) := same_new nD
    refine scTg (K := K) (a := p) (xs := xs) (fun j ts H2 => Same H H2 ∧ ts.Nodup ∧ ∀ z, z ∈ ts ↔ z ∈ factsN (ns.take j)) ⟨s1, List.nodup_nil, fun z => Iff.rfl⟩ (fun j ts H2 h => (stk h.1).seq hS) ?_ ?_
    · rintro j x ts H2 hx hl e ⟨s2, nd, hm⟩
      obtain ⟨a, k, t, rfl, hk, ha⟩ := hN.get hx
      have hgn := hg _ (List.mem_of_getElem? hk)
      have hj : j < 60 := by
        have := (List.getElem?_eq_some_iff.mp hx).1
        omega
      have et : factsN (ns.take (j + 1)) = factsN (ns.take j) ++ factsN [(k, t)] := by rw [take_succ' hk, factsN_app]
      have nDH : H D = none := nD
      refine ⟨a, _, rfl, (stk s2).seq ha, rfl, _, _, rfl, _, _, rfl, rfl, rfl, ?_⟩
      refine ⟨_, rfl, lenOk 2, fun t1 n1 => ⟨t1, factKinds.map V.str, rfl, .inr (SqT.of upd_same), rfl, flat_strs _, _, rfl, ?_⟩⟩
      have s3 : Same H (upd H2 t1 (.tup (factKinds.map V.str))) := s2.trans (same_new n1)
      have e3 := same_new (o := .tup (factKinds.map V.str)) n1 _ _ e
      cases ek : factKinds.contains k with
      | true =>
        obtain ⟨z, rfl, _⟩ := good_fact hgn ek
        rw [factsN_one ek rfl] at et
        refine iteT' ((inV_strs k factKinds).trans ek) ⟨_, rfl, ScK.mk hl (by omega) e3 ⟨fun b o eb => ?_, nodup_put nd, fun y => ?_⟩⟩
        · rw [upd_ne (ne_of_none eb nDH)]
          exact s3 b o eb
        · rw [mem_put, et, List.mem_append, List.mem_singleton, hm y, or_comm]
      | false =>
        rw [factsN_none ek, List.append_nil] at et
        exact iteF' ((inV_strs k factKinds).trans ek) ⟨ts, by omega, e3, s3, nd, fun y => by rw [et]; exact hm y⟩
    · rintro ts H2 hl e ⟨s2, nd, hm⟩
      refine ⟨D, ts, rfl, e, nd, by omega, fun ys p2 hp hs n2 => ?_⟩
      have s3 := s2.trans (same_new (o := .lst (ys.map V.str)) n2)
      refine ⟨p2, _, rfl, .inl ⟨SqL.of upd_same, fun p3 n3 => ?_⟩⟩
      rw [hxn, List.take_length] at hm
      exact q ys p3 _ (s3.trans (same_new n3)) (s3.free n3) upd_same (hp.nodup_iff.mpr nd) hs fun z => by rw [hp.mem_iff]; exact hm z
def spChoices (K : PySem.W.Frag) : Sp := fun vs H Q _ => ∃ p xs ns, vs = [.ref p] ∧ SqT K H p xs ∧ NdsAt K H xs ns ∧ xs.length < 1000 ∧ ∀ H', Same H H' → Q (.int (countIn choiceKinds ns)) H'
theorem ok_choices_of {f : Addr} {fd : FuncData} (F : Fun K "choices_of" "choices_of" s_choices_of f fd) (T : Txt mg) : FnOk P w K mg base CX0 1 f fd ["nodes"] (spChoices K) := by
  refine F.ok sc_choices_of (fun vs H Q E h => ?_) (fun cdv A outer s H vs Q E hr h => ?_)
  · obtain ⟨p, xs, ns, rfl, _⟩ := h
    rfl
  · obtain ⟨p, xs, ns, rfl, hS, hN, hlen, q⟩ := h
    refine ⟨_, (pss_one (ps_ret (pe_callB (lenQ (K := K) rfl) (by rfl) T.len_ (by decide +kernel) (pa_cons (pe_lc (own := [("kind", 1), ("_", 2)]) (g := gTup K 2 (gCons (gName 1) (gCons (gName 2) gNil))) (by rfl) sc_choices_of.nd (pi_tup (pv 0)) (blkOk_by (by kernel_rfl)) (fun _ _ _ _ _ => (pgT (K := K) rfl (by rfl) (pgs_cons (pg_name (i := 1) sc_choices_of.nd rfl (.inl rfl)) (pgs_cons (pg_name (i := 2) sc_choices_of.nd rfl (.inl rfl)) pgs_nil)))) (fun _ _ _ _ _ => (pts_one (pt_cmpR (inQ (K := K) rfl) (pv 1) (pe_tup (pa_cons pe_str (pa_cons pe_str pa_nil))) (by rfl)))) (fun _ _ _ _ _ => (pv 1))) pa_nil)))), ?_⟩
    have hxn := hN.length
    refine ⟨_, rfl, p, rfl, ⟨xs, hS⟩, fun D nD => ?_⟩
    have s1 : Same H (upd H D (.lst [])) := same_new nD
    refine lcTg (K := K) (a := p) (xs := xs) (fun j acc H2 => Same H H2 ∧ acc.length = countIn choiceKinds (ns.take j)) ⟨s1, rfl⟩ (fun j ts H2 h => (stk h.1).seq hS) ?_ ?_
    · rintro j x acc H2 hx hl e ⟨s2, hm⟩
      obtain ⟨a, k, t, rfl, hk, ha⟩ := hN.get hx
      have hj : j < 1000 := by
        have := (List.getElem?_eq_some_iff.mp hx).1
        omega
      have et : countIn choiceKinds (ns.take (j + 1)) = countIn choiceKinds (ns.take j) + countIn choiceKinds [(k, t)] := by rw [take_succ' hk, countIn_app]
      have nDH : H D = none := nD
      refine ⟨a, _, rfl, (stk s2).seq ha, rfl, _, _, rfl, _, _, rfl, rfl, rfl, ?_⟩
      refine ⟨_, rfl, lenOk 2, fun t1 n1 => ⟨t1, choiceKinds.map V.str, rfl, .inr (SqT.of upd_same), rfl, flat_strs _, _, rfl, ?_⟩⟩
      have s3 : Same H (upd H2 t1 (.tup (choiceKinds.map V.str))) := s2.trans (same_new n1)
      have e3 := same_new (o := .tup (choiceKinds.map V.str)) n1 _ _ e
      cases ek : choiceKinds.contains k with
      | true =>
        rw [countIn_one, if_pos ek] at et
        refine iteT' ((inV_strs k choiceKinds).trans ek) ⟨_, rfl, LcK.mk hl (by omega) e3 ⟨fun b o eb => ?_, ?_⟩⟩
        · rw [upd_ne (ne_of_none eb nDH)]
          exact s3 b o eb
        · rw [List.length_append, hm, et]
          rfl
      | false =>
        rw [countIn_one, if_neg (by rw [ek]; exact Bool.false_ne_true)] at et
        exact iteF' ((inV_strs k choiceKinds).trans ek) ⟨acc, by omega, e3, s3, by rw [et]; exact hm⟩
    · rintro acc H2 hl e ⟨s2, hm⟩
      refine .inl ⟨D, acc, rfl, .inl (SqL.of e), ?_⟩
      rw [hxn, List.take_length] at hm
      rw [hm]
      exact q H2 s2
end
end Eh
set_option Elab.async false
set_option linter.all false
set_option maxRecDepth 100000
namespace Eh
open PySem PySem.Spec PyProof.Rows L2
inductive NdAll (K : PySem.W.Frag) (H : Hp) : List V → List (Option (Str × V)) → Prop
  | nil : NdAll K H [] []
  | cons {v : V} {vs : List V} {n : Option (Str × V)} {ns : List (Option (Str × V))} : NdV K H v n → NdAll K H vs ns → NdAll K H (v :: vs) (n :: ns)
theorem NdAll.length {K : PySem.W.Frag} {H : Hp} : ∀ {vs : List V} {ns : List (Option (Str × V))}, NdAll K H vs ns → vs.length = ns.length
  | _, _, .nil => rfl
  | _, _, .cons _ r => by rw [List.length_cons, List.length_cons, r.length]
theorem NdAll.get {K : PySem.W.Frag} {H : Hp} : ∀ {vs : List V} {ns : List (Option (Str × V))}, NdAll K H vs ns → ∀ {i : Nat} {v : V}, vs[i]? = some v → ∃ n, ns[i]? = some n ∧ NdV K H v n
  | _, _, .nil, i, v, h => by simp at h
  | _, _, .cons (v := x) (n := n) hp r, 0, v, h => by
    cases (show some x = some v from h)
    exact ⟨n, rfl, hp⟩
  | _, _, .cons hp r, i + 1, v, h => r.get (i := i) h
theorem NdAll.ku {K : PySem.W.Frag} {H H' : Hp} (k : Ku H H') : ∀ {vs : List V} {ns : List (Option (Str × V))}, NdAll K H vs ns → NdAll K H' vs ns
  | _, _, .nil => .nil
  | _, _, .cons h r => .cons (h.ku k) (r.ku k)
/-- whether values are the nodes of a promise, bounds aside -/
def okNs (nds : List (Option (Str × V))) : Bool := nds.all Option.isSome && dueGo 1 (nds.filterMap id)
theorem all_some {nds : List (Option (Str × V))} (h : nds.all Option.isSome = true) : ∃ ns : List (Str × V), nds = ns.map some := by
  induction nds with
  | nil => exact ⟨[], rfl⟩
  | cons n r ih =>
    rw [List.all_cons, Bool.and_eq_true] at h
    obtain ⟨ns, e⟩ := ih h.2
    cases n with
    | none => cases h.1
    | some x => exact ⟨x :: ns, by rw [e]; rfl⟩
theorem filterMap_some (ns : List (Str × V)) : (ns.map some).filterMap id = ns := by
  induction ns with
  | nil => rfl
  | cons a r ih =>
    show a :: _ = a :: r
    rw [show List.filterMap id (List.map some r) = r from ih]
theorem pairNd_some {a b : V} {n : Str × V} (h : pairNd a b = some n) : a = .str n.1 ∧ b = n.2 ∧ nodeAB n.1 n.2 = true := by
  unfold pairNd at h
  split at h
  · split at h
    · rename_i g
      cases h
      exact ⟨rfl, rfl, g⟩
    · cases h
  · cases h
theorem NdAll.nds {K : PySem.W.Frag} {H : Hp} : ∀ {vs : List V} {ns : List (Str × V)}, NdAll K H vs (ns.map some) → NdsAt K H vs ns ∧ GoodN ns
  | vs, [], h => by
    cases h
    exact ⟨.nil, fun _ h => nomatch h⟩
  | vs, n :: ns, h => by
    generalize e : (n :: ns).map some = m at h
    cases h with
    | nil => cases e
    | cons hv hr =>
      injection e with e1 e2
      subst e2
      obtain ⟨r1, r2⟩ := hr.nds
      cases hv with
      | other _ => cases e1
      | tup _ _ _ => cases e1
      | pair h a b =>
        obtain ⟨ea, eb, g⟩ := pairNd_some e1.symm
        subst ea eb
        exact ⟨.cons h r1, fun x hx => (List.mem_cons.mp hx).elim (fun e => by rw [e]; exact g) (r2 x)⟩
theorem countIn_mono {ws us : List Str} (h : ∀ k, ws.contains k = true → us.contains k = true) : ∀ ns : List (Str × V), countIn ws ns ≤ countIn us ns
  | [] => Nat.le_refl _
  | n :: ns => by
    have ih := countIn_mono h ns
    rw [show n :: ns = [(n.1, n.2)] ++ ns from rfl, countIn_app, countIn_app, countIn_one, countIn_one]
    by_cases c : ws.contains n.1 = true
    · rw [if_pos c, if_pos (h _ c)]
      omega
    · rw [if_neg c]
      omega
theorem choice_inner {k : Str} (h : choiceKinds.contains k = true) : nodeKinds.contains k = true := choice_node h
theorem due_inner : ∀ {ns : List (Str × V)} {l : Nat}, GoodN ns → dueGo l ns = true → 2 * countIn nodeKinds ns + l ≤ ns.length
  | [], l, _, h => by
    have h : decide (l = 0) = true := h
    have h := of_decide_eq_true h
    show 2 * 0 + l ≤ 0
    omega
  | n :: ns, 0, _, h => by cases h
  | n :: ns, l + 1, g, h => by
    have ih := due_inner (fun x hx => g x (List.mem_cons_of_mem _ hx)) (show dueGo (l + partsN n) ns = true from h)
    rw [show countIn nodeKinds (n :: ns) = countIn nodeKinds ([(n.1, n.2)] ++ ns) from rfl, countIn_app, countIn_one, List.length_cons]
    unfold partsN at ih
    by_cases c : nodeKinds.contains n.1 = true
    · rw [if_pos c] at ih ⊢
      obtain ⟨i, e, h2, h4⟩ := good_int (g n List.mem_cons_self) c
      rw [e] at ih
      have : (intOf (.int i)).toNat = i.toNat := rfl
      omega
    · rw [if_neg c] at ih ⊢
      omega
theorem not_due_of {nds : List (Option (Str × V))} {ns : List (Str × V)} (e : nds = ns.map some) : okNs nds = dueGo 1 ns := by
  subst e
  unfold okNs
  rw [filterMap_some, show (ns.map some).all Option.isSome = true from by rw [List.all_map]; exact List.all_eq_true.mpr fun _ _ => rfl, Bool.true_and]
theorem nodup_le : ∀ {ys us : List Str}, ys.Nodup → (∀ z ∈ ys, z ∈ us) → ys.length ≤ us.length
  | [], us, _, _ => Nat.zero_le _
  | a :: r, us, nd, h => by
    have ha := h a List.mem_cons_self
    obtain ⟨n1, n2⟩ := List.nodup_cons.mp nd
    have ih := nodup_le (us := us.erase a) n2 fun z hz => (List.mem_erase_of_ne (fun e => n1 (by rw [← e]; exact hz))).mpr (h z (List.mem_cons_of_mem _ hz))
    rw [List.length_erase_of_mem ha] at ih
    have := List.length_pos_of_mem ha
    rw [List.length_cons]
    omega
section
variable {P : Program} {w : World} {K : PySem.W.Frag} {mg : Str → Option Value} {base : Heap}
/-- the nodes of a value: none, where it is no tuple -/
inductive NodesV (K : PySem.W.Frag) (H : Hp) : V → List (Option (Str × V)) → Bool → Prop
  | other {v : V} : NoT H v → NodesV K H v [] false
  | tup {p : Addr} {xs : List V} {nds : List (Option (Str × V))} : SqT K H p xs → NdAll K H xs nds → NodesV K H (.ref p) nds (okNs nds)
theorem NodesV.ku {H H' : Hp} {v : V} {nds : List (Option (Str × V))} {b : Bool} (h : NodesV K H v nds b) (k : Ku H H') : NodesV K H' v nds b := by
  cases h with
  | other t => exact .other (t.ku k)
  | tup h n => exact .tup (k.tk.seq h) (n.ku k)
/-- few enough, and with few facts -/
structure Few (nds : List (Option (Str × V))) (b : Bool) : Prop where
  len : nds.length < 60
  short : nds.length ≤ 15 ∨ b = false
  facts : ∀ ns, nds = ns.map some → ∀ z ∈ factsN ns, z ∈ uni6
def spAre (K : PySem.W.Frag) : Sp := fun vs H Q _ => ∃ v nds b, vs = [v] ∧ NodesV K H v nds b ∧ Few nds b ∧ ∀ H', Same H H' → Q (.bl b) H'
theorem ok_are_nodes {fN fF fC fD f : Addr} {fdN fdF fdC fdD fd : FuncData} (F : Fun K "_are_nodes" "_are_nodes" s__are_nodes f fd) (T : Txt mg)
    (c40 : ∃ t, mg "MAX_NODES" = some (.int 40 t)) (c6 : ∃ t, mg "MAX_FACTS" = some (.int 6 t)) (c10 : ∃ t, mg "MAX_CHOICES" = some (.int 10 t)) (c8 : ∃ t, mg "MAX_DEPTH" = some (.int 8 t))
    (C_is_node : Cal P w K mg base 2 "is_node" fN fdN ["value"] (spIsNode K)) (C_facts_of : Cal P w K mg base 1 "facts_of" fF fdF ["nodes"] (spFacts K)) (C_choices_of : Cal P w K mg base 1 "choices_of" fC fdC ["nodes"] (spChoices K)) (C_depth_of : Cal P w K mg base 1 "depth_of" fD fdD ["nodes"] (spDepth K)) :
    FnOk P w K mg base CX0 3 f fd ["value"] (spAre K) := by
  obtain ⟨t40, e40⟩ := c40
  obtain ⟨t6, e6⟩ := c6
  obtain ⟨t10, e10⟩ := c10
  obtain ⟨t8, e8⟩ := c8
  refine F.ok sc__are_nodes (fun vs H Q E h => ?_) (fun cdv A outer s H vs Q E hr h => ?_)
  · obtain ⟨v, nds, b, rfl, _⟩ := h
    rfl
  · obtain ⟨v, nds, b, rfl, hv, few, q⟩ := h
    have hr1 := hr.mono (j := 1) (by omega)
    refine ⟨_, (pss_cons (ps_if (PW.pt (pw_or (pt_not (pt_val (pe_callB (isiQ (K := K) rfl) (by rfl) T.isinstance_ (by decide +kernel) (pa_cons (pv 0) (pa_cons (pe_bltn (v := .ty "tuple") (by rfl) T.tuple_ (by decide +kernel) rfl) pa_nil))))) (pw_or1 (pt_cmpR op_gt (pe_callB (lenQ (K := K) rfl) (by rfl) T.len_ (by decide +kernel) (pa_cons (pv 0) pa_nil)) (pe_glob (v := .int 40) rfl e40 ⟨_, rfl⟩) (nomark _)))))
  (pss_one (ps_ret pe_bl))
  pss_nil)
  (pss_cons (ps_if (pt_not (pt_val (pe_callB (allQ (K := K) rfl (by rfl)) (by rfl) T.all_ (by decide +kernel) (pa_cons (pe_lc (own := [("node", 1)]) (g := gName 1) (by rfl) sc__are_nodes.nd (pi_tup (pv 0)) (blkOk_by (by kernel_rfl)) (fun _ _ _ _ _ => (pg_name (i := 1) sc__are_nodes.nd rfl (.inl rfl))) (fun _ _ _ _ _ => pts_nil) (fun _ _ _ _ _ => (pe_call C_is_node.G hr (by rfl) C_is_node.m C_is_node.k C_is_node.b .nil pass0 (pa_cons (pv 1) pa_nil)))) pa_nil))))
  (pss_one (ps_ret pe_bl))
  pss_nil)
  (pss_cons (ps_if (PW.pt (pw_or (pt_cmpR op_gt (pe_callB (lenQ (K := K) rfl) (by rfl) T.len_ (by decide +kernel) (pa_cons (pe_call C_facts_of.G hr1 (by rfl) C_facts_of.m C_facts_of.k C_facts_of.b .nil pass0 (pa_cons (pv 0) pa_nil)) pa_nil)) (pe_glob (v := .int 6) rfl e6 ⟨_, rfl⟩) (nomark _)) (pw_or1 (pt_cmpR op_gt (pe_call C_choices_of.G hr1 (by rfl) C_choices_of.m C_choices_of.k C_choices_of.b .nil pass0 (pa_cons (pv 0) pa_nil)) (pe_glob (v := .int 10) rfl e10 ⟨_, rfl⟩) (nomark _)))))
  (pss_one (ps_ret pe_bl))
  pss_nil)
  (pss_one (ps_ret (pe_chain op_le op_le pe_int (pe_call C_depth_of.G hr1 (by rfl) C_depth_of.m C_depth_of.k C_depth_of.b .nil pass0 (pa_cons (pv 0) pa_nil)) (pe_glob (v := .int 8) rfl e8 ⟨_, rfl⟩))))))), ?_⟩
    cases hv with
    | other hno =>
      obtain ⟨u, ty, hk⟩ := hno.ty (K := K)
      exact ⟨_, rfl, v, .ty "tuple", _, .type "tuple", false, rfl, .ty _, ty, hk, _, rfl, iteT (q _ (Same.refl H))⟩
    | tup hs hn =>
      rename_i p xs
      have hlen := hn.length
      have hx60 := few.len
      refine ⟨_, rfl, .ref p, .ty "tuple", _, .type "tuple", true, rfl, .ty _, ty_tup hs, kitTT, _, rfl, iteF ⟨_, rfl, .inl ⟨p, xs, rfl, .inr hs, _, 40, rfl, rfl, _, rfl, ite2 (fun h => ?_) (fun h => ?_)⟩⟩⟩
      · have h : (40 : Int) < xs.length := of_decide_eq_true h
        have eb : okNs nds = false := few.short.resolve_left (by omega)
        have q' := q _ (Same.refl H)
        rw [eb] at q'
        exact q'
      refine ⟨_, rfl, p, rfl, ⟨xs, hs⟩, fun D nD => ?_⟩
      have s1 : Same H (upd H D (.lst [])) := same_new nD
      refine lcT (K := K) (a := p) (xs := xs) (fun j acc H2 => Same H H2 ∧ acc = ((nds.take j).map Option.isSome).map V.bl) ⟨s1, rfl⟩ (fun j acc H2 h => (stk h.1).seq hs) ?_ ?_
      · rintro j x acc H2 hx hl e ⟨s2, ea⟩
        obtain ⟨n, en, hnd⟩ := hn.get hx
        have hj : j < 60 := by
          have := (List.getElem?_eq_some_iff.mp hx).1
          omega
        refine yesT ⟨_, rfl, x, n, rfl, hnd.ku (ku_same s2), fun H3 s3 => ?_⟩
        refine LcK.mk hl (by omega) (s3 _ _ e) ⟨fun b o eb => ?_, ?_⟩
        · rw [upd_ne (ne_of_none eb nD)]
          exact s3 _ _ (s2 b o eb)
        · rw [ea, take_succ' en, List.map_append, List.map_append]
          rfl
      · rintro acc H2 hl e ⟨s2, ea⟩
        refine ⟨D, _, rfl, SqL.of (e.trans (by rw [ea])), ?_⟩
        rw [hlen, List.take_length, List.all_map]
        cases ha : nds.all (id ∘ Option.isSome) with
        | false =>
          refine ⟨_, rfl, iteT ?_⟩
          have q' := q _ s2
          have eb : okNs nds = false := by
            unfold okNs
            rw [show nds.all Option.isSome = false from ha, Bool.false_and]
          rw [eb] at q'
          exact q'
        | true =>
          obtain ⟨ns, en⟩ := all_some ha
          have hok := not_due_of en
          rw [hok] at few q
          subst en
          obtain ⟨N, hg⟩ := hn.nds
          have hnl := N.length
          refine ⟨_, rfl, iteF ?_⟩
          refine ⟨_, rfl, p, xs, ns, rfl, (stk s2).seq hs, N.tk (stk s2), hg, by omega, fun ys p3 H3 s3 n3 e3 nd so mem => ?_⟩
          have hys : ys.length ≤ 6 := nodup_le nd fun z hz => few.facts ns rfl z ((mem z).mp hz)
          have s4 := s2.trans s3
          refine .inl ⟨p3, _, rfl, .inr (SqT.of e3), _, 6, rfl, rfl, _, rfl, ?_⟩
          rw [List.length_map, decide_eq_false (by omega)]
          refine iteF ?_
          refine ⟨_, rfl, p, xs, ns, rfl, (stk s4).seq hs, N.tk (stk s4), by omega, fun H5 s5 => ?_⟩
          have s6 := s4.trans s5
          have hc := countIn_mono (fun k h => choice_inner (k := k) h) ns
          have hdi := due_inner (l := 1) hg
          have hlen2 : xs.length = ns.length := hnl
          have hl3 : (ns.map some).length = ns.length := List.length_map ..
          have hsh := few.short
          rw [hl3] at hsh
          refine ⟨_, 10, rfl, rfl, _, rfl, ite2 (fun h => ?_) (fun h => ?_)⟩
          · have h : (10 : Int) < countIn choiceKinds ns := of_decide_eq_true h
            have eb : dueGo 1 ns = false := by
              cases e : dueGo 1 ns with
              | false => rfl
              | true =>
                have := hdi e
                rcases hsh with h15 | h15
                · omega
                · rw [e] at h15
                  cases h15
            have q' := q _ s6
            rw [eb] at q'
            exact q'
          refine ⟨_, rfl, p, xs, ns, rfl, (stk s6).seq hs, N.tk (stk s6), hg, by omega, fun dd H7 s7 d1 d2 => ?_⟩
          have q' := q _ (s6.trans s7)
          refine ⟨1, dd, rfl, rfl, _, rfl, ?_⟩
          cases e : dueGo 1 ns with
          | false =>
            rw [e] at q'
            rw [decide_eq_false (fun z => by have := d1.mp z; rw [e] at this; cases this)]
            exact iteF q'
          | true =>
            rw [e] at q'
            rw [decide_eq_true (d1.mpr e)]
            refine iteT ⟨dd, 8, rfl, rfl, ?_⟩
            have := hdi e
            have h8 : dd ≤ 8 := by
              rcases hsh with h15 | h15
              · omega
              · rw [e] at h15
                cases h15
            show Q (.bl (decide (dd ≤ 8))) H7
            rw [decide_eq_true h8]
            exact q'
end
end Eh
set_option Elab.async false
set_option linter.all false
set_option maxRecDepth 100000
namespace Eh
open PySem PySem.Spec PyProof.Rows L2
section
variable {X : Cx} {CX : CXT} {k : Nat} {f C : Addr} {fd : FuncData} {ps : List Str} {sp : Sp} {E : L2.St → XK} {x m : Str} {p pos apos : Pos} {e o : Expr} {es : List Expr} {ta : TE} {t : TA}
theorem run_makeS {pins : List (Addr × Obj)} {σ : L2.St} {H : Hp} {s : Shared} {Q : VK} {us : List Value} {vs : List V} (M : Mk X.K C f) (F : FnOk X.prog X.w X.K X.mg X.base CX k f fd ps sp) (hr : Room (k + 1) X.A) (hb : Binds X.K fd ps [])
    (hx : PassesAt CX X σ (E σ)) (I : Inv X pins σ H s) (r : Vals vs us)
    (h : ∀ x dx, H x = none → H dx = none → dx ≠ x → sp (.ref x :: vs) (upd (upd H dx (.own x)) x (.ins C dx [])) (fun v H2 => v = .non ∧ Q (.ref x) H2) (E σ)) :
    wpAny (model X.prog X.w) X.A (call (.ref C) us) (EP X pins σ Q) X.xe s := by
  have hq := h (s.heap.objs.size + 1) s.heap.objs.size (I.hok.fresh (Nat.le_succ _)) (I.hok.fresh (Nat.le_refl _)) (Nat.ne_of_lt (Nat.lt_succ_self _))
  have I2 := Inv.made (C := C) I
  have r2 : Vals (V.ref (s.heap.objs.size + 1) :: vs) (Value.ref (s.heap.objs.size + 1) :: us) := .cons rfl r
  have hl : (Value.ref (s.heap.objs.size + 1) :: us).length = ps.length := by
    have e := r2.length
    rw [F.len _ _ _ _ hq] at e
    exact e.symm
  have b := hb _ (Value.ref (s.heap.objs.size + 1) :: us) I2.kIn (by rw [List.append_nil]; exact hl)
  rw [List.append_nil] at b
  refine wpAny_call (make_map (f := f) I.kIn M.makes M.init (beq_iff_eq.mp M.fn) (codeAny_mono (F.run _ X.stack _ _ ⟨Value.ref (s.heap.objs.size + 1) :: us, []⟩ (Value.ref (s.heap.objs.size + 1) :: us) _ _ (E σ) (hr.make C us [])
    (I2.env0.make C us []) b r2 hq) fun r s' hq' => ?_))
  cases r with
  | error e => exact hx pins _ _ e s' I2 hq'
  | ok fl =>
    cases fl with
    | ret u =>
      obtain ⟨v, H', I3, rv, ev, q3⟩ := I2.after hq'
      subst ev
      exact ⟨rv, ⟨V.ref (s.heap.objs.size + 1), H', I3, rfl, q3⟩⟩
    | next => exact False.elim hq'
    | brk => exact False.elim hq'
    | cont => exact False.elim hq'
/-- C(e, ..), within a try -/
def tMakeS (C : Addr) (sp : Sp) (E : L2.St → XK) (t : TA) : TE := fun σ H Q => t σ H fun vs H1 => ∀ x dx, H1 x = none → H1 dx = none → dx ≠ x → sp (.ref x :: vs) (upd (upd H1 dx (.own x)) x (.ins C dx [])) (fun v H2 => v = .non ∧ Q (.ref x) H2) (E σ)
theorem pe_makeS (M : Mk X.K C f) (F : FnOk X.prog X.w X.K X.mg X.base CX k f fd ps sp) (hr : Room (k + 1) X.A) (hg : Gl X x) (hm : X.mg x = some (.ref C)) (hb : Binds X.K fd ps []) (hx : ∀ σ, PassesAt CX X σ (E σ))
    (ha : PA X (e :: es) t) (hdb : (x == ("__debug__" : Str)) = false := by decide) (he : starEach (e :: es) X.env = (false, eval e X.env) :: starEach es X.env := by rfl) (hpl : (backTo pos (starEach es X.env)).any (·.1) = false := by rfl) :
    PE X (.Call (.Name x p) (e :: es) [] pos) (tMakeS C sp E t) := by
  refine ⟨fun pins s σ H Q I h => ?_⟩
  refine wpAny_Call_Name_kw (ld_glob I hg hm ?_ hdb)
  refine PySem.W.callWith_K (h₀ := X.base) I.ok.mod.kin M.kp (thn (ha.run pos pins s σ H _ I h) fun us s1 ⟨vs, H1, I1, r, q⟩ => ⟨I1.kIn, ?_⟩) he hpl
  exact run_makeS M F hr hb (hx σ) I1 r q
def rLenOwn (C : Addr) (sp : Sp) : List V → Hp → VK → Prop := fun xs H Q => ∃ a dx fs, xs = [V.ref a] ∧ H a = some (.ins C dx fs) ∧ sp [.ref a] H (fun v H' => ∃ n : Int, v = .int n ∧ 0 ≤ n ∧ n < 2 ^ 63 ∧ Q (.int n) H') E0
theorem lenOwn (F : FnOk X.prog X.w X.K X.mg X.base CX0 k f fd ["self"] sp) (hr : Room (k + 1) X.A) (hl : PySem.W.findIn X.K (.ref C) "__len__" = some (some (.ref f))) (hf : PySem.W.isFn X.K (.ref f) = true) (hb : Binds X.K fd ["self"] []) :
    CallR X (.builtin "len") (rLenOwn C sp) := by
  intro pins s σ H xs us Q I r h
  obtain ⟨a, dx, fs, rfl, ha, q⟩ := h
  rw [Vals.ref1 r]
  obtain ⟨mA, J, _⟩ := ins_get I.hok ha
  obtain ⟨od, J, _⟩ := J.look
  obtain ⟨m, hF⟩ := I.fr
  have b := hb s [.ref a] I.kIn rfl
  refine PySem.W.len_K hF I.ok.mod.kin J hl hf ?_
  refine wpAny_call (codeAny_mono (F.run X.A.in1 X.stack s H ⟨[.ref a], []⟩ [.ref a] [.ref a] _ E0 hr.in1 I.env0.in1 b (.cons rfl .nil) q) fun r s' hq => ?_)
  cases r with
  | error e => exact False.elim hq
  | ok fl =>
    cases fl with
    | ret u =>
      obtain ⟨v, H', I', rv, n, rfl, h0, h1, q'⟩ := I.after hq
      obtain ⟨t, rfl⟩ := rv
      exact ⟨⟨h0, h1⟩, .int n, H', I'.tok _, ⟨_, rfl⟩, q'⟩
    | next => exact False.elim hq
    | brk => exact False.elim hq
    | cont => exact False.elim hq
end
end Eh
set_option Elab.async false
set_option linter.all false
set_option maxRecDepth 100000
namespace Eh
open PySem PySem.Spec PyProof.Rows L2
/-- what it takes to raise and to catch an own error without an __init__ -/
structure ErrC (K : PySem.W.Frag) (mg : Str → Option Value) (x : Str) (C : Addr) : Prop where
  g : mg x = some (.ref C)
  q : PySem.W.excIn K C [.type "ValueError", .type "Exception", .type "BaseException", .type "object"] "ValueError.__new__" = true
  k : PySem.W.keepIn K (.ref C) = true
  b : PySem.W.subIn K (.ref C) (.type "BaseException") = some true
  t : PySem.W.typeIn K (.ref C) = some (.type "type")
  e : PySem.W.exmOne K (.ref C) (.ref C) = some true
/-- the class Promise -/
structure PromC (K : PySem.W.Frag) (mg : Str → Option Value) (C fI fL : Addr) : Prop where
  g : mg "Promise" = some (.ref C)
  mkC : Mk K C fI
  cl : Cls K C
  nn : NoAttr K C "_nodes"
  ln : PySem.W.findIn K (.ref C) "__len__" = some (some (.ref fL))
  lf : PySem.W.isFn K (.ref fL) = true
section
variable {P : Program} {w : World} {K : PySem.W.Frag} {mg : Str → Option Value} {base : Heap}
/-- what stands stays, but the new object at x -/
def But (x : Addr) (H H' : Hp) : Prop := ∀ b o, b ≠ x → H b = some o → H' b = some o
def spInit (K : PySem.W.Frag) (C CE : Addr) : Sp := fun vs H Q E => ∃ x dx v nds b, vs = [.ref x, v] ∧ H x = some (.ins C dx []) ∧ NodesV K H v nds b ∧ Few nds b ∧
  (b = true → ∀ H', But x H H' → H' x = some (.ins C dx [(("_nodes" : Str), v)]) → Q .non H') ∧ (b = false → ∀ H', Same H H' → E (.ref CE) none H')
theorem ok_init {C fL CE fA f : Addr} {fdA fd : FuncData} (F : Fun K "__init__" "Promise.__init__" s_Promise___init__ f fd) (T : Txt mg) (R : ErrC K mg "InvalidPromise" CE) (PC : PromC K mg C f fL)
    (C__are_nodes : Cal P w K mg base 3 "_are_nodes" fA fdA ["value"] (spAre K)) : FnOk P w K mg base (L2.CX P w) 4 f fd ["self", "nodes"] (spInit K C CE) := by
  refine F.okX sc_Promise___init__ (fun vs H Q E h => ?_) (fun cdv A outer s H vs Q E hr h => ?_)
  · obtain ⟨x, dx, v, nds, b, rfl, _⟩ := h
    rfl
  · obtain ⟨x, dx, v, nds, b, rfl, ex, hv, few, q1, q2⟩ := h
    refine ⟨_, (pss_cons (ps_if (pt_not (pt_val (pe_call C__are_nodes.G hr (by rfl) C__are_nodes.m C__are_nodes.k C__are_nodes.b .nil pass0 (pa_cons (pv 1) pa_nil))))
      (pss_one (ps_raise rfl (takes_of rfl rfl rfl rfl) (pmk_own PySem.F.excBase_ValueError R.q R.g R.k (raises_own R.b R.t) rfl))) pss_nil)
      (pss_one (ps_fld (pv 0) (pv 1) rfl))), ?_⟩
    refine ⟨_, rfl, v, nds, b, rfl, hv, few, fun H1 s1 => ⟨_, rfl, ?_⟩⟩
    cases b with
    | false => exact iteT (q2 rfl H1 s1)
    | true =>
      refine iteF ?_
      refine ⟨_, rfl, _, rfl, x, C, dx, [], rfl, s1 _ _ ex, PC.cl, PC.nn, by decide, ?_⟩
      exact q1 rfl _ (fun b o n e => by rw [upd_ne n]; exact s1 b o e) upd_same
def spLen (K : PySem.W.Frag) (C : Addr) : Sp := fun vs H Q _ => ∃ x dx fs p xs, vs = [.ref x] ∧ H x = some (.ins C dx fs) ∧ fs.lookup ("_nodes" : Str) = some (.ref p) ∧ SqT K H p xs ∧ Q (.int xs.length) H
theorem ok_len {C fI f : Addr} {fd : FuncData} (F : Fun K "__len__" "Promise.__len__" s_Promise___len__ f fd) (T : Txt mg) (PC : PromC K mg C fI f) : FnOk P w K mg base CX0 1 f fd ["self"] (spLen K C) := by
  refine F.ok sc_Promise___len__ (fun vs H Q E h => ?_) (fun cdv A outer s H vs Q E hr h => ?_)
  · obtain ⟨x, dx, fs, p, xs, rfl, _⟩ := h
    rfl
  · obtain ⟨x, dx, fs, p, xs, rfl, ex, hl, hs, q⟩ := h
    refine ⟨_, (pss_one (ps_ret (pe_callB (lenQ (K := K) rfl) (by rfl) T.len_ (by decide +kernel) (pa_cons (pe_fld (pv 0) rfl) pa_nil)))), ?_⟩
    exact ⟨_, rfl, x, C, dx, fs, .ref p, rfl, ex, PC.cl, PC.nn, hl, .inl ⟨p, xs, rfl, .inr hs, q⟩⟩
end
end Eh
set_option Elab.async false
set_option linter.all false
set_option maxRecDepth 100000
namespace Eh
open PySem PySem.Spec PyProof.Rows L2
section
variable {X : Cx}
def rEqEL (K : PySem.W.Frag) : R2 := fun x y H Q => ∃ p q xs, x = .ref p ∧ y = .ref q ∧ SqL K H p xs ∧ SqL K H q [] ∧ Q (.bl (decide (xs.length = 0))) H
theorem eqEL {K : PySem.W.Frag} (h : X.K = K) (hu : X.A.units < cLine) : OpR X (compareOp .Eq) (rEqEL K) := by
  subst h
  intro pins s σ H x y v u Q I rx ry h
  obtain ⟨p, q, xs, rfl, rfl, hp, hq, hQ⟩ := h
  cases rx
  cases ry
  obtain ⟨its, r, pl, hz⟩ := I.list hp
  obtain ⟨its2, r2, pl2, hz2⟩ := I.list hq
  cases r2
  have hl := r.length
  by_cases e : xs.length = 0
  · rw [decide_eq_true e] at hQ
    have hs : its.toArray.size = 0 := by rw [List.size_toArray, ← hl, e]
    refine SeqAt.RcAt.lists (e := fun _ => true) pl.isList pl2.isList hs hu (fun j h1 h2 => absurd h2 (Nat.not_lt_zero _)) X.prog X.w _ _ ⟨.bl _, H, I, rfl, ?_⟩
    rw [hs]
    exact hQ
  · rw [decide_eq_false e] at hQ
    have hs : its.toArray.size ≠ 0 := by rw [List.size_toArray, ← hl]; exact e
    exact SeqAt.RcAt.lists_lengths pl.isList pl2.isList (by show (its.toArray.size != 0) = true; exact bne_iff_ne.mpr hs) hu X.prog X.w _ _ ⟨.bl _, H, I, rfl, hQ⟩
end
end Eh
set_option Elab.async false
set_option linter.all false
set_option maxRecDepth 100000
namespace Eh
open PySem PySem.Spec PyProof.Rows L2
def ascB (z : Str) : Bool := decide (z.length < 1000000) && z.cps.toList.all fun c => decide (c < 128)
theorem asc_of {z : Str} (h : ascB z = true) : Asc z := by
  unfold ascB at h
  rw [Bool.and_eq_true] at h
  exact ⟨of_decide_eq_true h.1, fun c hc => of_decide_eq_true (List.all_eq_true.mp h.2 c hc)⟩
theorem eltS {K : PySem.W.Frag} {H : Hp} (z : Str) (h : ascB z = true) : Elt K H (.str z) := .inl ⟨z, rfl, asc_of h⟩
theorem eltI {K : PySem.W.Frag} {H : Hp} (i : Int) : Elt K H (.int i) := .inr (.inl ⟨i, rfl⟩)
theorem eltB {K : PySem.W.Frag} {H : Hp} (b : Bool) : Elt K H (.bl b) := .inr (.inr (.inl ⟨b, rfl⟩))
theorem eltN {K : PySem.W.Frag} {H : Hp} : Elt K H .non := .inr (.inr (.inr (.inl rfl)))
def ToldOk (K : PySem.W.Frag) (H : Hp) (b : V) : Prop := Elt K H b ∧ ∀ z, b = .str z → factS z = true → z ∈ uni6
theorem ToldOk.tk {K : PySem.W.Frag} {H H' : Hp} {b : V} (h : ToldOk K H b) (t : Tk H H') : ToldOk K H' b := ⟨h.1.tk t, h.2⟩
theorem toldE {K : PySem.W.Frag} {H : Hp} {b : V} (h : Elt K H b) (n : ∀ z, b ≠ .str z) : ToldOk K H b := ⟨h, fun z e => absurd e (n z)⟩
/-- its told fact, if it is a node of one, is among six -/
def FactOk (n : Option (Str × V)) : Prop := ∀ k z, n = some (k, .str z) → z ∈ uni6
def BNode (K : PySem.W.Frag) (H : Hp) (v : V) : Prop := ∃ n, NdV K H v n ∧ FactOk n
theorem BNode.ku {K : PySem.W.Frag} {H H' : Hp} {v : V} (h : BNode K H v) (k : Ku H H') : BNode K H' v := by
  obtain ⟨n, a, b⟩ := h
  exact ⟨n, a.ku k, b⟩
theorem node_str {k z : Str} (h : nodeAB k (.str z) = true) : factS z = true := by
  unfold nodeAB at h
  split at h
  · exact h
  · split at h
    · cases h
    · rw [Bool.and_eq_true] at h
      cases h.2
def BAll (K : PySem.W.Frag) (H : Hp) (xs : List V) : Prop := ∀ v ∈ xs, BNode K H v
theorem BAll.ku {K : PySem.W.Frag} {H H' : Hp} {xs : List V} (h : BAll K H xs) (k : Ku H H') : BAll K H' xs := fun v hv => (h v hv).ku k
theorem facts_ok {nds : List (Option (Str × V))} (h : ∀ n ∈ nds, FactOk n) : ∀ ns : List (Str × V), nds = ns.map some → ∀ z ∈ factsN ns, z ∈ uni6 := fun ns e z hz => by
  unfold factsN at hz
  obtain ⟨⟨k, t⟩, hn, hf⟩ := List.mem_filterMap.mp hz
  have hm : some (k, t) ∈ nds := by rw [e]; exact List.mem_map_of_mem hn
  split at hf
  · cases t with
    | str y =>
      cases hf
      exact h _ hm k z rfl
    | _ => cases hf
  · cases hf
theorem few_of {nds : List (Option (Str × V))} (h : ∀ n ∈ nds, FactOk n) (l : nds.length ≤ 15) : Few nds (okNs nds) := ⟨by omega, .inl l, facts_ok h⟩
theorem ixN_nat {n a : Nat} (h : a < n) : ixN n (a : Int) = some a := by
  unfold ixN
  rw [if_pos (by omega), if_pos (by omega), Int.toNat_natCast]
theorem asc_uni {z : Str} (h : z ∈ uni6) : ascB z = true := by
  unfold uni6 at h
  simp only [List.mem_cons, List.not_mem_nil, or_false] at h
  rcases h with rfl | rfl | rfl | rfl | rfl | rfl <;> decide +kernel
theorem asc_kind {k : Str} {t : V} (h : nodeAB k t = true) : ascB k = true := by
  unfold nodeAB at h
  by_cases h1 : factKinds.contains k = true
  · unfold factKinds at h1
    rw [List.contains_iff_mem] at h1
    simp only [List.mem_cons, List.not_mem_nil, or_false] at h1
    rcases h1 with rfl | rfl <;> decide +kernel
  · rw [if_neg h1] at h
    by_cases h2 : sureKinds.contains k = true
    · unfold sureKinds at h2
      rw [List.contains_iff_mem] at h2
      simp only [List.mem_cons, List.not_mem_nil, or_false] at h2
      rcases h2 with rfl | rfl <;> decide +kernel
    · rw [if_neg h2, Bool.and_eq_true] at h
      rcases node_cases h.1 with rfl | rfl | rfl | rfl <;> decide +kernel
/-- a node of a promise, as it stands -/
theorem good_elt {K : PySem.W.Frag} {H : Hp} {k : Str} {t : V} (h : nodeAB k t = true) (hu : ∀ z, t = .str z → z ∈ uni6) : Elt K H (.str k) ∧ ToldOk K H t := by
  refine ⟨eltS k (asc_kind h), ?_⟩
  cases t with
  | str z => exact ⟨eltS z (asc_uni (hu z rfl)), fun y e _ => hu y e⟩
  | int i => exact toldE (eltI i) fun z e => nomatch e
  | bl b => exact toldE (eltB b) fun z e => nomatch e
  | non => exact toldE eltN fun z e => nomatch e
  | _ =>
    exfalso
    unfold nodeAB at h
    split at h
    · cases h
    · split at h
      · cases h
      · rw [Bool.and_eq_true] at h
        cases h.2
end Eh
set_option Elab.async false
set_option linter.all false
set_option maxRecDepth 100000
set_option maxHeartbeats 4000000
namespace Eh
open PySem PySem.Spec PyProof.Rows L2
theorem fact_uni {z : Str} (h : z ∈ uni6) : factS z = true := by
  unfold uni6 at h
  simp only [List.mem_cons, List.not_mem_nil, or_false] at h
  rcases h with rfl | rfl | rfl | rfl | rfl | rfl <;> decide +kernel
theorem leaf_good {k : Str} {t : V} (o : leafOk k t = true) (w : ∀ z, t = .str z → z ∈ uni6) : nodeAB k t = true ∧ partsN (k, t) = 0 := by
  unfold leafOk at o
  cases t with
  | str z =>
    have hz : factV (.str z) = true := fact_uni (w z rfl)
    rcases (Bool.or_eq_true _ _).mp o with h | h
    · rw [eq_of_beq h]
      exact ⟨by unfold nodeAB; rw [if_pos (by decide +kernel)]; exact hz, by unfold partsN; rw [if_neg (show ¬ nodeKinds.contains "fact" = true by decide +kernel)]⟩
    · rw [eq_of_beq h]
      exact ⟨by unfold nodeAB; rw [if_pos (by decide +kernel)]; exact hz, by unfold partsN; rw [if_neg (show ¬ nodeKinds.contains "not" = true by decide +kernel)]⟩
  | int i =>
    obtain ⟨h, h0⟩ := (Bool.and_eq_true _ _).mp o
    have h0 : i = 0 := of_decide_eq_true h0
    subst h0
    rcases (Bool.or_eq_true _ _).mp h with h | h
    · rw [eq_of_beq h]
      exact ⟨by decide +kernel, by decide +kernel⟩
    · rw [eq_of_beq h]
      exact ⟨by decide +kernel, by decide +kernel⟩
  | _ => cases o
theorem InW.left {ws : List Str} {a b : List (Str × V)} (h : InW ws (a ++ b)) : InW ws a := fun k z m => h k z (List.mem_append_left _ m)
theorem InW.right {ws : List Str} {a b : List (Str × V)} (h : InW ws (a ++ b)) : InW ws b := fun k z m => h k z (List.mem_append_right _ m)
mutual
theorem At.due {K : PySem.W.Frag} {H : Hp} : ∀ {v : V} {p : Pl}, At K H v p → InW uni6 (nodesOf p) → (∀ l rest, dueGo (l + 1) (nodesOf p ++ rest) = dueGo l rest) ∧ GoodN (nodesOf p)
  | _, _, .leaf (k := k) (t := t) h o, w => by
    rw [nodesOf] at w ⊢
    obtain ⟨g1, g2⟩ := leaf_good o fun z e => w k z (by rw [e]; exact List.mem_cons_self)
    refine ⟨fun l rest => ?_, fun n hn => ?_⟩
    · show dueGo (l + partsN (k, t)) rest = _
      rw [g2]
      rfl
    · rw [List.mem_singleton.mp hn]
      exact g1
  | _, _, .node (k := k) (ps := ps) h1 h2 o a b r, w => by
    rw [nodesOf] at w ⊢
    obtain ⟨g1, g2⟩ := AtAll.due r fun x z m => w x z (List.mem_cons_of_mem _ m)
    refine ⟨fun l rest => ?_, fun n hn => ?_⟩
    · show dueGo (l + partsN (k, .int (ps.length : Int))) (nodesAll ps ++ rest) = _
      have e : partsN (k, .int (ps.length : Int)) = ps.length := by
        unfold partsN
        rw [if_pos (show nodeKinds.contains k = true from o)]
        exact Int.toNat_natCast _
      rw [e]
      exact g1 l rest
    · rcases List.mem_cons.mp hn with e | e
      · rw [e]
        unfold nodeAB
        have f := node_not_fact (k := k) o
        rw [f.1, f.2, show nodeKinds.contains k = true from o]
        show (true && (decide ((2 : Int) ≤ ps.length) && decide ((ps.length : Int) ≤ 4))) = true
        rw [decide_eq_true (by omega), decide_eq_true (by omega)]
        rfl
      · exact g2 n e
theorem AtAll.due {K : PySem.W.Frag} {H : Hp} : ∀ {vs : List V} {ps : List Pl}, AtAll K H vs ps → InW uni6 (nodesAll ps) → (∀ l rest, dueGo (l + ps.length) (nodesAll ps ++ rest) = dueGo l rest) ∧ GoodN (nodesAll ps)
  | _, _, .nil, w => by
    rw [nodesAll]
    exact ⟨fun l rest => rfl, fun n h => nomatch h⟩
  | _, _, .cons (p := p) (ps := ps) h r, w => by
    rw [nodesAll] at w ⊢
    obtain ⟨a1, a2⟩ := At.due h w.left
    obtain ⟨b1, b2⟩ := AtAll.due r w.right
    refine ⟨fun l rest => ?_, fun n hn => (List.mem_append.mp hn).elim (a2 n) (b2 n)⟩
    rw [List.append_assoc, List.length_cons, show l + (ps.length + 1) = (l + ps.length) + 1 from rfl, a1, b1]
end
theorem nds_all {K : PySem.W.Frag} {H : Hp} : ∀ {xs : List V} {ns : List (Str × V)}, NdsAt K H xs ns → GoodN ns → InW uni6 ns → NdAll K H xs (ns.map some)
  | _, _, .nil, _, _ => .nil
  | _, _, .cons (k := k) (t := t) (ns := ns) h r, g, w => by
    have hg := g _ List.mem_cons_self
    obtain ⟨e1, e2⟩ := good_elt (K := K) (H := H) hg fun z e => w k z (by rw [show t = V.str z from e]; exact List.mem_cons_self)
    have e : pairNd (.str k) t = some (k, t) := by
      show (if nodeAB k t = true then some (k, t) else none) = _
      rw [if_pos hg]
    have p := NdV.pair h e1 e2.1
    rw [e] at p
    exact .cons p (nds_all r (fun n hn => g n (List.mem_cons_of_mem _ hn)) fun x z m => w x z (List.mem_cons_of_mem _ m))
theorem NdAll.app {K : PySem.W.Frag} {H : Hp} : ∀ {xs ys : List V} {a b : List (Option (Str × V))}, NdAll K H xs a → NdAll K H ys b → NdAll K H (xs ++ ys) (a ++ b)
  | _, _, _, _, .nil, h => h
  | _, _, _, _, .cons x r, h => .cons x (r.app h)
theorem fact_some {ns : List (Str × V)} (w : InW uni6 ns) : ∀ n ∈ ns.map some, FactOk n := fun n hn k z e => by
  obtain ⟨x, hx, rfl⟩ := List.mem_map.mp hn
  cases e
  exact w k z hx
/-- a value that is no promise's nodes -/
def Odd (K : PySem.W.Frag) (H : Hp) (v : V) : Prop := ∃ nds, NodesV K H v nds false ∧ Few nds false
theorem Odd.ku {K : PySem.W.Frag} {H H' : Hp} {v : V} (h : Odd K H v) (k : Ku H H') : Odd K H' v := by
  obtain ⟨nds, a, b⟩ := h
  exact ⟨nds, a.ku k, b⟩
end Eh
set_option Elab.async false
set_option linter.all false
set_option maxRecDepth 100000
namespace Eh
open PySem PySem.Spec PyProof.Rows L2
mutual
def depthOf : Pl → Nat
  | .leaf _ _ => 1
  | .node _ ps => 1 + depthAll ps
def depthAll : List Pl → Nat
  | [] => 0
  | p :: ps => max (depthOf p) (depthAll ps)
end
theorem depth_get : ∀ {ps : List Pl} {i : Nat} {p : Pl}, ps[i]? = some p → depthOf p ≤ depthAll ps
  | [], _, _, h => by simp at h
  | q :: ps, 0, p, h => by
    cases (show some q = some p from h)
    rw [depthAll]
    exact Nat.le_max_left _ _
  | q :: ps, i + 1, p, h => by
    have := depth_get (ps := ps) (i := i) h
    rw [depthAll]
    exact Nat.le_trans this (Nat.le_max_right _ _)
theorem depth_mem : ∀ {ps : List Pl}, ps ≠ [] → ∃ p ∈ ps, depthOf p = depthAll ps
  | [], h => absurd rfl h
  | [q], _ => ⟨q, List.mem_cons_self, by rw [depthAll, depthAll]; exact (Nat.max_eq_left (Nat.zero_le _)).symm⟩
  | q :: r :: ps, _ => by
    obtain ⟨p, hp, e⟩ := depth_mem (ps := r :: ps) (by simp)
    rw [depthAll]
    by_cases h : depthOf q ≤ depthAll (r :: ps)
    · exact ⟨p, List.mem_cons_of_mem _ hp, by rw [e, Nat.max_eq_right h]⟩
    · exact ⟨q, List.mem_cons_self, by rw [Nat.max_eq_left (by omega)]⟩
theorem at_good {K : PySem.W.Frag} {H : Hp} {v : V} {pl : Pl} (h : At K H v pl) (w : InW uni6 (nodesOf pl)) (l : (nodesOf pl).length ≤ 15) : dueGo 1 (nodesOf pl) = true ∧ GoodN (nodesOf pl) ∧ okNs ((nodesOf pl).map some) = true ∧ Few ((nodesOf pl).map some) true := by
  obtain ⟨du, gd⟩ := h.due w
  have hd : dueGo 1 (nodesOf pl) = true := by
    have := du 0 []
    rw [List.append_nil] at this
    exact this
  have ok : okNs ((nodesOf pl).map some) = true := by rw [not_due_of rfl]; exact hd
  have fw := few_of (nds := (nodesOf pl).map some) (fact_some w) (by rw [List.length_map]; exact l)
  rw [ok] at fw
  exact ⟨hd, gd, ok, fw⟩
section
variable {P : Program} {w : World} {K : PySem.W.Frag} {mg : Str → Option Value} {base : Heap}
def spDepthL (K : PySem.W.Frag) (n : Nat) : Sp := fun vs H Q _ => ∃ v pl, vs = [v] ∧ At K H v pl ∧ (nodesOf pl).length ≤ n ∧ n < 1000 ∧ ∀ H', Same H H' → Q (.int (depthOf pl)) H'
theorem ok_depth {f fL : Addr} {fd fdL : FuncData} (F : Fun K "_law_depth" "_law_depth" s__law_depth f fd) (T : Txt mg) (C__law_is_leaf : Cal P w K mg base 1 "_law_is_leaf" fL fdL ["plain"] (spIsLeaf K))
    (m : mg "_law_depth" = some (.ref f)) (kp : PySem.W.keepIn K (.ref f) = true) (b : Binds K fd ["plain"] []) : ∀ n : Nat, FnOk P w K mg base CX0 (n + 1) f fd ["plain"] (spDepthL K n)
  | 0 => F.ok sc__law_depth (fun vs H Q E h => by
      obtain ⟨v, pl, rfl, _⟩ := h
      rfl) (fun cdv A outer s H vs Q E hr h => by
      obtain ⟨v, pl, rfl, _, h0, _⟩ := h
      have := nodesOf_pos pl
      omega)
  | n + 1 => by
    have G := ok_depth F T C__law_is_leaf m kp b n
    refine F.ok sc__law_depth (fun vs H Q E h => ?_) (fun cdv A outer s H vs Q E hr h => ?_)
    · obtain ⟨v, pl, rfl, _⟩ := h
      rfl
    · obtain ⟨v, pl, rfl, hA, hn, hn1, q⟩ := h
      have hr1 := hr.mono (j := 1) (by omega)
      refine ⟨_, (pss_cons (ps_if (pt_val (pe_call C__law_is_leaf.G hr1 (by rfl) C__law_is_leaf.m C__law_is_leaf.k C__law_is_leaf.b .nil pass0 (pa_cons (pv 0) pa_nil)))
  (pss_one (ps_ret pe_int))
  pss_nil)
  (pss_one (ps_ret (pe_op op_add pe_int (pe_callB (cr_max (by rfl)) (by rfl) T.max_ (by decide +kernel) (pa_cons (pe_lc (own := [("part", 1)]) (g := gName 1) (by rfl) sc__law_depth.nd (pi_tup (pe_ix (ixT (K := K) rfl) (pv 0) pe_int (fun _ _ => rfl))) (blkOk_by (by kernel_rfl)) (fun _ _ _ _ _ => (pg_name (i := 1) sc__law_depth.nd rfl (.inl rfl))) (fun _ _ _ _ _ => pts_nil) (fun _ _ _ _ _ => (pe_call G hr (by rfl) m kp b .nil pass0 (pa_cons (pv 1) pa_nil)))) pa_nil)))))), ?_⟩
      refine ⟨_, rfl, v, pl, rfl, hA, fun H1 s1 => ⟨_, rfl, ?_⟩⟩
      cases hA with
      | leaf h o =>
        refine iteT ?_
        have q' := q _ s1
        rw [depthOf] at q'
        exact q'
      | node h1 h2 o a1 a2 r =>
        rename_i a c k vs ps
        refine iteF ?_
        have hlen := r.length
        have hn' : (nodesAll ps).length ≤ n := by
          rw [nodesOf, List.length_cons] at hn
          omega
        refine ⟨_, rfl, a, _, 1, .ref c, rfl, rfl, (stk s1).seq h1, rfl, c, rfl, ⟨vs, (stk s1).seq h2⟩, fun D nD => ?_⟩
        have nDH : H D = none := s1.free nD
        have s2 := s1.trans (same_new (o := .lst []) nD)
        refine lcT (K := K) (a := c) (xs := vs) (fun j acc H2 => Same H H2 ∧ acc = ((ps.take j).map fun p => V.int (depthOf p))) ⟨s2, rfl⟩ (fun j acc H2 h => (stk h.1).seq h2) ?_ ?_
        · rintro j x acc H2 hx hl e ⟨s3, ea⟩
          obtain ⟨p2, hp2, hA2⟩ := r.get hx
          have hj : j < 4 := by
            have := (List.getElem?_eq_some_iff.mp hx).1
            omega
          refine yesT ⟨_, rfl, x, p2, rfl, hA2.tk (stk s3), Nat.le_trans (nodesOf_get hp2) hn', by omega, fun H4 s4 => ?_⟩
          refine LcK.mk hl (by omega) (s4 _ _ e) ⟨fun b' o' eb => ?_, ?_⟩
          · rw [upd_ne (ne_of_none eb nDH)]
            exact s4 _ _ (s3 b' o' eb)
          · rw [ea, take_succ' hp2, List.map_append]
            rfl
        · rintro acc H2 hl e ⟨s3, ea⟩
          rw [hlen, List.take_length] at ea
          refine ⟨D, ps.map fun p => (depthOf p : Int), rfl, SqL.of (e.trans (by rw [ea, List.map_map]; rfl)), by rw [List.length_map]; omega, fun mx hm hall => ?_⟩
          refine ⟨_, _, rfl, rfl, ?_⟩
          have emx : mx = (depthAll ps : Int) := by
            obtain ⟨p1, hp1, e1⟩ := List.mem_map.mp hm
            obtain ⟨i1, hi1⟩ := List.mem_iff_getElem?.mp hp1
            have u1 := depth_get hi1
            obtain ⟨p2, hp2, e2⟩ := depth_mem (ps := ps) (fun z => by rw [z] at a1; exact absurd a1 (by decide))
            have u2 := hall _ (List.mem_map.mpr ⟨p2, hp2, rfl⟩)
            omega
          have q' := q _ s3
          rw [depthOf] at q'
          rw [emx]
          exact q'
end
end Eh
set_option Elab.async false
set_option linter.all false
set_option maxRecDepth 100000
namespace Eh
open PySem PySem.Spec PyProof.Rows L2
def signOf (k : Str) : Str := if k = "all" then " & " else if k = "mine" then " + " else if k = "some" then " | " else " * "
def brack (k : Str) (ts : List Str) : Str := if choiceKinds.contains k = true then "[" ++ Txt.join (signOf k) ts ++ "]" else "(" ++ Txt.join (signOf k) ts ++ ")"
def plainT (k : Str) (t : V) : Str := match t with
  | .str z => if k = "fact" then z else "!" ++ z
  | _ => k
mutual
def textOf : Pl → Str
  | .leaf k t => plainT k t
  | .node k ps => brack k (textAll ps)
def textAll : List Pl → List Str
  | [] => []
  | p :: ps => textOf p :: textAll ps
end
theorem textAll_length : ∀ ps : List Pl, (textAll ps).length = ps.length
  | [] => by rw [textAll]; rfl
  | p :: ps => by rw [textAll, List.length_cons, List.length_cons, textAll_length ps]
/-- what stands on the stack behind nodes, read from behind; the first on top -/
def stackT : List (Str × V) → List Str
  | [] => []
  | n :: ns => if nodeKinds.contains n.1 = true then brack n.1 ((stackT ns).take (partsN n)) :: (stackT ns).drop (partsN n) else plainT n.1 n.2 :: stackT ns
mutual
theorem At.stack {K : PySem.W.Frag} {H : Hp} : ∀ {v : V} {p : Pl}, At K H v p → ∀ rest, stackT (nodesOf p ++ rest) = textOf p :: stackT rest
  | _, _, .leaf (k := k) (t := t) h o, rest => by
    rw [nodesOf, textOf]
    show (if nodeKinds.contains k = true then _ else _) = _
    rw [if_neg]
    · rfl
    · intro z
      have h1 := leaf_kind o
      rw [node_kind z] at h1
      cases h1
  | _, _, .node (k := k) (ps := ps) h1 h2 o a b r, rest => by
    have ih := AtAll.stack r rest
    rw [nodesOf, textOf]
    show (if nodeKinds.contains k = true then brack k ((stackT (nodesAll ps ++ rest)).take (partsN (k, .int (ps.length : Int)))) :: (stackT (nodesAll ps ++ rest)).drop (partsN (k, .int (ps.length : Int))) else _) = _
    have e : partsN (k, .int (ps.length : Int)) = (textAll ps).length := by
      rw [textAll_length]
      unfold partsN
      rw [if_pos (show nodeKinds.contains k = true from o)]
      exact Int.toNat_natCast _
    rw [if_pos (show nodeKinds.contains k = true from o), ih, e, List.take_left, List.drop_left]
theorem AtAll.stack {K : PySem.W.Frag} {H : Hp} : ∀ {vs : List V} {ps : List Pl}, AtAll K H vs ps → ∀ rest, stackT (nodesAll ps ++ rest) = textAll ps ++ stackT rest
  | _, _, .nil, rest => by rw [nodesAll, textAll]; rfl
  | _, _, .cons (p := p) (ps := ps) h r, rest => by
    rw [nodesAll, textAll, List.append_assoc, At.stack h, AtAll.stack r]
    rfl
end
end Eh
set_option Elab.async false
set_option linter.all false
set_option maxRecDepth 100000
set_option maxHeartbeats 2000000
namespace Eh
open PySem PySem.Spec PyProof.Rows L2
structure SgnV (K : PySem.W.Frag) (w : World) (mg : Str → Option Value) (p : Addr) : Prop where
  g : mg "SIGNS" = some (.ref p)
  v : ∀ k, nodeKinds.contains k = true → KDct K w p k (.str (signOf k))
theorem sgn_mk {K : PySem.W.Frag} {w : World} {mg : Str → Option Value} {p : Addr} {n : Nat} {h1 h2 h3 h4 : Int} {t1 t2 t3 t4 u1 u2 u3 u4 : Tok} (g : mg "SIGNS" = some (.ref p))
    (l : K.lookup p = some ⟨.type "dict", none, .dict #[⟨h1, .str "all" t1, .str " & " u1⟩, ⟨h2, .str "mine" t2, .str " + " u2⟩, ⟨h3, .str "some" t3, .str " | " u3⟩, ⟨h4, .str "yours" t4, .str " * " u4⟩] n, #[]⟩)
    (hh : PySem.W.KeysLit w.params [⟨h1, .str "all" t1, .str " & " u1⟩, ⟨h2, .str "mine" t2, .str " + " u2⟩, ⟨h3, .str "some" t3, .str " | " u3⟩, ⟨h4, .str "yours" t4, .str " * " u4⟩]) : SgnV K w mg p := by
  refine ⟨g, fun k hk => ?_⟩
  have i (x z : Str) (t : Tok) : (Value.str x t).isStr z = (x == z) := rfl
  have e (z : Str) : PySem.W.nsIn K p z = (match List.find? (fun x => x.key.isStr z) [(⟨h1, .str "all" t1, .str " & " u1⟩ : DictEntry), ⟨h2, .str "mine" t2, .str " + " u2⟩, ⟨h3, .str "some" t3, .str " | " u3⟩, ⟨h4, .str "yours" t4, .str " * " u4⟩] with
          | some e => some (some e.val)
          | none => if (List.any [(⟨h1, .str "all" t1, .str " & " u1⟩ : DictEntry), ⟨h2, .str "mine" t2, .str " + " u2⟩, ⟨h3, .str "some" t3, .str " | " u3⟩, ⟨h4, .str "yours" t4, .str " * " u4⟩] fun x => x.refKey) = true then none else some none) := by
    unfold PySem.W.nsIn
    rw [l]
    rfl
  rcases node_cases hk with rfl | rfl | rfl | rfl
  · exact ⟨_, n, .str " & " u1, l, hh, by rw [e]; simp only [List.find?_cons, i, show (("all" : Str) == "all") = true from by decide +kernel], ⟨u1, rfl⟩⟩
  · exact ⟨_, n, .str " | " u3, l, hh, by rw [e]; simp only [List.find?_cons, i, show (("all" : Str) == "some") = false from by decide +kernel, show (("mine" : Str) == "some") = false from by decide +kernel, show (("some" : Str) == "some") = true from by decide +kernel], ⟨u3, by rw [show signOf "some" = " | " from by decide +kernel]⟩⟩
  · exact ⟨_, n, .str " + " u2, l, hh, by rw [e]; simp only [List.find?_cons, i, show (("all" : Str) == "mine") = false from by decide +kernel, show (("mine" : Str) == "mine") = true from by decide +kernel], ⟨u2, by rw [show signOf "mine" = " + " from by decide +kernel]⟩⟩
  · exact ⟨_, n, .str " * " u4, l, hh, by rw [e]; simp only [List.find?_cons, i, show (("all" : Str) == "yours") = false from by decide +kernel, show (("mine" : Str) == "yours") = false from by decide +kernel, show (("some" : Str) == "yours") = false from by decide +kernel, show (("yours" : Str) == "yours") = true from by decide +kernel], ⟨u4, by rw [show signOf "yours" = " * " from by decide +kernel]⟩⟩
def sumL (ts : List Str) : Nat := (ts.map (·.length)).sum
theorem sumL_cons (a : Str) (ts : List Str) : sumL (a :: ts) = a.length + sumL ts := by
  unfold sumL
  rw [List.map_cons, List.sum_cons]
theorem sumL_take_drop (ts : List Str) (n : Nat) : sumL (ts.take n) + sumL (ts.drop n) = sumL ts := by
  unfold sumL
  rw [← List.sum_append, ← List.map_append, List.take_append_drop]
theorem sapp (a b : Str) : (a ++ b).length = a.length + b.length := Str.length_append a b
theorem join_len (y : Str) : ∀ ts : List Str, (Str.join y ts).length ≤ sumL ts + ts.length * y.length
  | [] => Nat.zero_le _
  | [x] => by
    show x.length ≤ _
    rw [sumL_cons]
    omega
  | x :: z :: r => by
    have ih := join_len y (z :: r)
    show (x ++ y ++ Str.join y (z :: r)).length ≤ _
    rw [sapp, sapp, sumL_cons, List.length_cons, Nat.succ_mul]
    omega
theorem sign_len (k : Str) : (signOf k).length = 3 := by
  unfold signOf
  split
  · decide +kernel
  · split
    · decide +kernel
    · split <;> decide +kernel
theorem brack_len (k : Str) (ts : List Str) : (brack k ts).length ≤ sumL ts + ts.length * 3 + 2 := by
  have h := join_len (signOf k) ts
  rw [sign_len] at h
  unfold brack
  rw [TL.join_eq]
  split <;> rw [sapp, sapp] <;> (show 1 + _ + 1 ≤ _) <;> omega
theorem stack_len : ∀ {ns : List (Str × V)} {l : Nat}, dueGo l ns = true → (stackT ns).length = l
  | [], l, h => by
    have h : decide (l = 0) = true := h
    exact (of_decide_eq_true h).symm
  | n :: ns, 0, h => by cases h
  | n :: ns, l + 1, h => by
    have ih := stack_len (show dueGo (l + partsN n) ns = true from h)
    show (if nodeKinds.contains n.1 = true then _ else _ : List Str).length = _
    by_cases c : nodeKinds.contains n.1 = true
    · rw [if_pos c, List.length_cons, List.length_drop, ih]
      omega
    · rw [if_neg c, List.length_cons, ih]
      unfold partsN
      rw [if_neg c]
theorem due_drop : ∀ {ns : List (Str × V)} {l : Nat}, dueGo l ns = true → ∀ i, ∃ m, dueGo m (ns.drop i) = true
  | ns, l, h, 0 => ⟨l, h⟩
  | [], l, h, i + 1 => ⟨0, rfl⟩
  | n :: ns, 0, h, i + 1 => by cases h
  | n :: ns, l + 1, h, i + 1 => due_drop (show dueGo (l + partsN n) ns = true from h) i
theorem plain_len {k : Str} {t : V} (h : nodeAB k t = true) (c : nodeKinds.contains k = false) : (plainT k t).length ≤ 9 := by
  unfold nodeAB at h
  by_cases h1 : factKinds.contains k = true
  · rw [if_pos h1] at h
    cases t with
    | str z =>
      have hz : factS z = true := h
      have h8 : z.length ≤ 8 := by
        unfold factS at hz
        simp only [Bool.and_eq_true] at hz
        exact (of_decide_eq_true hz.1.1.1).2
      show (if k = "fact" then z else "!" ++ z).length ≤ 9
      split
      · omega
      · rw [sapp]
        show 1 + _ ≤ 9
        omega
    | _ => cases h
  · rw [if_neg h1] at h
    by_cases h2 : sureKinds.contains k = true
    · rw [if_pos h2] at h
      have hk : k.length ≤ 9 := by
        unfold sureKinds at h2
        rw [List.contains_iff_mem] at h2
        simp only [List.mem_cons, List.not_mem_nil, or_false] at h2
        rcases h2 with rfl | rfl <;> decide +kernel
      cases t with
      | int i => exact hk
      | _ => cases h
    · rw [if_neg h2, c] at h
      cases h
theorem stack_sum : ∀ {ns : List (Str × V)}, GoodN ns → sumL (stackT ns) ≤ 16 * ns.length
  | [], _ => Nat.le_refl _
  | n :: ns, g => by
    have ih := stack_sum (fun x hx => g x (List.mem_cons_of_mem _ hx) : GoodN ns)
    have hn := g n List.mem_cons_self
    show sumL (if nodeKinds.contains n.1 = true then _ else _) ≤ _
    rw [List.length_cons]
    by_cases c : nodeKinds.contains n.1 = true
    · rw [if_pos c, sumL_cons]
      have b := brack_len n.1 ((stackT ns).take (partsN n))
      have e := sumL_take_drop (stackT ns) (partsN n)
      obtain ⟨i, et, h2, h4⟩ := good_int hn c
      have hp : ((stackT ns).take (partsN n)).length ≤ 4 := by
        rw [List.length_take]
        unfold partsN
        rw [if_pos c, et]
        show min i.toNat _ ≤ 4
        omega
      omega
    · rw [if_neg c, sumL_cons]
      have := plain_len hn (by cases e : nodeKinds.contains n.1 with | false => rfl | true => exact absurd e c)
      omega
section
variable {P : Program} {w : World} {K : PySem.W.Frag} {mg : Str → Option Value} {base : Heap}
def spPlainT : Sp := fun vs H Q _ => ∃ k t, vs = [.str k, t] ∧ nodeAB k t = true ∧ nodeKinds.contains k = false ∧ Q (.str (plainT k t)) H
theorem ok_plain_text {f : Addr} {fd : FuncData} (F : Fun K "plain_text" "plain_text" s_plain_text f fd) (T : Txt mg) : FnOk P w K mg base CX0 1 f fd ["kind", "told"] spPlainT := by
  refine F.ok sc_plain_text (fun vs H Q E h => ?_) (fun cdv A outer s H vs Q E hr h => ?_)
  · obtain ⟨k, t, rfl, _⟩ := h
    rfl
  · obtain ⟨k, t, rfl, hg, hc, q⟩ := h
    refine ⟨_, (pss_cons (ps_if (pt_cmpR op_eq (pv 0) pe_str (nomark _))
  (pss_one (ps_ret (pv 1)))
  pss_nil)
  (pss_one (ps_ret (pe_ifExp (pt_cmpR op_eq (pv 0) pe_str (nomark _)) (pe_op op_add_str pe_str (pv 1)) (pv 0))))), ?_⟩
    have hl := plain_len hg hc
    unfold nodeAB at hg
    by_cases h1 : factKinds.contains k = true
    · rw [if_pos h1] at hg
      cases t with
      | str z =>
        unfold factKinds at h1
        rw [List.contains_iff_mem] at h1
        simp only [List.mem_cons, List.not_mem_nil, or_false] at h1
        rcases h1 with rfl | rfl
        · refine ⟨_, rfl, rfl, _, rfl, iteT' (by decide +kernel) ⟨_, rfl, ?_⟩⟩
          have e : plainT "fact" (.str z) = z := by
            show (if ("fact" : Str) = "fact" then z else "!" ++ z) = z
            rw [if_pos rfl]
          rw [e] at q
          exact q
        · refine ⟨_, rfl, rfl, _, rfl, iteF' (by decide +kernel) ?_⟩
          refine ⟨_, rfl, rfl, _, rfl, iteT' (by decide +kernel) ?_⟩
          have e : plainT "not" (.str z) = "!" ++ z := by
            show (if ("not" : Str) = "fact" then z else "!" ++ z) = _
            rw [if_neg (by decide +kernel)]
          rw [e] at q hl
          rw [sapp] at hl
          refine ⟨_, rfl, "!", z, rfl, rfl, Nat.le_of_lt (small (by omega)), q⟩
      | _ => cases hg
    · rw [if_neg h1] at hg
      by_cases h2 : sureKinds.contains k = true
      · rw [if_pos h2] at hg
        cases t with
        | int i =>
          have e : plainT k (.int i) = k := rfl
          rw [e] at q
          unfold sureKinds at h2
          rw [List.contains_iff_mem] at h2
          simp only [List.mem_cons, List.not_mem_nil, or_false] at h2
          rcases h2 with rfl | rfl
          · exact ⟨_, rfl, rfl, _, rfl, iteF' (by decide +kernel) ⟨_, rfl, rfl, _, rfl, iteF' (by decide +kernel) ⟨_, rfl, q⟩⟩⟩
          · exact ⟨_, rfl, rfl, _, rfl, iteF' (by decide +kernel) ⟨_, rfl, rfl, _, rfl, iteF' (by decide +kernel) ⟨_, rfl, q⟩⟩⟩
        | _ => cases hg
      · rw [if_neg h2, hc] at hg
        cases hg
end
end Eh
set_option Elab.async false
set_option linter.all false
set_option maxRecDepth 100000
set_option maxHeartbeats 2000000
namespace Eh
open PySem PySem.Spec PyProof.Rows L2
theorem revtop {s : Str} {r : List Str} : ((s :: r).reverse).map V.str = r.reverse.map V.str ++ [V.str s] := by
  rw [List.reverse_cons, List.map_append]
  rfl
theorem stack_le : ∀ ns : List (Str × V), (stackT ns).length ≤ ns.length
  | [] => Nat.le_refl _
  | n :: ns => by
    have ih := stack_le ns
    show (if nodeKinds.contains n.1 = true then _ else _ : List Str).length ≤ _
    split
    · rw [List.length_cons, List.length_drop, List.length_cons]
      omega
    · rw [List.length_cons, List.length_cons]
      omega
section
variable {P : Program} {w : World} {K : PySem.W.Frag} {mg : Str → Option Value} {base : Heap}
theorem ixKd {X : Cx} (h : X.K = K) (hw : X.w = w) : IxR X (rIxD K w) := by
  subst h hw
  exact ix_kdict
def spBrack (K : PySem.W.Frag) : Sp := fun vs H Q _ => ∃ k p ts, vs = [.str k, .ref p] ∧ nodeKinds.contains k = true ∧ SqL K H p (ts.map V.str) ∧ sumL ts + ts.length * 3 ≤ 900000 ∧ ∀ H', Same H H' → Q (.str (brack k ts)) H'
theorem ok_bracketed {p0 f : Addr} {fd : FuncData} (F : Fun K "bracketed" "bracketed" s_bracketed f fd) (T : Txt mg) (S : SgnV K w mg p0) : FnOk P w K mg base CX0 1 f fd ["kind", "parts"] (spBrack K) := by
  refine F.ok sc_bracketed (fun vs H Q E h => ?_) (fun cdv A outer s H vs Q E hr h => ?_)
  · obtain ⟨k, p, ts, rfl, _⟩ := h
    rfl
  · obtain ⟨k, p, ts, rfl, hk, hS, hl, q⟩ := h
    refine ⟨_, (pss_cons (ps_set (i := 2) sc_bracketed.nd rfl (.inl rfl) (pe_join (pe_ix (ixKd (K := K) (w := w) rfl rfl) (pe_glob (v := .ref p0) rfl S.g rfl) (pv 0) (fun _ _ => rfl)) (pv 1)))
  (pss_one (ps_ret (pe_ifExp (pt_cmpR (inQ (K := K) rfl) (pv 0) (pe_tup (pa_cons pe_str (pa_cons pe_str pa_nil))) (by rfl)) (pe_op op_add_str (pe_op op_add_str pe_str (pv 2)) pe_str) (pe_op op_add_str (pe_op op_add_str pe_str (pv 2)) pe_str))))), ?_⟩
    have h3 := sign_len k
    have hj := join_len (signOf k) ts
    rw [h3] at hj
    have hj2 : (Txt.join (signOf k) ts).length ≤ 900000 := by rw [TL.join_eq]; omega
    refine ⟨_, rfl, p0, k, _, rfl, rfl, S.v k hk, ⟨_, rfl⟩, _, rfl, signOf k, p, ts, rfl, rfl, .inl hS, ?_, ?_⟩
    · rw [h3]
      have : (ts.map (·.length)).sum = sumL ts := rfl
      omega
    refine ⟨_, rfl, lenOk 2, fun t nt => ⟨t, choiceKinds.map V.str, rfl, .inr (SqT.of upd_same), rfl, flat_strs _, _, rfl, ?_⟩⟩
    have s1 : Same H (upd H t (.tup (choiceKinds.map V.str))) := same_new nt
    have q' := q _ s1
    unfold brack at q'
    cases ec : choiceKinds.contains k with
    | true =>
      rw [if_pos ec] at q'
      refine iteT' ((inV_strs k choiceKinds).trans ec) ⟨_, rfl, "[", _, rfl, rfl, Nat.le_of_lt (small (by show 1 + _ < _; omega)), _, "]", rfl, rfl, Nat.le_of_lt (small (by rw [sapp]; show 1 + _ + 1 < _; omega)), q'⟩
    | false =>
      rw [if_neg (by rw [ec]; exact Bool.false_ne_true)] at q'
      refine iteF' ((inV_strs k choiceKinds).trans ec) ⟨_, rfl, "(", _, rfl, rfl, Nat.le_of_lt (small (by show 1 + _ < _; omega)), _, ")", rfl, rfl, Nat.le_of_lt (small (by rw [sapp]; show 1 + _ + 1 < _; omega)), q'⟩
def spText (K : PySem.W.Frag) : Sp := fun vs H Q _ => ∃ p xs ns t, vs = [.ref p] ∧ SqT K H p xs ∧ NdsAt K H xs ns ∧ GoodN ns ∧ dueGo 1 ns = true ∧ xs.length < 1000 ∧ stackT ns = [t] ∧ ∀ H', Same H H' → Q (.str t) H'
theorem ok_text_of {p0 fB fP f : Addr} {fdB fdP fd : FuncData} (F : Fun K "text_of" "text_of" s_text_of f fd) (T : Txt mg) (S : SignsAt K w mg p0) (C_bracketed : Cal P w K mg base 1 "bracketed" fB fdB ["kind", "parts"] (spBrack K)) (C_plain_text : Cal P w K mg base 1 "plain_text" fP fdP ["kind", "told"] spPlainT) :
    FnOk P w K mg base CX0 2 f fd ["nodes"] (spText K) := by
  refine F.ok sc_text_of (fun vs H Q E h => ?_) (fun cdv A outer s H vs Q E hr h => ?_)
  · obtain ⟨p, xs, ns, t, rfl, _⟩ := h
    rfl
  · obtain ⟨p, xs, ns, t, rfl, hS, hN, hg, hd, hlen, hst, q⟩ := h
    refine ⟨_, (pss_cons (ps_set (i := 1) sc_text_of.nd rfl (.inl rfl) (pe_lst pa_nil))
  (pss_cons (ps_for PassesOwn.never (by rfl) (pi_reversed (by rfl) T.reversed_ (pa_cons (pe_callTy (lstOf (K := K) rfl) (by rfl) T.list_ (by decide +kernel) (pa_cons (pv 0) pa_nil)) pa_nil)) (pg_tup (by rfl) (pgs_cons (pg_name (i := 2) sc_text_of.nd rfl (.inl rfl)) (pgs_cons (pg_name (i := 3) sc_text_of.nd rfl (.inl rfl)) pgs_nil)))
  (pss_one (ps_if (pt_cmpR (inKd S rfl rfl) (pv 2) (pe_glob (v := .ref p0) rfl S.g rfl) (by rfl))
  (pss_cons (ps_set (i := 4) sc_text_of.nd rfl (.inl rfl) (pe_lst pa_nil))
  (pss_cons (ps_for PassesOwn.never (by rfl) (pi_range1 (by rfl) T.range_ (pa_cons (pv 3) pa_nil)) (pg_name (i := 5) sc_text_of.nd rfl (.inl rfl))
  (pss_one (ps_expr (bmK (K := K) rfl (pe_bm PySem.F.plainAttrs_list PySem.F.slot_list_append PySem.F.type_list_append mt_append (pv 4) (pa_cons (bm0K (K := K) rfl (pe_bm0 PySem.F.plainAttrs_list PySem.F.slot_list_pop PySem.F.type_list_pop mt_pop (pv 1))) pa_nil))))))
  (pss_one (ps_expr (bmK (K := K) rfl (pe_bm PySem.F.plainAttrs_list PySem.F.slot_list_append PySem.F.type_list_append mt_append (pv 1) (pa_cons (pe_call C_bracketed.G (hr.mono (by omega)) (by rfl) C_bracketed.m C_bracketed.k C_bracketed.b .nil pass0 (pa_cons (pv 2) (pa_cons (pv 4) pa_nil))) pa_nil)))))))
  (pss_one (ps_expr (bmK (K := K) rfl (pe_bm PySem.F.plainAttrs_list PySem.F.slot_list_append PySem.F.type_list_append mt_append (pv 1) (pa_cons (pe_call C_plain_text.G (hr.mono (by omega)) (by rfl) C_plain_text.m C_plain_text.k C_plain_text.b .nil pass0 (pa_cons (pv 2) (pa_cons (pv 3) pa_nil))) pa_nil))))))))
  (pss_one (ps_ret (pe_ix (ixL (K := K) rfl) (pv 1) pe_int (fun _ _ => rfl)))))), ?_⟩
    have hxn := hN.length
    refine ⟨Nat.zero_le _, fun l nl => ?_⟩
    have s1 : Same H (upd H l (.lst [])) := same_new nl
    refine ⟨_, rfl, p, xs, rfl, .inr ((stk s1).seq hS), fun lq nq => ?_⟩
    have s2 := s1.trans (same_new (o := .lst xs) nq)
    have nH : H l = none := nl
    have nqH : H lq = none := s1.free nq
    have nlq : l ≠ lq := fun e => by rw [← e, upd_same] at nq; cases nq
    have keep : ∀ {a : Addr} {H' : Hp} {o : HO}, H a = none → Same H H' → Same H (upd H' a o) := fun {a H' o} na s b u eb => by
      rw [upd_ne (ne_of_none eb na)]
      exact s b u eb
    refine ⟨lq, xs, rfl, SqL.of upd_same, RT.for_Itv (K := K) (a := lq) (xs := xs) (fun i σ H2 => ∃ (x2 x3 x4 x5 : Option V), σ = [some (.ref p), some (.ref l), x2, x3, x4, x5] ∧ Same H H2 ∧ H2 lq = some (.lst xs) ∧ H2 l = some (.lst ((stackT (ns.drop (xs.length - i))).reverse.map V.str))) ?_ (fun i σ H2 h => ?_) ?_ ?_⟩
    · refine ⟨none, none, none, none, rfl, s2, upd_same, ?_⟩
      rw [upd_ne nlq, upd_same, Nat.sub_zero, hxn, List.drop_length]
      rfl
    · obtain ⟨x2, x3, x4, x5, _, s3, e3, _⟩ := h
      exact SqL.of e3
    · rintro i x σ H2 hi hx ⟨x2, x3, x4, x5, rfl, s3, e3, e4⟩
      obtain ⟨a, k, t2, rfl, hk, ha⟩ := hN.get hx
      have hgn := hg _ (List.mem_of_getElem? hk)
      have dr := drop_at hk
      rw [show xs.length - 1 - i + 1 = xs.length - i from by omega] at dr
      obtain ⟨mm, hmm⟩ := due_drop hd (xs.length - 1 - i)
      rw [show xs.length - (i + 1) = xs.length - 1 - i from by omega]
      rw [dr] at hmm ⊢
      generalize hrest : ns.drop (xs.length - i) = rest at hmm e4 ⊢
      have hrl : rest.length ≤ ns.length := by rw [← hrest, List.length_drop]; omega
      have hgr : GoodN rest := fun y hy => hg y (by rw [← hrest] at hy; exact List.mem_of_mem_drop hy)
      have hsum := stack_sum hgr
      refine ⟨a, _, rfl, (stk s3).seq ha, rfl, _, _, rfl, _, _, rfl, rfl, ?_⟩
      refine ⟨_, rfl, k, rfl, rfl, _, rfl, ?_⟩
      cases ek : nodeKinds.contains k with
      | false =>
        refine iteF ?_
        have hsl : (stackT rest).length < 1000 := by
          have := stack_le rest
          omega
        refine ⟨_, rfl, .inl ⟨rfl, _, SqL.of e4⟩, _, rfl, _, rfl, k, t2, rfl, hgn, ek, ?_⟩
        refine ⟨l, _, .str (plainT k t2), rfl, rfl, e4, small (by rw [List.length_map, List.length_reverse]; omega), ?_⟩
        refine ⟨_, _, _, _, rfl, keep nH s3, by rw [upd_ne nlq.symm]; exact e3, ?_⟩
        rw [upd_same]
        show some (HO.lst _) = some (HO.lst ((if nodeKinds.contains k = true then _ else _ : List Str).reverse.map V.str))
        rw [if_neg (by rw [ek]; exact Bool.false_ne_true), revtop]
      | true =>
        refine iteT ?_
        obtain ⟨ti, rfl, ht2, ht4⟩ := good_int hgn ek
        have hp : partsN (k, .int ti) = ti.toNat := by
          unfold partsN
          rw [if_pos ek]
          rfl
        have hS4 : ti.toNat ≤ (stackT rest).length := by
          cases mm with
          | zero => cases hmm
          | succ l' =>
            have := stack_len (show dueGo (l' + partsN (k, .int ti)) rest = true from hmm)
            rw [hp] at this
            omega
        have hle := stack_le rest
        have est : stackT ((k, .int ti) :: rest) = brack k ((stackT rest).take ti.toNat) :: (stackT rest).drop ti.toNat := by
          show (if nodeKinds.contains k = true then brack k ((stackT rest).take (partsN (k, .int ti))) :: (stackT rest).drop (partsN (k, .int ti)) else _) = _
          rw [if_pos ek, hp]
        rw [est]
        have hsum2 := sumL_take_drop (stackT rest) ti.toNat
        generalize stackT rest = S0 at e4 hS4 hle hsum hsum2 ⊢
        refine ⟨Nat.zero_le _, fun lp np => ?_⟩
        have npH : H lp = none := s3.free np
        have nlp : l ≠ lp := ne_of_none e4 np
        have nqp : lq ≠ lp := ne_of_none e3 np
        refine ⟨_, rfl, ti, rfl, by omega, by omega, ?_⟩
        refine for_range (lo := 0) (n := ti.toNat) (fun j σ H3 => (∃ y5 : Option V, σ = [some (.ref p), some (.ref l), some (.str k), some (.int ti), some (.ref lp), y5]) ∧ Same H H3 ∧ H3 lq = some (.lst xs) ∧ H3 l = some (.lst ((S0.drop j).reverse.map V.str)) ∧ H3 lp = some (.lst ((S0.take j).map V.str))) ?_ ?_ ?_
        · refine ⟨⟨_, rfl⟩, s3.trans (same_new np), by rw [upd_ne nqp]; exact e3, by rw [upd_ne nlp]; exact e4, upd_same⟩
        · rintro j σ H3 hj ⟨⟨y5, rfl⟩, u3, uq, ul, up⟩
          have hjl : j < S0.length := by omega
          have djs := drop_at (List.getElem?_eq_getElem hjl)
          rw [djs, revtop] at ul
          refine ⟨_, rfl, .inl ⟨rfl, _, SqL.of up⟩, _, rfl, .inl ⟨rfl, _, SqL.of ul⟩, l, _, .str S0[j], rfl, rfl, ul, ?_, ?_⟩
          · rw [List.length_append, List.length_singleton, Nat.add_sub_cancel]
            exact List.getElem?_concat_length
          rw [List.dropLast_concat]
          have up2 : (upd H3 l (.lst ((S0.drop (j + 1)).reverse.map V.str))) lp = some (.lst ((S0.take j).map V.str)) := by rw [upd_ne nlp.symm]; exact up
          refine ⟨lp, _, .str S0[j], rfl, rfl, up2, small (by rw [List.length_map, List.length_take]; omega), ?_⟩
          refine ⟨⟨_, rfl⟩, keep npH (keep nH u3), by rw [upd_ne nqp, upd_ne nlq.symm]; exact uq, by rw [upd_ne nlp]; exact upd_same, ?_⟩
          rw [upd_same, take_succ' (List.getElem?_eq_getElem hjl), List.map_append]
          rfl
        · rintro σ H3 ⟨⟨y5, rfl⟩, u3, uq, ul, up⟩
          refine ⟨_, rfl, .inl ⟨rfl, _, SqL.of ul⟩, _, rfl, _, rfl, k, lp, S0.take ti.toNat, rfl, ek, SqL.of up, ?_, fun H5 s5 => ?_⟩
          · rw [List.length_take]
            omega
          refine ⟨l, _, .str (brack k (S0.take ti.toNat)), rfl, rfl, s5 _ _ ul, small (by rw [List.length_map, List.length_reverse, List.length_drop]; omega), ?_⟩
          refine ⟨_, _, _, _, rfl, keep nH (u3.trans s5), by rw [upd_ne nlq.symm]; exact s5 _ _ uq, ?_⟩
          rw [upd_same, revtop]
    · rintro σ H2 ⟨x2, x3, x4, x5, rfl, s3, e3, e4⟩
      rw [Nat.sub_self, List.drop_zero, hst] at e4
      exact ⟨_, rfl, l, _, 0, .str t, rfl, rfl, SqL.of e4, rfl, q H2 s3⟩
end
end Eh
set_option Elab.async false
set_option linter.all false
set_option maxRecDepth 100000
set_option maxHeartbeats 2000000
namespace Eh
open PySem PySem.Spec PyProof.Rows L2
def kS (z : Str) : Key := .inr z
end Eh
set_option Elab.async false
set_option linter.all false
set_option maxRecDepth 100000
set_option maxHeartbeats 2000000
namespace Eh
open PySem PySem.Spec PyProof.Rows L2
def toldD : V → PyData
  | .str z => .str z
  | .int i => .int i
  | _ => .none
def nodeD (n : Str × V) : PyData := .tuple [.str n.1, toldD n.2]
def nodesD (ns : List (Str × V)) : PyData := .tuple (ns.map nodeD)
/-- a node of a drawn promise -/
def NOk (n : Str × V) : Prop := nodeAB n.1 n.2 = true ∧ ∀ z, n.2 = .str z → z ∈ uni6
theorem nok_of {ns : List (Str × V)} (g : GoodN ns) (w : InW uni6 ns) : ∀ n ∈ ns, NOk n := fun n hn => ⟨g n hn, fun z e => w n.1 z (by rw [← e]; exact hn)⟩
theorem kind_lay {k : Str} {t : V} (h : nodeAB k t = true) : PyData.canLay0 (.str k) = true := by
  unfold nodeAB at h
  by_cases h1 : factKinds.contains k = true
  · unfold factKinds at h1
    rw [List.contains_iff_mem] at h1
    simp only [List.mem_cons, List.not_mem_nil, or_false] at h1
    rcases h1 with rfl | rfl <;> decide +kernel
  · rw [if_neg h1] at h
    by_cases h2 : sureKinds.contains k = true
    · unfold sureKinds at h2
      rw [List.contains_iff_mem] at h2
      simp only [List.mem_cons, List.not_mem_nil, or_false] at h2
      rcases h2 with rfl | rfl <;> decide +kernel
    · rw [if_neg h2, Bool.and_eq_true] at h
      rcases node_cases h.1 with rfl | rfl | rfl | rfl <;> decide +kernel
theorem hu64e {A : Around} {k : Nat} (hr : Room k A) : A.units + 64 < cLine := by
  have := hr.un
  omega
section
variable {P : Program} {w : World} {K : PySem.W.Frag} {mg : Str → Option Value} {base : Heap}
/-- a promise as the laws have it: with good nodes -/
def PrOk (K : PySem.W.Frag) (C : Addr) (H : Hp) (a : Addr) (ns : List (Str × V)) : Prop := ∃ dx p xs, H a = some (.ins C dx [(("_nodes" : Str), .ref p)]) ∧ SqT K H p xs ∧ NdsAt K H xs ns ∧ ∀ n ∈ ns, NOk n
structure IsC (K : PySem.W.Frag) (C : Addr) : Prop where
  cls : PySem.W.findIn K (.ref C) "__class__" = some (some (.builtin "object.__class__"))
  sp : PySem.W.specialIn K (.builtin "object.__class__") "__get__" = some (some (.builtin "getset_descriptor.__get__"))
  tk : PySem.W.takesIn K (.builtin "object.__class__") = some true
  mro : PySem.W.mroIn K C (.type "object") = some true
  self : PySem.W.kitOne K (.ref C) (.ref C) = some true
end
end Eh
set_option Elab.async false
set_option linter.all false
set_option maxRecDepth 100000
set_option maxHeartbeats 2000000
namespace Eh
open PySem PySem.Spec PyProof.Rows L2
section
variable {P : Program} {w : World} {K : PySem.W.Frag} {mg : Str → Option Value} {base : Heap}
def spNodesP (K : PySem.W.Frag) (C : Addr) : Sp := fun vs H Q _ => ∃ a dx fs p, vs = [.ref a] ∧ H a = some (.ins C dx fs) ∧ fs.lookup ("_nodes" : Str) = some (.ref p) ∧ Q (.ref p) H
theorem ok_nodesP {C fI fL f : Addr} {fd : FuncData} (F : Fun K "nodes" "Promise.nodes" s_Promise_nodes f fd) (PC : PromC K mg C fI fL) : FnOk P w K mg base CX0 1 f fd ["self"] (spNodesP K C) := by
  refine F.ok sc_Promise_nodes (fun vs H Q E h => ?_) (fun cdv A outer s H vs Q E hr h => ?_)
  · obtain ⟨a, dx, fs, p, rfl, _⟩ := h
    rfl
  · obtain ⟨a, dx, fs, p, rfl, ha, hl, q⟩ := h
    exact ⟨_, (pss_one (ps_ret (pe_fld (pv 0) rfl))), _, rfl, a, C, dx, fs, .ref p, rfl, ha, PC.cl, PC.nn, hl, q⟩
end
end Eh
set_option Elab.async false
set_option linter.all false
set_option maxRecDepth 100000
set_option maxHeartbeats 2000000
namespace Eh
open PySem PySem.Spec PyProof.Rows L2
mutual
/-- a tree in which each node is of a kind with parts, and each leaf is not -/
def plOk : Pl → Bool
  | .leaf k _ => !nodeKinds.contains k
  | .node k ps => nodeKinds.contains k && plsOk ps
def plsOk : List Pl → Bool
  | [] => true
  | p :: ps => plOk p && plsOk ps
end
mutual
theorem At.plOk {K : PySem.W.Frag} {H : Hp} : ∀ {v : V} {p : Pl}, At K H v p → plOk p = true
  | _, _, .leaf (k := k) h o => by
    rw [Eh.plOk]
    cases e : nodeKinds.contains k with
    | false => rfl
    | true =>
      have h1 := leaf_kind o
      rw [node_kind e] at h1
      cases h1
  | _, _, .node (k := k) h1 h2 o a b r => by
    rw [Eh.plOk, show nodeKinds.contains k = true from o, AtAll.plsOk r]
    rfl
theorem AtAll.plsOk {K : PySem.W.Frag} {H : Hp} : ∀ {vs : List V} {ps : List Pl}, AtAll K H vs ps → plsOk ps = true
  | _, _, .nil => by rw [Eh.plsOk]
  | _, _, .cons h r => by
    rw [Eh.plsOk, At.plOk h, AtAll.plsOk r]
    rfl
end
theorem plsOk_app : ∀ (ps qs : List Pl), plsOk (ps ++ qs) = (plsOk ps && plsOk qs)
  | [], qs => by rw [List.nil_append, plsOk, Bool.true_and]
  | p :: ps, qs => by rw [List.cons_append, plsOk, plsOk, plsOk_app ps qs, Bool.and_assoc]
section
variable {P : Program} {w : World} {K : PySem.W.Frag} {mg : Str → Option Value} {base : Heap}
def spEnd (K : PySem.W.Frag) : Sp := fun vs H Q _ => ∃ p xs ns st pl rest, vs = [.ref p, .int (st : Nat)] ∧ SqT K H p xs ∧ NdsAt K H xs ns ∧ xs.length < 1000 ∧ ns.drop st = nodesOf pl ++ rest ∧ plOk pl = true ∧ Q (.int ((st + (nodesOf pl).length : Nat) : Int)) H
theorem ok_end_of {p0 f : Addr} {fd : FuncData} (F : Fun K "end_of" "end_of" s_end_of f fd) (T : Txt mg) (S : SignsAt K w mg p0) : FnOk P w K mg base CX0 1 f fd ["nodes", "start"] (spEnd K) := by
  refine F.ok sc_end_of (fun vs H Q E h => ?_) (fun cdv A outer s H vs Q E hr h => ?_)
  · obtain ⟨p, xs, ns, st, pl, rest, rfl, _⟩ := h
    rfl
  · obtain ⟨p, xs, ns, st, pl, rest, rfl, hS, hN, hlen, hd, hok, q⟩ := h
    refine ⟨_, (pss_cons (ps_set (i := 2) sc_end_of.nd rfl (.inl rfl) pe_int)
  (pss_cons (ps_set (i := 3) sc_end_of.nd rfl (.inl rfl) (pv 1))
  (pss_cons (ps_while PassesOwn.never (pt_cmpR op_gt (pv 2) pe_int (nomark _))
  (pss_cons (ps_asg (pe_ix (ixT (K := K) rfl) (pv 0) (pv 3) (fun _ _ => rfl)) (pg_tup (by rfl) (pgs_cons (pg_name (i := 4) sc_end_of.nd rfl (.inl rfl)) (pgs_cons (pg_name (i := 5) sc_end_of.nd rfl (.inl rfl)) pgs_nil))))
  (pss_cons (ps_set (i := 2) sc_end_of.nd rfl (.inl rfl) (pe_op op_add (pe_op op_sub (pv 2) pe_int) (pe_ifExp (pt_cmpR (inKd S rfl rfl) (pv 4) (pe_glob (v := .ref p0) rfl S.g rfl) (by rfl)) (pv 5) pe_int)))
  (pss_one (ps_set (i := 3) sc_end_of.nd rfl (.inl rfl) (pe_op op_add (pv 3) pe_int))))))
  (pss_one (ps_ret (pv 3)))))), ?_⟩
    have hxn := hN.length
    refine ⟨_, rfl, ?_⟩
    refine ⟨fun m σ H2 => ∃ (qs : List Pl) (e : Nat) (x4 x5 : Option V), m = (nodesAll qs).length ∧ σ = [some (.ref p), some (.int (st : Int)), some (.int (qs.length : Int)), some (.int (e : Int)), x4, x5] ∧ H2 = H ∧ ns.drop e = nodesAll qs ++ rest ∧ plsOk qs = true ∧ e + (nodesAll qs).length = st + (nodesOf pl).length, ⟨_, [pl], st, none, none, rfl, rfl, rfl, ?_, ?_, ?_⟩, ?_⟩
    · rw [nodesAll, nodesAll, List.append_nil]
      exact hd
    · rw [plsOk, plsOk, hok]
      rfl
    · rw [nodesAll, nodesAll, List.append_nil]
    · rintro m σ H2 ⟨qs, e, x4, x5, rfl, rfl, rfl, hdq, hok2, he⟩
      refine ⟨_, rfl, _, _, rfl, rfl, _, rfl, ?_⟩
      match qs, hdq, hok2, he with
      | [], hdq, hok2, he =>
        refine iteF' (by decide) ⟨_, rfl, ?_⟩
        rw [nodesAll] at he
        have : e = st + (nodesOf pl).length := he
        rw [this]
        exact q
      | t :: qs, hdq, hok2, he =>
        refine iteT' (decide_eq_true (by rw [List.length_cons]; omega)) ⟨_, fun σ' H' h => h, ?_⟩
        rw [plsOk, Bool.and_eq_true] at hok2
        -- the next node
        obtain ⟨k, u, more, hcons, hq2, hcount⟩ : ∃ k u, ∃ more : List Pl, nodesAll (t :: qs) = (k, u) :: nodesAll more ∧ plsOk more = true ∧ (more.length : Int) = (qs.length : Int) + (if nodeKinds.contains k = true then intOf u else 0) ∧ (nodeKinds.contains k = true → ∃ i, u = .int i) := by
          cases t with
          | leaf k u =>
            have hk : nodeKinds.contains k = false := by
              have := hok2.1
              rw [plOk] at this
              simpa using this
            refine ⟨k, u, qs, by rw [nodesAll, nodesOf]; rfl, hok2.2, by rw [if_neg (by rw [hk]; exact Bool.false_ne_true)]; omega, fun h => ?_⟩
            rw [hk] at h
            cases h
          | node k ps =>
            have hk := hok2.1
            rw [plOk, Bool.and_eq_true] at hk
            refine ⟨k, .int (ps.length : Int), ps ++ qs, by rw [nodesAll, nodesOf, List.cons_append, nodesAll_append], by rw [plsOk_app, hk.2, hok2.2]; rfl, ?_, fun _ => ⟨_, rfl⟩⟩
            rw [if_pos hk.1, List.length_append]
            show ((ps.length + qs.length : Nat) : Int) = (qs.length : Int) + (ps.length : Int)
            omega
        obtain ⟨hcount, hint⟩ := hcount
        rw [hcons] at hdq he
        have hke : ns[e]? = some (k, u) := by
          have h0 : (ns.drop e)[0]? = some (k, u) := by rw [hdq]; rfl
          rw [List.getElem?_drop] at h0
          exact h0
        have hel : e < ns.length := (List.getElem?_eq_some_iff.mp hke).1
        obtain ⟨a, k', u', ex, hk', ha⟩ := hN.get (List.getElem?_eq_getElem (show e < xs.length by omega))
        rw [hke] at hk'
        cases hk'
        have hdrop : ns.drop (e + 1) = nodesAll more ++ rest := by
          have d1 := drop_at hke
          rw [hdq] at d1
          injection d1 with _ d2
          exact d2.symm
        refine ⟨_, rfl, _, rfl, p, xs, _, .ref a, rfl, rfl, hS, atI_nat (by rw [← ex]; exact List.getElem?_eq_getElem (show e < xs.length by omega)), ?_⟩
        refine ⟨a, _, rfl, ha, rfl, _, _, rfl, _, _, rfl, rfl, ?_⟩
        refine ⟨_, rfl, _, _, rfl, rfl, _, rfl, k, rfl, rfl, _, rfl, ?_⟩
        have hm : (nodesAll more).length < (nodesAll (t :: qs)).length := by rw [hcons]; exact Nat.lt_succ_self _
        cases ek : nodeKinds.contains k with
        | true =>
          obtain ⟨i, rfl⟩ := hint ek
          rw [if_pos ek] at hcount
          refine iteT ⟨_, rfl, _, _, rfl, rfl, _, rfl, _, _, rfl, rfl, ?_⟩
          refine ⟨_, hm, more, e + 1, some (.str k), some (.int i), rfl, ?_, rfl, hdrop, hq2, by rw [List.length_cons] at he; omega⟩
          have e1 : ((t :: qs).length : Int) - 1 + i = (more.length : Int) := by
            rw [List.length_cons]
            have : intOf (.int i) = i := rfl
            rw [this] at hcount
            omega
          rw [← e1]
          rfl
        | false =>
          rw [if_neg (by rw [ek]; exact Bool.false_ne_true)] at hcount
          refine iteF ⟨_, _, rfl, rfl, _, rfl, _, _, rfl, rfl, ?_⟩
          refine ⟨_, hm, more, e + 1, some (.str k), some u, rfl, ?_, rfl, hdrop, hq2, by rw [List.length_cons] at he; omega⟩
          have e1 : ((t :: qs).length : Int) - 1 + 0 = (more.length : Int) := by
            rw [List.length_cons]
            omega
          rw [← e1]
          rfl
end
end Eh
set_option Elab.async false
set_option linter.all false
set_option maxRecDepth 100000
set_option maxHeartbeats 2000000
namespace Eh
open PySem PySem.Spec PyProof.Rows L2
def partsPl : Pl → List Pl
  | .leaf _ _ => []
  | .node _ ps => ps
/-- each stands as the tuple of its nodes -/
inductive PartsAt (K : PySem.W.Frag) (H : Hp) : List V → List Pl → Prop
  | nil : PartsAt K H [] []
  | cons {a : Addr} {ys vs : List V} {p : Pl} {ps : List Pl} : SqT K H a ys → NdsAt K H ys (nodesOf p) → PartsAt K H vs ps → PartsAt K H (.ref a :: vs) (p :: ps)
theorem PartsAt.tk {K : PySem.W.Frag} {H H' : Hp} (t : Tk H H') : ∀ {vs : List V} {ps : List Pl}, PartsAt K H vs ps → PartsAt K H' vs ps
  | _, _, .nil => .nil
  | _, _, .cons h n r => .cons (t.seq h) (n.tk t) (r.tk t)
theorem PartsAt.snoc {K : PySem.W.Frag} {H : Hp} {a : Addr} {ys : List V} {p : Pl} (h : SqT K H a ys) (n : NdsAt K H ys (nodesOf p)) : ∀ {vs : List V} {ps : List Pl}, PartsAt K H vs ps → PartsAt K H (vs ++ [.ref a]) (ps ++ [p])
  | _, _, .nil => .cons h n .nil
  | _, _, .cons h' n' r => .cons h' n' (PartsAt.snoc h n r)
theorem PartsAt.length {K : PySem.W.Frag} {H : Hp} : ∀ {vs : List V} {ps : List Pl}, PartsAt K H vs ps → vs.length = ps.length
  | _, _, .nil => rfl
  | _, _, .cons _ _ r => by rw [List.length_cons, List.length_cons, r.length]
theorem NdsAt.drop {K : PySem.W.Frag} {H : Hp} : ∀ {vs : List V} {ns : List (Str × V)}, NdsAt K H vs ns → ∀ i, NdsAt K H (vs.drop i) (ns.drop i)
  | _, _, h, 0 => h
  | _, _, .nil, i + 1 => .nil
  | _, _, .cons h r, i + 1 => r.drop i
theorem NdsAt.take {K : PySem.W.Frag} {H : Hp} : ∀ {vs : List V} {ns : List (Str × V)}, NdsAt K H vs ns → ∀ i, NdsAt K H (vs.take i) (ns.take i)
  | _, _, h, 0 => .nil
  | _, _, .nil, i + 1 => .nil
  | _, _, .cons h r, i + 1 => .cons h (r.take i)
theorem nodes_ge : ∀ ps : List Pl, ps.length ≤ (nodesAll ps).length
  | [] => Nat.zero_le _
  | p :: ps => by
    have h1 := nodesOf_pos p
    have h2 := nodes_ge ps
    rw [nodesAll, List.length_append, List.length_cons]
    omega
end Eh
set_option Elab.async false
set_option linter.all false
set_option maxRecDepth 100000
set_option maxHeartbeats 2000000
set_option Elab.async false
set_option linter.all false
set_option maxRecDepth 100000
set_option maxHeartbeats 2000000
namespace Eh
open PySem PySem.Spec PyProof.Rows L2
theorem PartsAt.get {K : PySem.W.Frag} {H : Hp} : ∀ {vs : List V} {ps : List Pl}, PartsAt K H vs ps → ∀ {i : Nat} {v : V}, vs[i]? = some v → ∃ a ys p, v = .ref a ∧ ps[i]? = some p ∧ SqT K H a ys ∧ NdsAt K H ys (nodesOf p)
  | _, _, .nil, i, v, h => by simp at h
  | _, _, .cons (a := a) (ys := ys) (p := p) h n r, 0, v, hv => by
    cases (show some (V.ref a) = some v from hv)
    exact ⟨a, ys, p, rfl, rfl, h, n⟩
  | _, _, .cons h n r, i + 1, v, hv => r.get (i := i) hv
end Eh
set_option Elab.async false
set_option linter.all false
set_option maxRecDepth 100000
set_option maxHeartbeats 2000000
namespace Eh
open PySem PySem.Spec PyProof.Rows L2
theorem PrOk.same {K : PySem.W.Frag} {C a : Addr} {H H' : Hp} {ns : List (Str × V)} (h : PrOk K C H a ns) (s : Same H H') : PrOk K C H' a ns := by
  obtain ⟨dx, p, xs, e, hs, hN, ho⟩ := h
  exact ⟨dx, p, xs, s _ _ e, (stk s).seq hs, hN.tk (stk s), ho⟩
theorem PrOk.put {K : PySem.W.Frag} {C a l : Addr} {H : Hp} {ns : List (Str × V)} {us vs : List V} (h : PrOk K C H a ns) (e : H l = some (.lst us)) : PrOk K C (upd H l (.lst vs)) a ns := by
  obtain ⟨dx, p, xs, e1, hs, hN, ho⟩ := h
  have n : a ≠ l := fun z => by rw [z, e] at e1; cases e1
  exact ⟨dx, p, xs, by rw [upd_ne n]; exact e1, (Tk.put e).seq hs, hN.tk (Tk.put e), ho⟩
/-- promises in a row -/
inductive PrsAt (K : PySem.W.Frag) (C : Addr) (H : Hp) : List V → List Pl → Prop
  | nil : PrsAt K C H [] []
  | cons {a : Addr} {vs : List V} {p : Pl} {ps : List Pl} : PrOk K C H a (nodesOf p) → PrsAt K C H vs ps → PrsAt K C H (.ref a :: vs) (p :: ps)
theorem PrsAt.same {K : PySem.W.Frag} {C : Addr} {H H' : Hp} (s : Same H H') : ∀ {vs : List V} {ps : List Pl}, PrsAt K C H vs ps → PrsAt K C H' vs ps
  | _, _, .nil => .nil
  | _, _, .cons h r => .cons (h.same s) (PrsAt.same s r)
theorem PrsAt.put {K : PySem.W.Frag} {C l : Addr} {H : Hp} {us ws : List V} (e : H l = some (.lst us)) : ∀ {vs : List V} {ps : List Pl}, PrsAt K C H vs ps → PrsAt K C (upd H l (.lst ws)) vs ps
  | _, _, .nil => .nil
  | _, _, .cons h r => .cons (h.put e) (PrsAt.put e r)
theorem PrsAt.snoc {K : PySem.W.Frag} {C a : Addr} {H : Hp} {p : Pl} (h : PrOk K C H a (nodesOf p)) : ∀ {vs : List V} {ps : List Pl}, PrsAt K C H vs ps → PrsAt K C H (vs ++ [.ref a]) (ps ++ [p])
  | _, _, .nil => .cons h .nil
  | _, _, .cons h' r => .cons h' (PrsAt.snoc h r)
theorem plsOk_get : ∀ {ps : List Pl} {i : Nat} {p : Pl}, plsOk ps = true → ps[i]? = some p → plOk p = true
  | [], _, _, _, h => by simp at h
  | q :: ps, 0, p, o, h => by
    cases (show some q = some p from h)
    rw [plsOk, Bool.and_eq_true] at o
    exact o.1
  | q :: ps, i + 1, p, o, h => by
    rw [plsOk, Bool.and_eq_true] at o
    exact plsOk_get (ps := ps) (i := i) o.2 h
section
variable {P : Program} {w : World} {K : PySem.W.Frag} {mg : Str → Option Value} {base : Heap}
/-- good nodes make a promise: what __init__ wants -/
theorem good_nodes {H : Hp} {p : Addr} {ys : List V} {ns : List (Str × V)} (hs : SqT K H p ys) (hN : NdsAt K H ys ns) (ho : ∀ n ∈ ns, NOk n) (hd : dueGo 1 ns = true) (hl : ns.length ≤ 15) : NodesV K H (.ref p) (ns.map some) true ∧ Few (ns.map some) true := by
  have g : GoodN ns := fun n hn => (ho n hn).1
  have w : InW uni6 ns := fun k z hz => (ho _ hz).2 z rfl
  have ok : okNs (ns.map some) = true := by rw [not_due_of rfl]; exact hd
  have nv := NodesV.tup hs (nds_all hN g w)
  have fw := few_of (nds := ns.map some) (fact_some w) (by rw [List.length_map]; exact hl)
  rw [ok] at nv fw
  exact ⟨nv, fw⟩
end
end Eh
set_option Elab.async false
set_option linter.all false
set_option maxRecDepth 100000
set_option maxHeartbeats 2000000
namespace Eh
open PySem PySem.Spec PyProof.Rows L2
def popz : List Int → List Int
  | [] => []
  | x :: r => if x = 0 then popz r else x :: r
theorem popz_ne {x : Int} {r : List Int} (h : x ≠ 0) : popz (x :: r) = x :: r := by
  rw [popz, if_neg h]
/-- what is missing at the end, and the greatest depth met -/
def runD : List Int → Int → List (Str × V) → Int × Int
  | st, d, [] => (st.sum, d)
  | st, d, n :: ns => match popz st with
    | [] => (1, 0)
    | x :: r => if nodeKinds.contains n.1 = true then runD (intOf n.2 :: (x - 1) :: r) (max d ((r.length : Int) + 1)) ns else runD ((x - 1) :: r) (max d ((r.length : Int) + 1)) ns
def depthN (ns : List (Str × V)) : Int := if (runD [1] 0 ns).1 = 0 then (runD [1] 0 ns).2 else 0
theorem run_none {st : List Int} {d : Int} {n : Str × V} {ns : List (Str × V)} (h : popz st = []) : runD st d (n :: ns) = (1, 0) := by
  rw [runD, h]
theorem run_step {st : List Int} {d x : Int} {r : List Int} {n : Str × V} {ns : List (Str × V)} (h : popz st = x :: r) :
    runD st d (n :: ns) = if nodeKinds.contains n.1 = true then runD (intOf n.2 :: (x - 1) :: r) (max d ((r.length : Int) + 1)) ns else runD ((x - 1) :: r) (max d ((r.length : Int) + 1)) ns := by
  rw [runD, h]
theorem sum_rev (st : List Int) : st.reverse.sum = st.sum := by
  induction st with
  | nil => rfl
  | cons a r ih => rw [List.reverse_cons, List.sum_append, ih, List.sum_cons, List.sum_cons, List.sum_nil]; omega
section
variable {P : Program} {w : World} {K : PySem.W.Frag} {mg : Str → Option Value} {base : Heap}
def spDepthE (K : PySem.W.Frag) : Sp := fun vs H Q _ => ∃ p xs ns, vs = [.ref p] ∧ SqT K H p xs ∧ NdsAt K H xs ns ∧ GoodN ns ∧ xs.length < 1000 ∧
  ∀ (dd : Int) H', Same H H' → (1 ≤ dd ↔ dueGo 1 ns = true) → dd ≤ 1 + countIn nodeKinds ns → dd = depthN ns → Q (.int dd) H'
theorem ok_depth_ofE {p0 f : Addr} {fd : FuncData} (F : Fun K "depth_of" "depth_of" s_depth_of f fd) (T : Txt mg) (S : SignsAt K w mg p0) : FnOk P w K mg base CX0 1 f fd ["nodes"] (spDepthE K) := by
  refine F.ok sc_depth_of (fun vs H Q E h => ?_) (fun cdv A outer s H vs Q E hr h => ?_)
  · obtain ⟨p, xs, ns, rfl, _⟩ := h
    rfl
  · obtain ⟨p, xs, ns, rfl, hS, hN, hg, hlen, q⟩ := h
    refine ⟨_, (pss_cons (ps_set (i := 1) sc_depth_of.nd rfl (.inl rfl) (pe_lst (pa_cons pe_int pa_nil)))
  (pss_cons (ps_set (i := 2) sc_depth_of.nd rfl (.inl rfl) pe_int)
  (pss_cons (ps_for PassesOwn.never (by rfl) (pi_tup (pv 0)) (pg_tup (by rfl) (pgs_cons (pg_name (i := 3) sc_depth_of.nd rfl (.inl rfl)) (pgs_cons (pg_name (i := 4) sc_depth_of.nd rfl (.inl rfl)) pgs_nil)))
  (pss_cons (ps_while PassesOwn.never (PW.pt (pw_and (pt_truth (pv 1) (by intro _; rfl)) (pw_and1 (pt_cmpR op_eq (pe_ix (ixL (K := K) rfl) (pv 1) (pe_un un_neg pe_int) (fun _ _ => rfl)) pe_int (nomark _)))))
  (pss_one (ps_expr (bm0K (K := K) rfl (pe_bm0 PySem.F.plainAttrs_list PySem.F.slot_list_pop PySem.F.type_list_pop mt_pop (pv 1))))))
  (pss_cons (ps_if (pt_not (pt_truth (pv 1) (by intro _; rfl)))
  (pss_one (ps_ret pe_int))
  pss_nil)
  (pss_cons (ps_asg (pe_op op_sub (pe_ix (ixL (K := K) rfl) (pv 1) (pe_un un_neg pe_int) (fun _ _ => rfl)) pe_int) (pg_sub (pv 1) (pe_un un_neg pe_int) set_list))
  (pss_cons (ps_set (i := 2) sc_depth_of.nd rfl (.inl rfl) (pe_callB (call_max2 (by rfl)) (by rfl) T.max_ (by decide +kernel) (pa_cons (pv 2) (pa_cons (pe_callB (lenQ (K := K) rfl) (by rfl) T.len_ (by decide +kernel) (pa_cons (pv 1) pa_nil)) pa_nil))))
  (pss_one (ps_if (pt_cmpR (inKd S rfl rfl) (pv 3) (pe_glob (v := .ref p0) rfl S.g rfl) (by rfl))
  (pss_one (ps_expr (bmK (K := K) rfl (pe_bm PySem.F.plainAttrs_list PySem.F.slot_list_append PySem.F.type_list_append mt_append (pv 1) (pa_cons (pv 4) pa_nil)))))
  pss_nil)))))))
  (pss_one (ps_ret (pe_ifExp (pt_cmpR op_eq (pe_callB (cr_sum (by rfl)) (by rfl) T.sum_ (by decide +kernel) (pa_cons (pv 1) pa_nil)) pe_int (nomark _)) (pv 2) pe_int)))))), ?_⟩
    refine ⟨lenOk 1, fun l nl => ?_⟩
    have s1 : Same H (upd H l (.lst [.int 1])) := same_new nl
    have hxn := hN.length
    refine ⟨_, rfl, p, rfl, ⟨xs, (stk s1).seq hS⟩, for_tup (K := K) (a := p) (xs := xs) (fun i σ H2 => ∃ (st : List Int) (dp : Int) (x3 x4 : Option V), σ = [some (.ref p), some (.ref l), some (.int dp), x3, x4] ∧ Same H H2 ∧ H2 l = some (.lst (st.map V.int)) ∧ Stk st ∧
      dueGo 1 ns = dueGo st.sum.toNat (ns.drop i) ∧ (st.length : Int) ≤ 1 + countIn nodeKinds (ns.take i) ∧ dp ≤ 1 + countIn nodeKinds (ns.take i) ∧ (1 ≤ dp ∨ 0 < st.sum) ∧ st.length ≤ i + 1 ∧ (i = 0 → dp = 0) ∧ runD [1] 0 ns = runD st.reverse dp (ns.drop i)) ?_ (fun i σ H2 _ h => ?_) ?_ ?_⟩
    · refine ⟨[1], 0, none, none, rfl, s1, upd_same, ?_, rfl, ?_, ?_, .inr (by decide), Nat.le_refl _, fun _ => rfl, rfl⟩
      · intro x hx
        rw [List.mem_singleton.mp hx]
        decide
      · show (1 : Int) ≤ 1 + _
        omega
      · omega
    · obtain ⟨st, dp, x3, x4, _, s2, _⟩ := h
      exact (stk s2).seq hS
    · rintro i x σ H2 hi ⟨st, dp, x3, x4, rfl, s2, e2, hst, hdue, hsl, hdp, hor, hsi, _, hrun⟩
      obtain ⟨a, k, t, rfl, hk, ha⟩ := hN.get hi
      have hgn := hg _ (List.mem_of_getElem? hk)
      have hi9 : i < 1000 := by
        have := (List.getElem?_eq_some_iff.mp hi).1
        omega
      refine ⟨a, _, rfl, (stk s2).seq ha, rfl, _, _, rfl, _, _, rfl, rfl, ?_⟩
      refine ⟨fun m σ H3 => ∃ st' : List Int, m = st'.length ∧ σ = [some (.ref p), some (.ref l), some (.int dp), some (.str k), some t] ∧ Same H H3 ∧ H3 l = some (.lst (st'.map V.int)) ∧ Stk st' ∧ st'.sum = st.sum ∧ st'.length ≤ st.length ∧ popz st'.reverse = popz st.reverse, ⟨_, st, rfl, rfl, s2, e2, hst, rfl, Nat.le_refl _, rfl⟩, ?_⟩
      rintro m σ H3 ⟨st', rfl, rfl, s3, e3, hst', hsum, hl', hpz⟩
      have nH : H l = none := nl
      have keep : ∀ {H' : Hp} {o : HO}, Same H H' → Same H (upd H' l o) := fun {H' o} s b u eb => by
        rw [upd_ne (ne_of_none eb nH)]
        exact s b u eb
      have dr := drop_at hk
      rcases last_or (st := st') with rfl | ⟨pre, x, rfl⟩
      · -- nothing is missing any more
        refine ⟨_, rfl, false, .inl ⟨[], SqL.of e3, rfl⟩, ?_⟩
        refine iteF ?_
        refine ⟨_, rfl, false, .inl ⟨[], SqL.of e3, rfl⟩, ?_⟩
        refine iteT ?_
        refine q 0 H3 s3 ⟨fun z => by omega, fun z => ?_⟩ (by omega) ?_
        · rw [hdue, ← hsum, dr] at z
          cases z
        · rw [dr, run_none hpz.symm] at hrun
          unfold depthN
          rw [hrun]
          rfl
      · rw [map_last] at e3
        have hx0 : 0 ≤ x := hst' x (List.mem_append_right _ List.mem_cons_self)
        have hpre : Stk pre := fun y hy => hst' y (List.mem_append_left _ hy)
        have hsum : pre.sum + x = st.sum := by rw [← hsum, sum_set]
        have hl' : pre.length + 1 ≤ st.length := by rw [List.length_append] at hl'; exact hl'
        refine ⟨_, rfl, true, .inl ⟨_, SqL.of e3, by simp⟩, iteT ⟨_, rfl, _, rfl, l, _, (-1), .int x, rfl, rfl, SqL.of e3, atI_last, rfl, _, rfl, ?_⟩⟩
        by_cases hx : V.int x = V.int 0
        · rw [decide_eq_true hx]
          have hx : x = 0 := by injection hx
          refine iteT ⟨_, fun σ' H' h => h, ?_⟩
          refine ⟨_, rfl, .inl ⟨rfl, _, SqL.of e3⟩, l, _, .int x, rfl, rfl, e3, ?_, ?_⟩
          · rw [List.length_append, List.length_singleton, Nat.add_sub_cancel]
            exact List.getElem?_concat_length
          · rw [List.dropLast_concat]
            exact ⟨pre.length, by rw [List.length_append]; exact Nat.lt_succ_self _, pre, rfl, rfl, keep s3, upd_same, hpre, by omega, by omega, by rw [← hpz, List.reverse_append]; show _ = popz (x :: pre.reverse); rw [hx]; rfl⟩
        · rw [decide_eq_false hx]
          have hx : x ≠ 0 := fun e => hx (by rw [e])
          refine iteF ?_
          refine ⟨_, rfl, true, .inl ⟨_, SqL.of e3, by simp⟩, iteF ?_⟩
          refine ⟨_, rfl, _, rfl, l, _, (-1), .int x, rfl, rfl, SqL.of e3, atI_last, _, _, rfl, rfl, ?_⟩
          refine ⟨_, rfl, _, rfl, l, _, (-1), pre.length, rfl, rfl, e3, ?_, ?_⟩
          · rw [List.length_append, List.length_map]
            exact ixN_last _
          rw [set_last]
          have s4 : Same H (upd H3 l (.lst ((pre ++ [x - 1]).map V.int))) := keep s3
          have hst4 : Stk (pre ++ [x - 1]) := fun y hy => by
            rcases List.mem_append.mp hy with h | h
            · exact hpre y h
            · rw [List.mem_singleton.mp h]
              omega
          have hps := hpre.sum
          refine ⟨_, rfl, _, rfl, .inl ⟨l, _, rfl, .inl (SqL.of upd_same), _, _, rfl, ?_⟩⟩
          obtain ⟨d2, ed, hd1, hd2⟩ : ∃ d2 : Int, (if (((pre ++ [x - 1]).map V.int).length : Int) > dp then (((pre ++ [x - 1]).map V.int).length : Int) else dp) = d2 ∧ 1 ≤ d2 ∧ d2 ≤ 1 + countIn nodeKinds (ns.take i) := by
            refine ⟨_, rfl, ?_⟩
            rw [List.length_map, List.length_append, List.length_singleton]
            split <;> omega
          rw [ed]
          have hrs := run_step (d := dp) (n := (k, t)) (ns := ns.drop (i + 1)) (show popz st.reverse = x :: pre.reverse from by rw [← hpz, List.reverse_append]; exact popz_ne hx)
          rw [dr] at hrun
          rw [hrs] at hrun
          have ed2 : d2 = max dp ((pre.reverse.length : Int) + 1) := by
            rw [← ed, List.length_map, List.length_append, List.length_singleton, List.length_reverse]
            show (if ((pre.length + 1 : Nat) : Int) > dp then ((pre.length + 1 : Nat) : Int) else dp) = _
            rw [Int.max_def]
            split <;> split <;> omega
          have ct : countIn nodeKinds (ns.take (i + 1)) = countIn nodeKinds (ns.take i) + countIn nodeKinds [(k, t)] := by rw [take_succ' hk, countIn_app]
          refine ⟨_, rfl, k, rfl, rfl, _, rfl, ?_⟩
          cases ek : nodeKinds.contains k with
          | true =>
            obtain ⟨ti, rfl, ht2, ht4⟩ := good_int hgn ek
            rw [countIn_one, if_pos ek] at ct
            refine iteT ⟨_, rfl, .inl ⟨rfl, _, SqL.of upd_same⟩, _, rfl, l, _, .int ti, rfl, rfl, upd_same, small (by rw [List.length_map, List.length_append, List.length_singleton]; omega), ?_⟩
            rw [← map_last]
            refine ⟨(pre ++ [x - 1]) ++ [ti], d2, _, _, rfl, keep s4, upd_same, ?_, ?_, ?_, ?_, ?_, ?_, (fun e => by omega), ?_⟩
            · intro y hy
              rcases List.mem_append.mp hy with h | h
              · exact hst4 y h
              · rw [List.mem_singleton.mp h]
                omega
            · rw [hdue, dr, ← hsum, due_step (by omega), sum_set, sum_set]
              congr 2
              unfold partsN
              rw [if_pos ek]
              show pre.sum + x - 1 + ((ti.toNat : Nat) : Int) = _
              omega
            · rw [List.length_append, List.length_append, List.length_singleton, List.length_singleton]
              omega
            · omega
            · exact .inl hd1
            · rw [List.length_append, List.length_append, List.length_singleton, List.length_singleton]
              omega
            · rw [hrun, if_pos (show nodeKinds.contains (k, V.int ti).1 = true from ek), ← ed2, List.reverse_append, List.reverse_append]
              rfl
          | false =>
            rw [countIn_one, if_neg (by rw [ek]; exact Bool.false_ne_true)] at ct
            refine iteF ⟨pre ++ [x - 1], d2, _, _, rfl, s4, upd_same, hst4, ?_, ?_, ?_, ?_, ?_, (fun e => by omega), ?_⟩
            · rw [hdue, dr, ← hsum, due_step (by omega), sum_set]
              congr 2
              unfold partsN
              rw [if_neg (by rw [ek]; exact Bool.false_ne_true)]
              show pre.sum + x - 1 + 0 = _
              omega
            · rw [List.length_append, List.length_singleton]
              omega
            · omega
            · exact .inl hd1
            · rw [List.length_append, List.length_singleton]
              omega
            · rw [hrun, if_neg (show ¬ nodeKinds.contains (k, t).1 = true by rw [show nodeKinds.contains (k, t).1 = false from ek]; exact Bool.false_ne_true), ← ed2, List.reverse_append]
              rfl
    · rintro σ H2 ⟨st, dp, x3, x4, rfl, s2, e2, hst, hdue, hsl, hdp, hor, hsi, h0, hrun⟩
      refine ⟨_, rfl, l, st, rfl, SqL.of e2, rfl, _, rfl, ?_⟩
      rw [hxn, List.drop_length] at hdue
      rw [hxn, List.take_length] at hsl hdp
      have hs := hst.sum
      have hd : dueGo 1 ns = decide (st.sum.toNat = 0) := hdue
      rw [hxn, List.drop_length] at hrun
      have hrun : runD [1] 0 ns = (st.reverse.sum, dp) := hrun
      rw [sum_rev] at hrun
      refine ite2 (fun h => ?_) (fun h => ?_)
      · have h : V.int st.sum = V.int 0 := of_decide_eq_true h
        have h : st.sum = 0 := by injection h
        refine ⟨_, rfl, q dp H2 s2 ⟨fun _ => by rw [hd]; exact decide_eq_true (by omega), fun _ => by omega⟩ hdp (by unfold depthN; rw [hrun, if_pos h])⟩
      · have h : st.sum ≠ 0 := fun e => h (decide_eq_true (by rw [e]))
        exact q 0 H2 s2 ⟨fun z => by omega, fun z => by rw [hd] at z; have := of_decide_eq_true z; omega⟩ (by omega) (by unfold depthN; rw [hrun, if_neg h])
end
end Eh
set_option Elab.async false
set_option linter.all false
set_option maxRecDepth 100000
set_option maxHeartbeats 2000000
namespace Eh
open PySem PySem.Spec PyProof.Rows L2
theorem run_pop {st st' : List Int} {d : Int} {ns : List (Str × V)} (h : popz st = popz st') (hs : st.sum = st'.sum) : runD st d ns = runD st' d ns := by
  cases ns with
  | nil => rw [runD, runD, hs]
  | cons n ns => rw [runD, runD, h]
mutual
/-- a tree in which each inner node has a part -/
def plFull : Pl → Bool
  | .leaf _ _ => true
  | .node _ ps => !ps.isEmpty && plsFull ps
def plsFull : List Pl → Bool
  | [] => true
  | p :: ps => plFull p && plsFull ps
end
mutual
theorem run_tree : ∀ {p : Pl}, plOk p = true → plFull p = true → ∀ (x : Int) (r : List Int) (d : Int) (rest : List (Str × V)), 1 ≤ x →
    runD (x :: r) d (nodesOf p ++ rest) = runD ((x - 1) :: r) (max d ((r.length : Int) + depthOf p)) rest
  | .leaf k t, h, _, x, r, d, rest, hx => by
    rw [plOk] at h
    rw [nodesOf, depthOf]
    show runD (x :: r) d ((k, t) :: rest) = _
    rw [run_step (popz_ne (by omega)), if_neg (fun z => by rw [show nodeKinds.contains k = true from z] at h; cases h)]
    rfl
  | .node k ps, h, f, x, r, d, rest, hx => by
    rw [plOk, Bool.and_eq_true] at h
    rw [plFull, Bool.and_eq_true] at f
    rw [nodesOf, depthOf]
    show runD (x :: r) d ((k, .int (ps.length : Int)) :: (nodesAll ps ++ rest)) = _
    rw [run_step (popz_ne (by omega)), if_pos h.1]
    show runD ((ps.length : Int) :: (x - 1) :: r) _ _ = _
    have hne : ps.isEmpty = false := by simpa using f.1
    rw [run_trees h.2 f.2 ((x - 1) :: r) _ rest, hne, if_neg Bool.false_ne_true]
    have e : max (max d ((r.length : Int) + 1)) ((((x - 1) :: r).length : Int) + depthAll ps) = max d ((r.length : Int) + ((1 + depthAll ps : Nat) : Int)) := by
      rw [List.length_cons]
      omega
    rw [e]
    refine run_pop ?_ ?_
    · show popz (0 :: (x - 1) :: r) = _
      rw [popz, if_pos rfl]
    · rw [List.sum_cons]
      omega
theorem run_trees : ∀ {ps : List Pl}, plsOk ps = true → plsFull ps = true → ∀ (r : List Int) (d : Int) (rest : List (Str × V)),
    runD ((ps.length : Int) :: r) d (nodesAll ps ++ rest) = runD (0 :: r) (max d (if ps.isEmpty = true then d else (r.length : Int) + depthAll ps)) rest
  | [], _, _, r, d, rest => by
    rw [nodesAll]
    show runD (0 :: r) d rest = runD (0 :: r) (max d (if true = true then d else _)) rest
    rw [if_pos rfl, Int.max_self]
  | p :: ps, h, f, r, d, rest => by
    rw [plsOk, Bool.and_eq_true] at h
    rw [plsFull, Bool.and_eq_true] at f
    rw [nodesAll, List.append_assoc, run_tree h.1 f.1 _ r d _ (by rw [List.length_cons]; omega)]
    have e1 : (((p :: ps).length : Int) - 1) = (ps.length : Int) := by
      rw [List.length_cons]
      omega
    rw [e1, run_trees h.2 f.2 r _ rest, depthAll]
    congr 1
    cases ps with
    | nil =>
      show max _ (if true = true then _ else _) = max d (if false = true then _ else _)
      rw [if_pos rfl, if_neg Bool.false_ne_true, depthAll]
      omega
    | cons q qs =>
      show max _ (if false = true then _ else _) = max d (if false = true then _ else _)
      rw [if_neg Bool.false_ne_true, if_neg Bool.false_ne_true]
      omega
end
theorem depth_tree {p : Pl} (h : plOk p = true) (f : plFull p = true) : depthN (nodesOf p) = depthOf p := by
  have e := run_tree h f 1 [] 0 [] (by decide)
  rw [List.append_nil] at e
  unfold depthN
  rw [e]
  show (if (([(1 : Int) - 1]).sum) = 0 then max 0 ((0 : Int) + depthOf p) else 0) = _
  rw [if_pos (by decide)]
  omega
mutual
theorem At.full {K : PySem.W.Frag} {H : Hp} : ∀ {v : V} {p : Pl}, At K H v p → plFull p = true
  | _, _, .leaf h o => by rw [plFull]
  | _, _, .node (ps := ps) h1 h2 o a b r => by
    rw [plFull, AtAll.full r]
    cases ps with
    | nil => exact absurd a (by decide)
    | cons _ _ => rfl
theorem AtAll.full {K : PySem.W.Frag} {H : Hp} : ∀ {vs : List V} {ps : List Pl}, AtAll K H vs ps → plsFull ps = true
  | _, _, .nil => by rw [plsFull]
  | _, _, .cons h r => by
    rw [plsFull, At.full h, AtAll.full r]
    rfl
end
end Eh
set_option Elab.async false
set_option linter.all false
set_option maxRecDepth 100000
set_option maxHeartbeats 2000000
namespace Eh
open PySem PySem.Spec PyProof.Rows L2
/-- each text once -/
def nubS (zs : List Str) : List Str := zs.foldl (fun acc z => put z acc) []
theorem nub_fold : ∀ (zs acc : List Str), acc.Nodup → (zs.foldl (fun acc z => put z acc) acc).Nodup ∧ ∀ x, x ∈ zs.foldl (fun acc z => put z acc) acc ↔ x ∈ acc ∨ x ∈ zs
  | [], acc, h => ⟨h, fun x => by simp⟩
  | z :: zs, acc, h => by
    obtain ⟨a, b⟩ := nub_fold zs (put z acc) (nodup_put h)
    refine ⟨a, fun x => ?_⟩
    rw [List.foldl_cons, b x, mem_put, List.mem_cons]
    constructor
    · rintro ((h | h) | h)
      · exact .inr (.inl h)
      · exact .inl h
      · exact .inr (.inr h)
    · rintro (h | h | h)
      · exact .inl (.inr h)
      · exact .inl (.inl h)
      · exact .inr h
theorem nub_len {ys zs : List Str} (nd : ys.Nodup) (h : ∀ z, z ∈ ys ↔ z ∈ zs) : ys.length = (nubS zs).length := by
  obtain ⟨a, b⟩ := nub_fold zs [] List.nodup_nil
  have m : ∀ x, x ∈ nubS zs ↔ x ∈ zs := fun x => by
    unfold nubS
    rw [b x]
    simp
  have u1 := nodup_le nd (us := nubS zs) fun z hz => (m z).mpr ((h z).mp hz)
  have u2 := nodup_le a (us := ys) fun z hz => (h z).mpr ((m z).mp hz)
  have u2 : (nubS zs).length ≤ ys.length := u2
  omega
def boundB (ns : List (Str × V)) : Bool := decide ((nubS (factsN ns)).length ≤ 6) && decide (countIn choiceKinds ns ≤ 10) && (decide (1 ≤ depthN ns) && decide (depthN ns ≤ 8))
def areB (nds : List (Option (Str × V))) : Bool := decide (nds.length ≤ 40) && (nds.all Option.isSome && boundB (nds.filterMap id))
inductive NodesW (K : PySem.W.Frag) (H : Hp) : V → Bool → Prop
  | other {v : V} : NoT H v → NodesW K H v false
  | tup {p : Addr} {xs : List V} {nds : List (Option (Str × V))} : SqT K H p xs → NdAll K H xs nds → NodesW K H (.ref p) (areB nds)
section
variable {P : Program} {w : World} {K : PySem.W.Frag} {mg : Str → Option Value} {base : Heap}
def spAreE (K : PySem.W.Frag) : Sp := fun vs H Q _ => ∃ v b, vs = [v] ∧ NodesW K H v b ∧ ∀ H', Same H H' → Q (.bl b) H'
theorem ok_are_nodesE {fN fF fC fD f : Addr} {fdN fdF fdC fdD fd : FuncData} (F : Fun K "_are_nodes" "_are_nodes" s__are_nodes f fd) (T : Txt mg)
    (c40 : ∃ t, mg "MAX_NODES" = some (.int 40 t)) (c6 : ∃ t, mg "MAX_FACTS" = some (.int 6 t)) (c10 : ∃ t, mg "MAX_CHOICES" = some (.int 10 t)) (c8 : ∃ t, mg "MAX_DEPTH" = some (.int 8 t))
    (C_is_node : Cal P w K mg base 2 "is_node" fN fdN ["value"] (spIsNode K)) (C_facts_of : Cal P w K mg base 1 "facts_of" fF fdF ["nodes"] (spFacts K)) (C_choices_of : Cal P w K mg base 1 "choices_of" fC fdC ["nodes"] (spChoices K)) (C_depth_of : Cal P w K mg base 1 "depth_of" fD fdD ["nodes"] (spDepthE K)) :
    FnOk P w K mg base CX0 3 f fd ["value"] (spAreE K) := by
  obtain ⟨t40, e40⟩ := c40
  obtain ⟨t6, e6⟩ := c6
  obtain ⟨t10, e10⟩ := c10
  obtain ⟨t8, e8⟩ := c8
  refine F.ok sc__are_nodes (fun vs H Q E h => ?_) (fun cdv A outer s H vs Q E hr h => ?_)
  · obtain ⟨v, b, rfl, _⟩ := h
    rfl
  · obtain ⟨v, b, rfl, hv, q⟩ := h
    have hr1 := hr.mono (j := 1) (by omega)
    refine ⟨_, (pss_cons (ps_if (PW.pt (pw_or (pt_not (pt_val (pe_callB (isiQ (K := K) rfl) (by rfl) T.isinstance_ (by decide +kernel) (pa_cons (pv 0) (pa_cons (pe_bltn (v := .ty "tuple") (by rfl) T.tuple_ (by decide +kernel) rfl) pa_nil))))) (pw_or1 (pt_cmpR op_gt (pe_callB (lenQ (K := K) rfl) (by rfl) T.len_ (by decide +kernel) (pa_cons (pv 0) pa_nil)) (pe_glob (v := .int 40) rfl e40 ⟨_, rfl⟩) (nomark _)))))
  (pss_one (ps_ret pe_bl))
  pss_nil)
  (pss_cons (ps_if (pt_not (pt_val (pe_callB (allQ (K := K) rfl (by rfl)) (by rfl) T.all_ (by decide +kernel) (pa_cons (pe_lc (own := [("node", 1)]) (g := gName 1) (by rfl) sc__are_nodes.nd (pi_tup (pv 0)) (blkOk_by (by kernel_rfl)) (fun _ _ _ _ _ => (pg_name (i := 1) sc__are_nodes.nd rfl (.inl rfl))) (fun _ _ _ _ _ => pts_nil) (fun _ _ _ _ _ => (pe_call C_is_node.G hr (by rfl) C_is_node.m C_is_node.k C_is_node.b .nil pass0 (pa_cons (pv 1) pa_nil)))) pa_nil))))
  (pss_one (ps_ret pe_bl))
  pss_nil)
  (pss_cons (ps_if (PW.pt (pw_or (pt_cmpR op_gt (pe_callB (lenQ (K := K) rfl) (by rfl) T.len_ (by decide +kernel) (pa_cons (pe_call C_facts_of.G hr1 (by rfl) C_facts_of.m C_facts_of.k C_facts_of.b .nil pass0 (pa_cons (pv 0) pa_nil)) pa_nil)) (pe_glob (v := .int 6) rfl e6 ⟨_, rfl⟩) (nomark _)) (pw_or1 (pt_cmpR op_gt (pe_call C_choices_of.G hr1 (by rfl) C_choices_of.m C_choices_of.k C_choices_of.b .nil pass0 (pa_cons (pv 0) pa_nil)) (pe_glob (v := .int 10) rfl e10 ⟨_, rfl⟩) (nomark _)))))
  (pss_one (ps_ret pe_bl))
  pss_nil)
  (pss_one (ps_ret (pe_chain op_le op_le pe_int (pe_call C_depth_of.G hr1 (by rfl) C_depth_of.m C_depth_of.k C_depth_of.b .nil pass0 (pa_cons (pv 0) pa_nil)) (pe_glob (v := .int 8) rfl e8 ⟨_, rfl⟩))))))), ?_⟩
    cases hv with
    | other hno =>
      obtain ⟨u, ty, hk⟩ := hno.ty (K := K)
      exact ⟨_, rfl, v, .ty "tuple", _, .type "tuple", false, rfl, .ty _, ty, hk, _, rfl, iteT (q _ (Same.refl H))⟩
    | tup hs hn =>
      rename_i p xs nds
      have hlen := hn.length
      refine ⟨_, rfl, .ref p, .ty "tuple", _, .type "tuple", true, rfl, .ty _, ty_tup hs, kitTT, _, rfl, iteF ⟨_, rfl, .inl ⟨p, xs, rfl, .inr hs, _, 40, rfl, rfl, _, rfl, ite2 (fun h => ?_) (fun h => ?_)⟩⟩⟩
      · have h : (40 : Int) < xs.length := of_decide_eq_true h
        have eb : areB nds = false := by
          unfold areB
          rw [decide_eq_false (show ¬ nds.length ≤ 40 by omega)]
          rfl
        have q' := q _ (Same.refl H)
        rw [eb] at q'
        exact q'
      have hx40 : xs.length ≤ 40 := by
        have : ¬ (40 : Int) < xs.length := fun z => h (decide_eq_true z)
        omega
      have q : ∀ H', Same H H' → Q (.bl (nds.all Option.isSome && boundB (nds.filterMap id))) H' := fun H' s => by
        have q' := q H' s
        unfold areB at q'
        rw [decide_eq_true (show nds.length ≤ 40 by omega), Bool.true_and] at q'
        exact q'
      refine ⟨_, rfl, p, rfl, ⟨xs, hs⟩, fun D nD => ?_⟩
      have s1 : Same H (upd H D (.lst [])) := same_new nD
      refine lcT (K := K) (a := p) (xs := xs) (fun j acc H2 => Same H H2 ∧ acc = ((nds.take j).map Option.isSome).map V.bl) ⟨s1, rfl⟩ (fun j acc H2 h => (stk h.1).seq hs) ?_ ?_
      · rintro j x acc H2 hx hl e ⟨s2, ea⟩
        obtain ⟨n, en, hnd⟩ := hn.get hx
        have hj : j < 60 := by
          have := (List.getElem?_eq_some_iff.mp hx).1
          omega
        refine yesT ⟨_, rfl, x, n, rfl, hnd.ku (ku_same s2), fun H3 s3 => ?_⟩
        refine LcK.mk hl (by omega) (s3 _ _ e) ⟨fun b o eb => ?_, ?_⟩
        · rw [upd_ne (ne_of_none eb nD)]
          exact s3 _ _ (s2 b o eb)
        · rw [ea, take_succ' en, List.map_append, List.map_append]
          rfl
      · rintro acc H2 hl e ⟨s2, ea⟩
        refine ⟨D, _, rfl, SqL.of (e.trans (by rw [ea])), ?_⟩
        rw [hlen, List.take_length, List.all_map]
        cases ha : nds.all (id ∘ Option.isSome) with
        | false =>
          refine ⟨_, rfl, iteT ?_⟩
          have q' := q _ s2
          rw [show nds.all Option.isSome = false from ha, Bool.false_and] at q'
          exact q'
        | true =>
          obtain ⟨ns, en⟩ := all_some ha
          subst en
          obtain ⟨N, hg⟩ := hn.nds
          have hnl := N.length
          have q : ∀ H', Same H H' → Q (.bl (boundB ns)) H' := fun H' s => by
            have q' := q H' s
            rw [filterMap_some, show (ns.map some).all Option.isSome = true from ha, Bool.true_and] at q'
            exact q'
          refine ⟨_, rfl, iteF ?_⟩
          refine ⟨_, rfl, p, xs, ns, rfl, (stk s2).seq hs, N.tk (stk s2), hg, by omega, fun ys p3 H3 s3 n3 e3 nd so mem => ?_⟩
          have hys : ys.length = (nubS (factsN ns)).length := nub_len nd mem
          have s4 := s2.trans s3
          refine .inl ⟨p3, _, rfl, .inr (SqT.of e3), _, 6, rfl, rfl, _, rfl, ?_⟩
          rw [List.length_map, hys]
          by_cases h6 : (nubS (factsN ns)).length ≤ 6
          · rw [decide_eq_false (by omega)]
            refine iteF ?_
            refine ⟨_, rfl, p, xs, ns, rfl, (stk s4).seq hs, N.tk (stk s4), by omega, fun H5 s5 => ?_⟩
            have s6 := s4.trans s5
            refine ⟨_, 10, rfl, rfl, _, rfl, ?_⟩
            by_cases h10 : countIn choiceKinds ns ≤ 10
            · rw [decide_eq_false (by omega)]
              refine iteF ?_
              refine ⟨_, rfl, p, xs, ns, rfl, (stk s6).seq hs, N.tk (stk s6), hg, by omega, fun dd H7 s7 d1 d2 d3 => ?_⟩
              have q' := q _ (s6.trans s7)
              unfold boundB at q'
              rw [decide_eq_true h6, decide_eq_true h10, Bool.true_and, Bool.true_and, ← d3] at q'
              refine ⟨1, dd, rfl, rfl, _, rfl, ?_⟩
              cases e1 : decide ((1 : Int) ≤ dd) with
              | false =>
                rw [e1, Bool.false_and] at q'
                exact iteF q'
              | true =>
                rw [e1, Bool.true_and] at q'
                exact iteT ⟨dd, 8, rfl, rfl, q'⟩
            · rw [decide_eq_true (by omega)]
              refine iteT ?_
              have q' := q _ s6
              unfold boundB at q'
              rw [decide_eq_false h10, Bool.and_false, Bool.false_and] at q'
              exact q'
          · rw [decide_eq_true (by omega)]
            refine iteT ?_
            have q' := q _ s4
            unfold boundB at q'
            rw [decide_eq_false h6, Bool.false_and, Bool.false_and] at q'
            exact q'
end
end Eh
set_option Elab.async false
set_option linter.all false
set_option maxRecDepth 100000
set_option maxHeartbeats 2000000
namespace Eh
open PySem PySem.Spec PyProof.Rows L2
theorem asc_fact {z : Str} (h : factS z = true) : Asc z := by
  unfold factS at h
  simp only [Bool.and_eq_true] at h
  have h8 := (of_decide_eq_true h.1.1.1).2
  refine ⟨by omega, fun c hc => ?_⟩
  have := List.all_eq_true.mp h.2 c hc
  unfold low at this
  have := of_decide_eq_true this
  omega
theorem good_eltG {K : PySem.W.Frag} {H : Hp} {k : Str} {t : V} (h : nodeAB k t = true) : Elt K H (.str k) ∧ Elt K H t := by
  refine ⟨eltS k (asc_kind h), ?_⟩
  cases t with
  | str z => exact .inl ⟨z, rfl, asc_fact (node_str h)⟩
  | int i => exact eltI i
  | bl b => exact eltB b
  | non => exact eltN
  | _ =>
    exfalso
    unfold nodeAB at h
    split at h
    · cases h
    · split at h
      · cases h
      · rw [Bool.and_eq_true] at h
        cases h.2
theorem nds_allG {K : PySem.W.Frag} {H : Hp} : ∀ {xs : List V} {ns : List (Str × V)}, NdsAt K H xs ns → GoodN ns → NdAll K H xs (ns.map some)
  | _, _, .nil, _ => .nil
  | _, _, .cons (k := k) (t := t) (ns := ns) h r, g => by
    have hg := g _ List.mem_cons_self
    obtain ⟨e1, e2⟩ := good_eltG (K := K) (H := H) hg
    have e : pairNd (.str k) t = some (k, t) := by
      show (if nodeAB k t = true then some (k, t) else none) = _
      rw [if_pos hg]
    have p := NdV.pair h e1 e2
    rw [e] at p
    exact .cons p (nds_allG r fun n hn => g n (List.mem_cons_of_mem _ hn))
theorem NodesW.ku {K : PySem.W.Frag} {H H' : Hp} {v : V} {b : Bool} (h : NodesW K H v b) (k : Ku H H') : NodesW K H' v b := by
  cases h with
  | other t => exact .other (t.ku k)
  | tup h n => exact .tup (k.tk.seq h) (n.ku k)
/-- whether good nodes are those of a promise -/
def okB (ns : List (Str × V)) : Bool := decide (ns.length ≤ 40) && boundB ns
theorem are_some (ns : List (Str × V)) : areB (ns.map some) = okB ns := by
  unfold areB okB
  rw [List.length_map, filterMap_some, show (ns.map some).all Option.isSome = true from by rw [List.all_map]; exact List.all_eq_true.mpr fun _ _ => rfl, Bool.true_and]
theorem good_W {K : PySem.W.Frag} {H : Hp} {p : Addr} {ys : List V} {ns : List (Str × V)} (hs : SqT K H p ys) (hN : NdsAt K H ys ns) (g : GoodN ns) : NodesW K H (.ref p) (okB ns) := by
  have h := NodesW.tup hs (nds_allG hN g)
  rw [are_some] at h
  exact h
/-- a promise with good nodes -/
def PrG (K : PySem.W.Frag) (C : Addr) (H : Hp) (a : Addr) (ns : List (Str × V)) : Prop := ∃ dx p xs, H a = some (.ins C dx [(("_nodes" : Str), .ref p)]) ∧ SqT K H p xs ∧ NdsAt K H xs ns ∧ GoodN ns
section
variable {P : Program} {w : World} {K : PySem.W.Frag} {mg : Str → Option Value} {base : Heap}
def spInitE (K : PySem.W.Frag) (C CE : Addr) : Sp := fun vs H Q E => ∃ x dx v b, vs = [.ref x, v] ∧ H x = some (.ins C dx []) ∧ NodesW K H v b ∧
  (b = true → ∀ H', But x H H' → H' x = some (.ins C dx [(("_nodes" : Str), v)]) → Q .non H') ∧ (b = false → ∀ H', Same H H' → E (.ref CE) none H')
theorem ok_initE {C fL CE fA f : Addr} {fdA fd : FuncData} (F : Fun K "__init__" "Promise.__init__" s_Promise___init__ f fd) (T : Txt mg) (R : ErrC K mg "InvalidPromise" CE) (PC : PromC K mg C f fL)
    (C__are_nodes : Cal P w K mg base 3 "_are_nodes" fA fdA ["value"] (spAreE K)) : FnOk P w K mg base (L2.CX P w) 4 f fd ["self", "nodes"] (spInitE K C CE) := by
  refine F.okX sc_Promise___init__ (fun vs H Q E h => ?_) (fun cdv A outer s H vs Q E hr h => ?_)
  · obtain ⟨x, dx, v, b, rfl, _⟩ := h
    rfl
  · obtain ⟨x, dx, v, b, rfl, ex, hv, q1, q2⟩ := h
    refine ⟨_, (pss_cons (ps_if (pt_not (pt_val (pe_call C__are_nodes.G hr (by rfl) C__are_nodes.m C__are_nodes.k C__are_nodes.b .nil pass0 (pa_cons (pv 1) pa_nil))))
      (pss_one (ps_raise rfl (takes_of rfl rfl rfl rfl) (pmk_own PySem.F.excBase_ValueError R.q R.g R.k (raises_own R.b R.t) rfl))) pss_nil)
      (pss_one (ps_fld (pv 0) (pv 1) rfl))), ?_⟩
    refine ⟨_, rfl, v, b, rfl, hv, fun H1 s1 => ⟨_, rfl, ?_⟩⟩
    cases b with
    | false => exact iteT (q2 rfl H1 s1)
    | true =>
      refine iteF ?_
      refine ⟨_, rfl, _, rfl, x, C, dx, [], rfl, s1 _ _ ex, PC.cl, PC.nn, by decide, ?_⟩
      exact q1 rfl _ (fun b o n e => by rw [upd_ne n]; exact s1 b o e) upd_same
/-- what is laid by making, and what __init__ leaves -/
theorem made_steps {K : PySem.W.Frag} {C x dx p : Addr} {H H4 : Hp} {ys : List V} {ns : List (Str × V)} (nx : H x = none) (nd : H dx = none) (hs : SqT K H p ys) (hN : NdsAt K H ys ns) (g : GoodN ns)
    (bt : But x (upd (upd H dx (.own x)) x (.ins C dx [])) H4) (e4 : H4 x = some (.ins C dx [(("_nodes" : Str), .ref p)])) : Same H H4 ∧ PrG K C H4 x ns := by
  have s3 : Same H (upd (upd H dx (.own x)) x (.ins C dx [])) := fun b o e => by
    rw [upd_ne (ne_of_none e nx), upd_ne (ne_of_none e nd)]
    exact e
  have s4 : Same H H4 := fun b o e => bt b o (ne_of_none e nx) (s3 b o e)
  exact ⟨s4, dx, p, ys, e4, (stk s4).seq hs, hN.tk (stk s4), g⟩
def spMadeE (K : PySem.W.Frag) (C CE : Addr) (n : Nat) : Sp := fun vs H Q E => ∃ v pl, vs = [v] ∧ At K H v pl ∧ GoodN (nodesOf pl) ∧ (nodesOf pl).length ≤ n ∧ n < 1000 ∧
  (okB (nodesOf pl) = true → ∀ x H', Same H H' → H x = none → PrG K C H' x (nodesOf pl) → Q (.ref x) H') ∧ (okB (nodesOf pl) = false → ∀ H', Same H H' → E (.ref CE) none H')
end
end Eh
set_option Elab.async false
set_option linter.all false
set_option maxRecDepth 100000
set_option maxHeartbeats 2000000
namespace Eh
open PySem PySem.Spec PyProof.Rows L2
section
variable {P : Program} {w : World} {K : PySem.W.Frag} {mg : Str → Option Value} {base : Heap}
/-- the promise of a plain one, or the error where it is beyond a bound -/
theorem ok_madeE {n : Nat} {fN fI fL C CE f : Addr} {fdN fdI fd : FuncData} (F : Fun K "_law_made" "_law_made" s__law_made f fd) (T : Txt mg) (PC : PromC K mg C fI fL) (C__law_nodes : Cal P w K mg base (n + 1) "_law_nodes" fN fdN ["plain"] (spNodes K n))
    (GI : FnOk P w K mg base (L2.CX P w) 4 fI fdI ["self", "nodes"] (spInitE K C CE)) (bI : Binds K fdI ["self", "nodes"] []) : FnOk P w K mg base (L2.CX P w) (n + 6) f fd ["plain"] (spMadeE K C CE n) := by
  refine F.okX sc__law_made (fun vs H Q E h => ?_) (fun cdv A outer s H vs Q E hr h => ?_)
  · obtain ⟨v, pl, rfl, _⟩ := h
    rfl
  · obtain ⟨v, pl, rfl, hA, gd, hl, hn, q1, q2⟩ := h
    have hr1 := hr.mono (j := n + 1) (by omega)
    have hr5 := hr.mono (j := 5) (by omega)
    refine ⟨_, (pss_one (ps_ret (pe_makeS PC.mkC GI hr5 (by rfl) PC.g bI (fun σ => passAt (takes_of rfl rfl rfl rfl) σ) (pa_cons (pe_callTy call_tuple_of (by rfl) T.tuple_ (by decide +kernel) (pa_cons (pe_call C__law_nodes.G hr1 (by rfl) C__law_nodes.m C__law_nodes.k C__law_nodes.b .nil pass0 (pa_cons (pv 0) pa_nil)) pa_nil)) pa_nil)))), ?_⟩
    refine ⟨_, rfl, v, pl, rfl, hA, hl, by omega, fun xs l H1 s1 n1 e1 N1 => ?_⟩
    refine ⟨l, xs, rfl, .inl ⟨SqL.of e1, fun p np => fun x dx nx nd ne => ?_⟩⟩
    have s2 : Same H (upd H1 p (.tup xs)) := s1.trans (same_new np)
    have h2 : SqT K (upd H1 p (.tup xs)) p xs := SqT.of upd_same
    have N2 := N1.tk (Tk.new (o := .tup xs) np)
    generalize upd H1 p (.tup xs) = H2 at s2 h2 N2 nx nd ⊢
    have u3 : Same H2 (upd (upd H2 dx (.own x)) x (.ins C dx [])) := fun b' o' eb => by
      rw [upd_ne (ne_of_none eb nx), upd_ne (ne_of_none eb nd)]
      exact eb
    refine ⟨x, dx, .ref p, okB (nodesOf pl), rfl, upd_same, (good_W h2 N2 gd).ku (ku_same u3), fun eb H4 bt e4 => ⟨rfl, ?_⟩, fun eb H4 s4 => ?_⟩
    · obtain ⟨s5, pr⟩ := made_steps nx nd h2 N2 gd bt e4
      exact q1 eb x H4 (s2.trans s5) (s2.free nx) pr
    · exact q2 eb H4 (s2.trans (u3.trans s4))
end
end Eh
set_option Elab.async false
set_option linter.all false
set_option maxRecDepth 100000
set_option maxHeartbeats 2000000
namespace Eh
open PySem PySem.Spec PyProof.Rows L2
theorem goodAll_app {a b : List (Str × V)} (h : GoodN a) (k : GoodN b) : GoodN (a ++ b) := fun n hn => (List.mem_append.mp hn).elim (h n) (k n)
end Eh
set_option Elab.async false
set_option linter.all false
set_option maxRecDepth 100000
set_option maxHeartbeats 2000000
namespace Eh
open PySem PySem.Spec PyProof.Rows L2
def NGd (n : Str × V) : Prop := nodeAB n.1 n.2 = true
theorem told_casesG {n : Str × V} (h : NGd n) : (∃ z, n.2 = .str z ∧ factS z = true) ∨ ∃ i, n.2 = .int i := by
  obtain ⟨k, t⟩ := n
  have h : nodeAB k t = true := h
  cases t with
  | str z => exact .inl ⟨z, rfl, node_str h⟩
  | int i => exact .inr ⟨i, rfl⟩
  | _ =>
    exfalso
    have hg : nodeAB k _ = true := h
    unfold nodeAB at hg
    split at hg
    · cases hg
    · split at hg
      · cases hg
      · rw [Bool.and_eq_true] at hg
        cases hg.2
theorem dp_nodeG {K : PySem.W.Frag} {H : Hp} {a : Addr} {n : Str × V} (h : SqT K H a [.str n.1, n.2]) (o : NGd n) : Dp K H (.ref a) (nodeD n) := by
  refine .tup h (.cons (.str n.1) (.cons ?_ .nil))
  rcases told_casesG o with ⟨z, e, _⟩ | ⟨i, e⟩
  · rw [e]
    exact .str z
  · rw [e]
    exact .int i
theorem dp_nodesG {K : PySem.W.Frag} {H : Hp} : ∀ {xs : List V} {ns : List (Str × V)}, NdsAt K H xs ns → (∀ n ∈ ns, NGd n) → DpAll K H xs (ns.map nodeD)
  | _, _, .nil, _ => .nil
  | _, _, .cons (k := k) (t := t) h r, o => .cons (dp_nodeG (n := (k, t)) h (o _ List.mem_cons_self)) (dp_nodesG r fun n hn => o n (List.mem_cons_of_mem _ hn))
theorem told_eqvG {a b : Str × V} (ha : NGd a) (hb : NGd b) : PyData.eqv (toldD a.2) (toldD b.2) = decide (a.2 = b.2) := by
  rcases told_casesG ha with ⟨z, e, _⟩ | ⟨i, e⟩ <;> rcases told_casesG hb with ⟨y, e', _⟩ | ⟨j, e'⟩ <;> rw [e, e']
  · show (z == y) = _
    rw [sbeq]
    exact decide_eq_decide.mpr ⟨fun h => by rw [h], fun h => by injection h⟩
  · show false = _
    exact (decide_eq_false (fun h => by cases h)).symm
  · show false = _
    exact (decide_eq_false (fun h => by cases h)).symm
  · show (i == j) = _
    rw [show (i == j) = decide (i = j) from by rw [Bool.eq_iff_iff, beq_iff_eq, decide_eq_true_iff]]
    exact decide_eq_decide.mpr ⟨fun h => by rw [h], fun h => by injection h⟩
theorem node_eqvG {a b : Str × V} (ha : NGd a) (hb : NGd b) : PyData.eqv (nodeD a) (nodeD b) = decide (a = b) := by
  show ((a.1 == b.1) && (PyData.eqv (toldD a.2) (toldD b.2) && true)) = _
  rw [told_eqvG ha hb, Bool.and_true, sbeq, Bool.eq_iff_iff, Bool.and_eq_true, decide_eq_true_iff, decide_eq_true_iff, decide_eq_true_iff]
  exact ⟨fun h => Prod.ext h.1 h.2, fun h => by rw [h]; exact ⟨rfl, rfl⟩⟩
theorem nodes_eqvAllG : ∀ {ns ms : List (Str × V)}, (∀ n ∈ ns, NGd n) → (∀ n ∈ ms, NGd n) → PyData.eqvAll (ns.map nodeD) (ms.map nodeD) = decide (ns = ms)
  | [], [], _, _ => rfl
  | [], b :: ms, _, _ => rfl
  | a :: ns, [], _, _ => rfl
  | a :: ns, b :: ms, ha, hb => by
    have ih := nodes_eqvAllG (fun n hn => ha n (List.mem_cons_of_mem _ hn)) (fun n hn => hb n (List.mem_cons_of_mem _ hn)) (ns := ns) (ms := ms)
    show (PyData.eqv (nodeD a) (nodeD b) && PyData.eqvAll (ns.map nodeD) (ms.map nodeD)) = _
    rw [ih, node_eqvG (ha a List.mem_cons_self) (hb b List.mem_cons_self), Bool.eq_iff_iff, Bool.and_eq_true, decide_eq_true_iff, decide_eq_true_iff, decide_eq_true_iff]
    exact ⟨fun h => by rw [h.1, h.2], fun h => by injection h with h1 h2; exact ⟨h1, h2⟩⟩
theorem nodes_eqvG {ns ms : List (Str × V)} (ha : ∀ n ∈ ns, NGd n) (hb : ∀ n ∈ ms, NGd n) : PyData.eqv (nodesD ns) (nodesD ms) = decide (ns = ms) := nodes_eqvAllG ha hb
theorem told_layG {n : Str × V} (h : NGd n) : PyData.canLay0 (toldD n.2) = true ∧ PyData.depth (toldD n.2) = 0 := by
  rcases told_casesG h with ⟨z, e, hz⟩ | ⟨i, e⟩
  · rw [e]
    refine ⟨?_, rfl⟩
    have ha := asc_fact hz
    show (z.cps.all fun c => decide (c < 0x110000)) = true
    rw [← Array.all_toList]
    exact List.all_eq_true.mpr fun c hc => decide_eq_true (by have := ha.2 c hc; omega)
  · rw [e]
    exact ⟨rfl, rfl⟩
theorem nodes_layAllG : ∀ {ns : List (Str × V)}, (∀ n ∈ ns, NGd n) → PyData.canLayAll0 (ns.map nodeD) = true ∧ PyData.depthAll (ns.map nodeD) ≤ 1
  | [], _ => ⟨rfl, Nat.zero_le _⟩
  | a :: ns, h => by
    obtain ⟨i1, i2⟩ := nodes_layAllG (fun n hn => h n (List.mem_cons_of_mem _ hn) : ∀ n ∈ ns, NGd n)
    have ha := h a List.mem_cons_self
    obtain ⟨t1, t2⟩ := told_layG ha
    have d1 : PyData.depth (nodeD a) = 1 := by
      show max 0 (max (PyData.depth (toldD a.2)) 0) + 1 = 1
      rw [t2]
      rfl
    refine ⟨?_, ?_⟩
    · show ((PyData.canLay0 (.str a.1) && (PyData.canLay0 (toldD a.2) && true)) && PyData.canLayAll0 (ns.map nodeD)) = true
      rw [kind_lay ha, t1, i1]
      rfl
    · show max (PyData.depth (nodeD a)) (PyData.depthAll (ns.map nodeD)) ≤ 1
      rw [d1]
      omega
theorem nodes_shapedG {ns : List (Str × V)} (h : ∀ n ∈ ns, NGd n) : SeqAt.shaped (nodesD ns) = true := by
  obtain ⟨a, b⟩ := nodes_layAllG h
  unfold SeqAt.shaped
  rw [show PyData.canLay0 (nodesD ns) = true from a, Bool.true_and]
  refine decide_eq_true ?_
  show PyData.depthAll (ns.map nodeD) + 1 ≤ 64
  omega
section
variable {P : Program} {w : World} {K : PySem.W.Frag} {mg : Str → Option Value} {base : Heap}
def spEqG (K : PySem.W.Frag) (C : Addr) : Sp := fun vs H Q _ => ∃ a b ns ms, vs = [.ref a, .ref b] ∧ PrG K C H a ns ∧ PrG K C H b ms ∧ Q (.bl (decide (ns = ms))) H
end
end Eh
set_option Elab.async false
set_option linter.all false
set_option maxRecDepth 100000
set_option maxHeartbeats 2000000
namespace Eh
open PySem PySem.Spec PyProof.Rows L2
theorem slA {X : Cx} {K : PySem.W.Frag} (h : X.K = K) : SlR X (rSlA K) := by subst h; exact sl_tupA
theorem cutD (xs : List V) (a b : Nat) (h : a ≤ xs.length) (h2 : a ≤ b) : cutV xs (some (a : Int)) (some (b : Int)) = (xs.drop a).take (b - a) := by
  unfold cutV
  rw [HT.sIx_nat, HT.sIx_nat, Nat.min_eq_left h]
  by_cases hb : b ≤ xs.length
  · rw [Nat.min_eq_left hb]
  · rw [Nat.min_eq_right (by omega), List.take_of_length_le (by rw [List.length_drop]; exact Nat.le_refl _), List.take_of_length_le (by rw [List.length_drop]; omega)]
end Eh
set_option Elab.async false
set_option linter.all false
set_option maxRecDepth 100000
set_option maxHeartbeats 2000000
namespace Eh
open PySem PySem.Spec PyProof.Rows L2
mutual
theorem nodes_inj : ∀ {p q : Pl} {r r' : List (Str × V)}, plOk p = true → plOk q = true → nodesOf p ++ r = nodesOf q ++ r' → p = q ∧ r = r'
  | .leaf k t, .leaf k' t', r, r', _, _, e => by
    rw [nodesOf, nodesOf] at e
    have e : (k, t) :: r = (k', t') :: r' := e
    injection e with e1 e2
    injection e1 with e3 e4
    exact ⟨by rw [e3, e4], e2⟩
  | .leaf k t, .node k' ps, r, r', h, h', e => by
    rw [nodesOf, nodesOf] at e
    have e : (k, t) :: r = (k', .int (ps.length : Int)) :: (nodesAll ps ++ r') := e
    injection e with e1 _
    injection e1 with e3 _
    rw [plOk] at h
    rw [plOk, Bool.and_eq_true] at h'
    rw [e3, h'.1] at h
    cases h
  | .node k ps, .leaf k' t', r, r', h, h', e => by
    rw [nodesOf, nodesOf] at e
    have e : (k, .int (ps.length : Int)) :: (nodesAll ps ++ r) = (k', t') :: r' := e
    injection e with e1 _
    injection e1 with e3 _
    rw [plOk] at h'
    rw [plOk, Bool.and_eq_true] at h
    rw [← e3, h.1] at h'
    cases h'
  | .node k ps, .node k' qs, r, r', h, h', e => by
    rw [nodesOf, nodesOf] at e
    have e : (k, V.int (ps.length : Int)) :: (nodesAll ps ++ r) = (k', V.int (qs.length : Int)) :: (nodesAll qs ++ r') := e
    injection e with e1 e2
    injection e1 with e3 e4
    injection e4 with e4
    rw [plOk, Bool.and_eq_true] at h h'
    obtain ⟨a, b⟩ := nodesAll_inj h.2 h'.2 (by omega) e2
    exact ⟨by rw [e3, a], b⟩
theorem nodesAll_inj : ∀ {ps qs : List Pl} {r r' : List (Str × V)}, plsOk ps = true → plsOk qs = true → ps.length = qs.length → nodesAll ps ++ r = nodesAll qs ++ r' → ps = qs ∧ r = r'
  | [], [], r, r', _, _, _, e => by
    rw [nodesAll] at e
    exact ⟨rfl, e⟩
  | [], q :: qs, _, _, _, _, l, _ => by cases l
  | p :: ps, [], _, _, _, _, l, _ => by cases l
  | p :: ps, q :: qs, r, r', h, h', l, e => by
    rw [plsOk, Bool.and_eq_true] at h h'
    rw [nodesAll, nodesAll, List.append_assoc, List.append_assoc] at e
    obtain ⟨a, b⟩ := nodes_inj h.1 h'.1 e
    obtain ⟨c, d⟩ := nodesAll_inj h.2 h'.2 (by injection l) b
    exact ⟨by rw [a, c], d⟩
end
mutual
def dataOf : Pl → PyData
  | .leaf k t => .tuple [.str k, toldD t]
  | .node k ps => .tuple [.str k, .tuple (dataAll ps)]
def dataAll : List Pl → List PyData
  | [] => []
  | p :: ps => dataOf p :: dataAll ps
end
/-- a tree with good leaves -/
def LeafG : List (Str × V) → Prop := fun ns => ∀ n ∈ ns, NGd n
mutual
theorem dp_tree {K : PySem.W.Frag} {H : Hp} : ∀ {v : V} {p : Pl}, At K H v p → LeafG (nodesOf p) → Dp K H v (dataOf p)
  | _, _, .leaf (k := k) (t := t) h o, g => by
    rw [dataOf]
    rw [nodesOf] at g
    have hn := g (k, t) List.mem_cons_self
    refine .tup h (.cons (.str k) (.cons ?_ .nil))
    rcases told_casesG hn with ⟨z, e, _⟩ | ⟨i, e⟩
    · have e : t = .str z := e
      rw [e]
      exact .str z
    · have e : t = .int i := e
      rw [e]
      exact .int i
  | _, _, .node (k := k) h1 h2 o a b r, g => by
    rw [dataOf]
    rw [nodesOf] at g
    exact .tup h1 (.cons (.str k) (.cons (.tup h2 (dp_trees r fun n hn => g n (List.mem_cons_of_mem _ hn))) .nil))
theorem dp_trees {K : PySem.W.Frag} {H : Hp} : ∀ {vs : List V} {ps : List Pl}, AtAll K H vs ps → LeafG (nodesAll ps) → DpAll K H vs (dataAll ps)
  | _, _, .nil, _ => by
    rw [dataAll]
    exact .nil
  | _, _, .cons h r, g => by
    rw [dataAll]
    rw [nodesAll] at g
    exact .cons (dp_tree h fun n hn => g n (List.mem_append_left _ hn)) (dp_trees r fun n hn => g n (List.mem_append_right _ hn))
end
end Eh
set_option Elab.async false
set_option linter.all false
set_option maxRecDepth 100000
set_option maxHeartbeats 2000000
namespace Eh
open PySem PySem.Spec PyProof.Rows L2
theorem told_tup {n : Str × V} (h : NGd n) (ds : List PyData) : PyData.eqv (toldD n.2) (.tuple ds) = false ∧ PyData.eqv (.tuple ds) (toldD n.2) = false := by
  rcases told_casesG h with ⟨z, e, _⟩ | ⟨i, e⟩
  · rw [e]
    exact ⟨rfl, rfl⟩
  · rw [e]
    exact ⟨rfl, rfl⟩
mutual
theorem tree_eqv : ∀ {p q : Pl}, LeafG (nodesOf p) → LeafG (nodesOf q) → (PyData.eqv (dataOf p) (dataOf q) = true ↔ p = q)
  | .leaf k t, .leaf k' t', g, g' => by
    rw [nodesOf] at g g'
    rw [dataOf, dataOf]
    show ((k == k') && (PyData.eqv (toldD t) (toldD t') && true)) = true ↔ _
    rw [told_eqvG (g (k, t) List.mem_cons_self) (g' (k', t') List.mem_cons_self), Bool.and_true, Bool.and_eq_true, beq_iff_eq, decide_eq_true_iff]
    exact ⟨fun h => by rw [h.1, show t = t' from h.2], fun h => by injection h with h1 h2; exact ⟨h1, h2⟩⟩
  | .leaf k t, .node k' qs, g, g' => by
    rw [nodesOf] at g
    rw [dataOf, dataOf]
    show ((k == k') && (PyData.eqv (toldD t) (.tuple (dataAll qs)) && true)) = true ↔ _
    rw [show PyData.eqv (toldD t) (.tuple (dataAll qs)) = false from (told_tup (g (k, t) List.mem_cons_self) _).1, Bool.false_and, Bool.and_false]
    exact ⟨(fun h => nomatch h), (fun h => nomatch h)⟩
  | .node k ps, .leaf k' t', g, g' => by
    rw [nodesOf] at g'
    rw [dataOf, dataOf]
    show ((k == k') && (PyData.eqv (.tuple (dataAll ps)) (toldD t') && true)) = true ↔ _
    rw [show PyData.eqv (.tuple (dataAll ps)) (toldD t') = false from (told_tup (g' (k', t') List.mem_cons_self) _).2, Bool.false_and, Bool.and_false]
    exact ⟨(fun h => nomatch h), (fun h => nomatch h)⟩
  | .node k ps, .node k' qs, g, g' => by
    rw [nodesOf] at g g'
    have ih := trees_eqv (fun n hn => g n (List.mem_cons_of_mem _ hn) : LeafG (nodesAll ps)) (fun n hn => g' n (List.mem_cons_of_mem _ hn) : LeafG (nodesAll qs))
    rw [dataOf, dataOf]
    show ((k == k') && (PyData.eqvAll (dataAll ps) (dataAll qs) && true)) = true ↔ _
    rw [Bool.and_true, Bool.and_eq_true, beq_iff_eq, ih]
    exact ⟨fun h => by rw [h.1, h.2], fun h => by injection h with h1 h2; exact ⟨h1, h2⟩⟩
theorem trees_eqv : ∀ {ps qs : List Pl}, LeafG (nodesAll ps) → LeafG (nodesAll qs) → (PyData.eqvAll (dataAll ps) (dataAll qs) = true ↔ ps = qs)
  | [], [], _, _ => by
    rw [dataAll]
    exact ⟨fun _ => rfl, fun _ => rfl⟩
  | [], q :: qs, _, _ => by
    rw [dataAll, dataAll]
    exact ⟨(fun h => nomatch h), (fun h => nomatch h)⟩
  | p :: ps, [], _, _ => by
    rw [dataAll, dataAll]
    exact ⟨(fun h => nomatch h), (fun h => nomatch h)⟩
  | p :: ps, q :: qs, g, g' => by
    rw [nodesAll] at g g'
    have i1 := tree_eqv (fun n hn => g n (List.mem_append_left _ hn) : LeafG (nodesOf p)) (fun n hn => g' n (List.mem_append_left _ hn) : LeafG (nodesOf q))
    have i2 := trees_eqv (fun n hn => g n (List.mem_append_right _ hn) : LeafG (nodesAll ps)) (fun n hn => g' n (List.mem_append_right _ hn) : LeafG (nodesAll qs))
    rw [dataAll, dataAll]
    show (PyData.eqv (dataOf p) (dataOf q) && PyData.eqvAll (dataAll ps) (dataAll qs)) = true ↔ _
    rw [Bool.and_eq_true, i1, i2]
    exact ⟨fun h => by rw [h.1, h.2], fun h => by injection h with h1 h2; exact ⟨h1, h2⟩⟩
end
mutual
theorem tree_lay : ∀ {p : Pl}, LeafG (nodesOf p) → PyData.canLay0 (dataOf p) = true ∧ PyData.depth (dataOf p) ≤ 2 * depthOf p
  | .leaf k t, g => by
    rw [nodesOf] at g
    have hn := g (k, t) List.mem_cons_self
    obtain ⟨t1, t2⟩ := told_layG hn
    rw [dataOf, depthOf]
    refine ⟨?_, ?_⟩
    · show (PyData.canLay0 (.str k) && (PyData.canLay0 (toldD t) && true)) = true
      rw [kind_lay (show nodeAB k t = true from hn), show PyData.canLay0 (toldD t) = true from t1]
      rfl
    · show max 0 (max (PyData.depth (toldD t)) 0) + 1 ≤ 2 * 1
      rw [show PyData.depth (toldD t) = 0 from t2]
      decide
  | .node k ps, g => by
    rw [nodesOf] at g
    have hn := g (k, .int (ps.length : Int)) List.mem_cons_self
    obtain ⟨i1, i2⟩ := trees_lay (fun n hn => g n (List.mem_cons_of_mem _ hn) : LeafG (nodesAll ps))
    rw [dataOf, depthOf]
    refine ⟨?_, ?_⟩
    · show (PyData.canLay0 (.str k) && (PyData.canLayAll0 (dataAll ps) && true)) = true
      rw [kind_lay (show nodeAB k (.int (ps.length : Int)) = true from hn), i1]
      rfl
    · show max 0 (max (PyData.depthAll (dataAll ps) + 1) 0) + 1 ≤ 2 * (1 + depthAll ps)
      omega
theorem trees_lay : ∀ {ps : List Pl}, LeafG (nodesAll ps) → PyData.canLayAll0 (dataAll ps) = true ∧ PyData.depthAll (dataAll ps) ≤ 2 * depthAll ps
  | [], _ => by
    rw [dataAll, depthAll]
    exact ⟨rfl, Nat.le_refl _⟩
  | p :: ps, g => by
    rw [nodesAll] at g
    obtain ⟨a1, a2⟩ := tree_lay (fun n hn => g n (List.mem_append_left _ hn) : LeafG (nodesOf p))
    obtain ⟨b1, b2⟩ := trees_lay (fun n hn => g n (List.mem_append_right _ hn) : LeafG (nodesAll ps))
    rw [dataAll, depthAll]
    refine ⟨?_, ?_⟩
    · show (PyData.canLay0 (dataOf p) && PyData.canLayAll0 (dataAll ps)) = true
      rw [a1, b1]
      rfl
    · show max (PyData.depth (dataOf p)) (PyData.depthAll (dataAll ps)) ≤ 2 * max (depthOf p) (depthAll ps)
      omega
end
theorem tree_shaped {p : Pl} (g : LeafG (nodesOf p)) (d : depthOf p ≤ 32) : SeqAt.shaped (dataOf p) = true := by
  obtain ⟨a, b⟩ := tree_lay g
  unfold SeqAt.shaped
  rw [a, Bool.true_and]
  exact decide_eq_true (by omega)
end Eh
set_option Elab.async false
set_option linter.all false
set_option maxRecDepth 100000
set_option maxHeartbeats 2000000
set_option Elab.async false
set_option linter.all false
set_option maxRecDepth 100000
set_option maxHeartbeats 2000000
namespace Eh
open PySem PySem.Spec PyProof.Rows L2
section
variable {X : Cx} {pins : List (Addr × Obj)} {σ : L2.St} {H : Hp} {s : Shared} {n : Nat} {f C : Addr} {fd : FuncData} {ps : List Str} {sp : Sp} {CX : CXT} {E : XK}
/-- a call of an own def somewhere below -/
theorem run_own {A : Around} {us : List Value} {vs : List V} {Q : VK} (F : FnOk X.prog X.w X.K X.mg X.base CX n f fd ps sp) (hb : Binds X.K fd ps []) (hx : Passes CX X E) (sb : Sub X n A) (I : Inv X pins σ H s) (r : Vals vs us) (hsp : sp vs H Q E) :
    wpAny (model X.prog X.w) A (call (.ref f) us) (EP X pins σ Q) X.xe s := by
  have e0 : Env0 X.prog X.w X.K X.mg X.base A X.stack s H := by
    have e := I.env0
    exact ⟨by rw [sb.fr]; exact e.frames, e.mod, e.bs, e.bsz, e.funs, e.frf, e.hok, e.bare⟩
  have hl := F.len _ _ _ _ hsp
  have hu : us.length = ps.length := by rw [← r.length]; exact hl
  have b := hb s us I.kIn (by rw [List.append_nil]; exact hu)
  rw [List.append_nil] at b
  refine wpAny_call (codeAny_mono (F.run A X.stack s H ⟨us, []⟩ us vs Q E sb.room e0 b r hsp) fun r s' hq => ?_)
  cases r with
  | error e => exact hx pins σ H s e s' I hq
  | ok fl =>
    cases fl with
    | ret u => exact I.after hq
    | next => exact False.elim hq
    | brk => exact False.elim hq
    | cont => exact False.elim hq
def rInOwn (C : Addr) (sp : Sp) (neg : Bool) (E : XK) : R2 := fun x y H Q => ∃ a dx fs, y = .ref a ∧ H a = some (.ins C dx fs) ∧ sp [.ref a, x] H (fun v H' => ∃ b, v = .bl b ∧ Q (.bl (b != neg)) H') E
theorem inOwn (F : FnOk X.prog X.w X.K X.mg X.base CX n f fd ps sp) (hr : Room n X.A) (hs : PySem.W.findIn X.K (.ref C) "__contains__" = some (some (.ref f))) (hf : PySem.W.isFn X.K (.ref f) = true) (hb : Binds X.K fd ps []) (hx : Passes CX X E) :
    OpR X (compareOp .In) (rInOwn C sp false E) := by
  intro pins s σ H x y v u Q I rx ry h
  obtain ⟨a, dx, fs, rfl, ha, q⟩ := h
  cases ry
  obtain ⟨mA, J, _⟩ := ins_get I.hok ha
  obtain ⟨od, J, _⟩ := J.look
  obtain ⟨m, hF⟩ := I.fr
  refine PySem.W.in_K hF I.ok.mod.kin J hs hf (wpAny_mono (run_own (us := [.ref a, v]) (vs := [.ref a, x]) F hb hx ⟨hr, rfl⟩ I (.cons rfl (.cons rx .nil)) q) (fun r s' z => ?_) fun _ _ e => e)
  obtain ⟨z, H', I', rz, b, rfl, q'⟩ := z
  cases rz
  refine wpAny_truthy_bool ⟨.bl b, H', I', rfl, ?_⟩
  rw [show (b != false) = b from by cases b <;> rfl] at q'
  exact q'
theorem niOwn (F : FnOk X.prog X.w X.K X.mg X.base CX n f fd ps sp) (hr : Room n X.A) (hs : PySem.W.findIn X.K (.ref C) "__contains__" = some (some (.ref f))) (hf : PySem.W.isFn X.K (.ref f) = true) (hb : Binds X.K fd ps []) (hx : Passes CX X E) :
    OpR X (compareOp .NotIn) (rInOwn C sp true E) := by
  intro pins s σ H x y v u Q I rx ry h
  obtain ⟨a, dx, fs, rfl, ha, q⟩ := h
  cases ry
  obtain ⟨mA, J, _⟩ := ins_get I.hok ha
  obtain ⟨od, J, _⟩ := J.look
  obtain ⟨m, hF⟩ := I.fr
  refine PySem.W.notIn_K hF I.ok.mod.kin J hs hf (wpAny_mono (run_own (us := [.ref a, v]) (vs := [.ref a, x]) F hb hx ⟨hr, rfl⟩ I (.cons rfl (.cons rx .nil)) q) (fun r s' z => ?_) fun _ _ e => e)
  obtain ⟨z, H', I', rz, b, rfl, q'⟩ := z
  cases rz
  refine wpAny_truthy_bool ⟨.bl (!b), H', I', rfl, ?_⟩
  rw [show (b != true) = !b from by cases b <;> rfl] at q'
  exact q'
def rIxOwn (C : Addr) (sp : Sp) (E : XK) : R2 := fun x y H Q => ∃ a dx fs, x = .ref a ∧ H a = some (.ins C dx fs) ∧ sp [.ref a, y] H Q E
theorem pe_ixOwn {a b : Expr} {ta tb : TE} {pos : Pos} (F : FnOk X.prog X.w X.K X.mg X.base CX n f fd ps sp) (hr : Room (n + 1) X.A) (hs : PySem.W.findIn X.K (.ref C) "__getitem__" = some (some (.ref f))) (hf : PySem.W.isFn X.K (.ref f) = true) (hk : PySem.W.fnIn X.K f = true) (hb : Binds X.K fd ps []) (hx : Passes CX X E)
    (ha : PE X a ta) (hi : PE X b tb) (hsl : ∀ (x : Addr) (i : Value), subscripted b true (.ref x) i = runValue (.builtin "lifetime.subscript" ⟨[.ref x, i], []⟩) := by intro _ _; with_unfolding_all rfl) : PE X (.Subscript a b pos) (tOp (rIxOwn C sp E) ta tb) := by
  refine ⟨fun pins s σ H Q I h => ?_⟩
  refine Subscript_ (binT ha hi I h fun v u s2 x y H2 I2 rx ry q => ?_)
  obtain ⟨o, dx, fs, rfl, ho, q⟩ := q
  cases rx
  obtain ⟨mA, J, _⟩ := ins_get I2.hok ho
  obtain ⟨od, J, _⟩ := J.look
  obtain ⟨m, hF⟩ := I2.fr
  exact PySem.W.sub_K hF I2.ok.mod.kin J hs hk hf (run_own (us := [.ref o, u]) (vs := [.ref o, y]) F hb hx ⟨hr.in1, rfl⟩ I2 (.cons rfl (.cons ry .nil)) q) (hsl _ _)
def rEqOwn (C : Addr) (sp : Sp) (E : XK) : R2 := fun x y H Q => ∃ a b dx dy fs gs, x = .ref a ∧ y = .ref b ∧ H a = some (.ins C dx fs) ∧ H b = some (.ins C dy gs) ∧ sp [.ref a, .ref b] H (fun v H' => ∃ k, v = .bl k ∧ Q (.bl k) H') E
theorem eqOwn (F : FnOk X.prog X.w X.K X.mg X.base CX n f fd ps sp) (hr : Room n X.A) (hs : PySem.W.findIn X.K (.ref C) "__eq__" = some (some (.ref f))) (hf : PySem.W.isFn X.K (.ref f) = true) (hb : Binds X.K fd ps []) (hx : Passes CX X E) :
    OpR X (compareOp .Eq) (rEqOwn C sp E) := by
  intro pins s σ H x y v u Q I rx ry h
  obtain ⟨a, b, dx, dy, fs, gs, rfl, rfl, ha, hb', q⟩ := h
  cases rx
  cases ry
  obtain ⟨mA, J, _⟩ := ins_get I.hok ha
  obtain ⟨mB, J', _⟩ := ins_get I.hok hb'
  obtain ⟨od, J, _⟩ := J.look
  obtain ⟨od', J', _⟩ := J'.look
  obtain ⟨m, hF⟩ := I.fr
  show wpAny _ _ (richCompare .Eq _ _) _ _ _
  refine PySem.W.cmp_K (op := .Eq) (tb := .ref C) hr.units0 hF I.ok.mod.kin J J'.type (by simp [PySem.W.notFirst]) hs hf (wpAny_mono (run_own (us := [.ref a, .ref b]) (vs := [.ref a, .ref b]) F hb hx ⟨hr, rfl⟩ I (.cons rfl (.cons rfl .nil)) q) (fun r s' z => ?_) fun _ _ e => e)
  obtain ⟨z, H', I', rz, k, rfl, q'⟩ := z
  cases rz
  exact ⟨.bl k, H', I', rfl, q'⟩
end
end Eh
set_option Elab.async false
set_option linter.all false
set_option maxRecDepth 100000
set_option maxHeartbeats 4000000
namespace Eh
open PySem PySem.Spec PyProof.Rows L2
def puts (xs : List Str) : List Str := xs.foldl (fun ts x => put x ts) []
theorem puts_succ {xs : List Str} {i : Nat} {x : Str} (h : xs[i]? = some x) : puts (xs.take (i + 1)) = put x (puts (xs.take i)) := by
  have e : xs.take (i + 1) = xs.take i ++ [x] := take_succ' h
  rw [e]
  unfold puts
  rw [List.foldl_append]
  rfl
theorem put_mem (x z : Str) (ts : List Str) : z ∈ put x ts ↔ z = x ∨ z ∈ ts := by
  unfold put
  split
  · exact ⟨.inr, fun h => h.elim (fun e => by rw [e]; assumption) id⟩
  · exact List.mem_cons
theorem put_nodup {x : Str} {ts : List Str} (h : ts.Nodup) : (put x ts).Nodup := by
  unfold put
  split
  · exact h
  · exact List.nodup_cons.mpr ⟨by assumption, h⟩
theorem foldl_put_mem : ∀ (xs ts : List Str) (z : Str), z ∈ xs.foldl (fun ts x => put x ts) ts ↔ z ∈ xs ∨ z ∈ ts
  | [], ts, z => by simp
  | x :: xs, ts, z => by
    rw [List.foldl_cons, foldl_put_mem xs (put x ts) z, put_mem, List.mem_cons]
    constructor
    · rintro (h | h | h)
      · exact .inl (.inr h)
      · exact .inl (.inl h)
      · exact .inr h
    · rintro ((h | h) | h)
      · exact .inr (.inl h)
      · exact .inl h
      · exact .inr (.inr h)
theorem foldl_put_nodup : ∀ (xs ts : List Str), ts.Nodup → (xs.foldl (fun ts x => put x ts) ts).Nodup
  | [], ts, h => h
  | x :: xs, ts, h => foldl_put_nodup xs _ (put_nodup h)
theorem foldl_put_len : ∀ (xs ts : List Str), (xs.foldl (fun ts x => put x ts) ts).length ≤ ts.length + xs.length
  | [], ts => Nat.le_refl _
  | x :: xs, ts => by
    have h1 := foldl_put_len xs (put x ts)
    have h2 := put_len x ts
    rw [List.foldl_cons, List.length_cons]
    omega
theorem puts_mem (xs : List Str) (z : Str) : z ∈ puts xs ↔ z ∈ xs := by
  unfold puts
  rw [foldl_put_mem]
  exact ⟨fun h => h.elim id (fun h => nomatch h), .inl⟩
theorem puts_nodup (xs : List Str) : (puts xs).Nodup := foldl_put_nodup xs [] List.nodup_nil
theorem puts_len (xs : List Str) : (puts xs).length ≤ xs.length := by
  have := foldl_put_len xs []
  rwa [List.length_nil, Nat.zero_add] at this
section
variable {prog : Program} {w : World} {A : Around} {R : Result → Shared → Prop} {I : Addr} {fp wr : List Addr} {G : Array GenState → Array GenState → Prop} {n : Nat} {P : Nat → Value → Prop} {St : Nat → Shared → Prop}
theorem loopT (W : WalksS prog w A.in1 I fp wr G n P St) (S : Addr) (hSf : S ∉ fp) (xs : List Str) (hn : n = xs.length) (hval : ∀ i v, P i v → ∃ x t, xs[i]? = some x ∧ v = .str x t) (hb : n + 1 < scanBound) :
    ∀ (k i : Nat) (s : Shared), n - i = k → i ≤ n → St i s → SetT w s.heap S (puts (xs.take i)) →
      (∀ s', Moved (S :: wr) G s s' → SetT w s'.heap S (puts xs) → R (.ok (.ret .none)) s') →
      codeAny (model prog w) A (.builtin "set.update.loop" ⟨[.ref S, .ref I], []⟩) R s := by
  have hSw : S ∉ wr := fun h => hSf (W.sub _ h)
  have hsub : ∀ b ∈ wr, b ∈ S :: wr := fun b hb => List.mem_cons_of_mem _ hb
  intro k
  induction k with
  | zero =>
    intro i s hk hi hst hS hR
    have hin : i = n := by omega
    subst hin
    refine codeAny_builtin PyProof.Rows.F.entry_set_update_loop ?_
    rw [Around.under_plainId PyProof.Rows.F.plain_set_update_loop _]
    show wpAny _ A.in1 (pyNext (.ref I) >>= _) _ _ s
    refine wpAny_bind (W.done s _ _ hst fun s' hm => ?_)
    show wpAny _ A.in1 (ret Value.none) _ _ s'
    refine wpAny_pure (hR s' (hm.mono hsub) ?_)
    rw [hn, List.take_length] at hS
    exact hS.at fun o ho => hm.heap S _ hSw ho
  | succ k ih =>
    intro i s hk hi hst hS hR
    have hlt : i < n := by omega
    refine codeAny_builtin PyProof.Rows.F.entry_set_update_loop ?_
    rw [Around.under_plainId PyProof.Rows.F.plain_set_update_loop _]
    show wpAny _ A.in1 (pyNext (.ref I) >>= _) _ _ s
    refine wpAny_bind (W.item i s _ _ hlt hst fun v s' hP hst' hm => ?_)
    obtain ⟨x, t, hx, rfl⟩ := hval i v hP
    have hS' : SetT w s'.heap S (puts (xs.take i)) := hS.at fun o ho => hm.heap S _ hSw ho
    show wpAny _ A.in1 (holding [Value.str x t] (setAdd S (.str x t)) >>= _) _ _ s'
    refine wpAny_bind (wpAny_holding ?_)
    unfold setAdd
    refine wpAny_holding ?_
    have hl := puts_len (xs.take i)
    have hl2 := List.length_take_le i xs
    refine wpAny_bind ((PySem.strKind prog w).pyHash (k := x) (strKind_is _ _ _ _) ?_)
    refine setT_hashed (s := { s' with toks := s'.toks + 1 }) hS' (by omega) fun r h' hsb hS2 => ?_
    rw [← puts_succ hx] at hS2
    refine wpAny_pure ⟨plainId_quiet PyProof.Rows.F.plain_set_update_loop _, ih (i + 1) _ (by omega) hlt (W.frame _ s' _ _ hst' (Nat.le_succ _) fun b hb o e => ?_) hS2 fun s'' hm'' hS'' => ?_⟩
    · rw [hsb.2 b (fun h : b = S => hSf (by rw [← h]; exact hb))]; exact e
    · refine hR s'' (Moved.trans W.gtrans ((hm.mono hsub).then_heap (Nat.le_succ _) fun b o hb e => ?_) hm'') hS''
      rw [hsb.2 b (fun h : b = S => hb (by rw [h]; exact List.mem_cons_self))]; exact e
end
section
variable {prog : Program} {w : World} {A : Around} {E : Value → Shared → Prop} {s : Shared}
theorem code_set_new_led (a : Value) {Q₁ : Value → Shared → Prop}
    (h : Q₁ (.ref s.heap.objs.size) { s with heap := s.heap.push { cls := .type "set", dict := none, data := .set #[] 0 (.fresh 0 0 (!w.params.followText "set-order")) } }) :
    codeAny (model prog w) A (.call (.builtin "set.__new__") ⟨[.type "set", a], []⟩) (wants Q₁ E) s := by
  refine codeAny_of_tree ?_
  show wpAny _ A.in1 (do checkBuiltinCall "set.__new__" ⟨[.type "set", a], []⟩; again (.builtin "set.__new__" ⟨[.type "set", a], []⟩)) _ _ s
  refine wpAny_bind (wpAny_of_eq (PySem.F.newCall_set_1 a) (wpAny_pure ⟨plainId_quiet PySem.F.plain_set_new _, codeAny_builtin PySem.F.entry_set_new ?_⟩))
  rw [Around.under_plainId PySem.F.plain_set_new _]
  unfold Builtin.«set.__new__» Builtin.Frozenset.newClass
  have hsub := sub_set_self
  obtain ⟨hp, g, d, tk, os⟩ := s
  dsimp only
  wp_walk
  refine wpAny_askSetting (wpAny_pure ?_)
  dsimp only
  simp only [newObj]
  refine wpAny_bind (wpAny_alloc (wpAny_pure ?_))
  exact wpAny_pure h
theorem strs_at' : ∀ {vs : List Value} {xs : List Str}, StrsAre vs xs → ∀ (i : Nat) (v : Value), vs[i]? = some v → ∃ x t, xs[i]? = some x ∧ v = .str x t
  | _, _, .nil, i, v, h => by simp at h
  | _, _, .cons n t hr, 0, v, h => by simp at h; exact ⟨n, t, rfl, by rw [← h]⟩
  | _, _, .cons n t hr, i + 1, v, h => by
    simp only [List.getElem?_cons_succ] at h
    obtain ⟨x, t', e0, e⟩ := strs_at' hr i v h
    exact ⟨x, t', by simpa using e0, e⟩
theorem call_set_txt {l : Addr} {items : Array Value} {xs : List Str} {Q : Value → Shared → Prop} (hh : A.handled = none) (hl : s.heap.IsList l items) (hi : StrsAre items.toList xs) (hb : xs.length + 1 < scanBound)
    (h : ∀ (h' : Heap) (tk : Nat), SetT w h' s.heap.objs.size (puts xs) → (∀ b o, b < s.heap.objs.size → s.heap.get? b = some o → h'.get? b = some o) → Q (.ref s.heap.objs.size) { s with heap := h', toks := tk }) :
    wpAny (model prog w) A (call (.type "set") [.ref l]) Q E s := by
  obtain ⟨c, tl, hmro⟩ := PySem.F.called_set.mro
  have hmade := PySem.F.called_set.made
  have hsub := PySem.F.called_set.sub
  refine wpAny_call (codeAny_of_tree ?_)
  show wpAny _ _ (callAny (.type "set") _) _ _ _
  refine wpAny_pure ⟨Code.quiet_builtin _ (by decide +kernel), codeAny_builtin PySem.F.entry_type_call ?_⟩
  rw [Around.under_plain (weight_type_call_type "set" [.ref l] []) rfl]
  have h1 := PySem.F.called_set.notType
  have h2 := PySem.F.called_set.canCreate
  have hct := PySem.F.typeCall_set_1 (.ref l)
  repeat (any_goals (first | assumption | wp_step))
  refine codeAny_mono (code_set_new_led (.ref l) (E := E) (Q₁ := fun obj s₁ => ∃ led : Bool, led = (!w.params.followText "set-order") ∧ obj = .ref s.heap.objs.size ∧ s₁ = { s with heap := s.heap.push { cls := .type "set", dict := none, data := .set #[] 0 (.fresh 0 0 led) } }) ⟨_, rfl, rfl, rfl⟩) fun r s₁ hr => ?_
  cases r with
  | error e => exact hr
  | ok fl =>
    cases fl with
    | ret obj =>
      obtain ⟨led, hled, rfl, rfl⟩ := hr
      have hS : (s.heap.push { cls := .type "set", dict := none, data := .set #[] 0 (.fresh 0 0 led) }).get? s.heap.objs.size = some { cls := .type "set", dict := none, data := .set #[] 0 (.fresh 0 0 led) } := Heap.get?_push_size _ rfl
      have hT : Shared.TypeIs { s with heap := s.heap.push { cls := .type "set", dict := none, data := .set #[] 0 (.fresh 0 0 led) } } (.ref s.heap.objs.size) "set" := ⟨_, hS, rfl⟩
      have hli := PySem.F.called_set.init.lookup
      have hbi := PySem.F.called_set.init.bind (.ref s.heap.objs.size)
      repeat (any_goals (first | assumption | wp_step))
      refine codeAny_mono (codeAny_call_builtin (R := wants (fun r s₂ => r = .none ∧ ∃ h' tk, s₂ = { s with heap := h', toks := tk } ∧
          SetT w h' s.heap.objs.size (puts xs) ∧ (∀ b o, b < s.heap.objs.size → s.heap.get? b = some o → h'.get? b = some o)) E) PySem.F.called_set.init.plain PySem.F.entry_set_init (check_set_init_1 hT ?_)) fun r₂ s₂ hr₂ => ?_
      · obtain ⟨ol, hol, hcl, nl, hdl⟩ := hl
        obtain ⟨ocls, odict, odata, oslots⟩ := ol
        simp only at hcl hdl
        subst hcl; subst hdl
        have hol' : (s.heap.push { cls := .type "set", dict := none, data := .set #[] 0 (.fresh 0 0 led) }).get? l = some { cls := .type "list", dict := odict, data := .seq items nl, slots := oslots } := Heap.get?_push_of_some _ hol
        have hsls := PySem.F.sub_list_set
        have hslf := PySem.F.sub_list_frozenset
        have hne : (Value.type "list" == Value.type "dict") = false := by decide
        have hl1 : (s.heap.push { cls := .type "set", dict := none, data := .set #[] 0 (.fresh 0 0 led) }).IsList l items := ⟨_, hol', rfl, nl, rfl⟩
        unfold Builtin.«set.__init__» noKeywords Builtin.Frozenset.updateFrom
        generalize hPI : pyIter = PI
        wp_walk
        subst hPI
        refine wpAny_pyIter_list hl1 ?_
        refine wpAny_bind (wpAny_runValue ?_)
        have hlS : l < s.heap.objs.size := Heap.lt_size hol
        have hh3 : A.in1.in1.in1.handled = none := by simp [hh]
        have hneI : l ≠ (s.heap.push { cls := .type "set", dict := none, data := .set #[] 0 (.fresh 0 0 led) }).objs.size := by
          rw [Heap.size_push]; exact Nat.ne_of_lt (Nat.lt_succ_of_lt hlS)
        have hSf : s.heap.objs.size ∉ [(s.heap.push { cls := .type "set", dict := none, data := .set #[] 0 (.fresh 0 0 led) }).objs.size, l] := by
          rw [Heap.size_push]; simp only [List.mem_cons, List.mem_singleton, List.not_mem_nil, or_false, not_or]
          exact ⟨Nat.ne_of_lt (Nat.lt_succ_self _), Nat.ne_of_gt hlS⟩
        have hsz : items.size = xs.length := by rw [← StrsAre.len_eq hi, Array.length_toList]
        have hval : ∀ (i : Nat) (v : Value), items[i]? = some v → ∃ x t, xs[i]? = some x ∧ v = .str x t := fun i v hv => strs_at' hi i v (by rw [Array.getElem?_toList]; exact hv)
        refine loopT ((Walks.list hh3 _ l hneI items).toS) s.heap.objs.size
          hSf xs hsz hval (by rw [hsz]; exact hb) (items.size - 0) 0 _ (by omega) (Nat.zero_le _)
          ⟨⟨_, Heap.get?_push_size _ rfl, rfl, rfl⟩, (hl1.push _)⟩ ?hS0 ?hR
        case hS0 =>
          have hT0 : SetT w (s.heap.push { cls := .type "set", dict := none, data := .set #[] 0 (.fresh 0 0 led) }) s.heap.objs.size [] := by
            rw [hled]
            exact setT_empty w s.heap
          exact hT0.at fun o e => Heap.get?_push_of_some _ e
        case hR =>
          intro s' hm hS'
          obtain ⟨h', g', d', tk', os'⟩ := s'
          have eg : g' = s.gens := hm.gens
          have ed : d' = s.drawn := hm.drawn
          have eo : os' = s.os := hm.os
          subst eg; subst ed; subst eo
          show wpAny _ _ _ _ _ _
          refine wpAny_pure ?_
          show wpAny _ _ (ret Value.none) _ _ _
          refine wpAny_pure ⟨rfl, h', tk', rfl, hS', fun b o hb e => ?_⟩
          have hb1 : b ≠ s.heap.objs.size := Nat.ne_of_lt hb
          have hb2 : b ≠ (s.heap.push { cls := .type "set", dict := none, data := .set #[] 0 (.fresh 0 0 led) }).objs.size := by
            rw [Heap.size_push]; exact Nat.ne_of_lt (Nat.lt_succ_of_lt hb)
          exact hm.heap b o (by simp only [List.mem_cons, List.mem_singleton, List.not_mem_nil, or_false, not_or]; exact ⟨hb1, hb2⟩) (Heap.get?_push_of_some _ (Heap.get?_push_of_some _ e))
      · cases r₂ with
        | error e => exact hr₂
        | ok fl₂ =>
          cases fl₂ with
          | ret r =>
            obtain ⟨rfl, h', tk, rfl, hS', hk'⟩ := hr₂
            repeat (any_goals (first | assumption | wp_step))
            exact h _ _ hS' hk'
          | _ => exact hr₂.elim
    | _ => exact hr.elim
end
section
variable {X : Cx}
def rSetL (K : PySem.W.Frag) (w : World) : List V → Hp → VK → Prop := fun vs H Q => ∃ (l : Addr) (xs : List Str), vs = [.ref l] ∧ SqL K H l (xs.map V.str) ∧ xs.length < 1000 ∧ ∀ p, H p = none → Q (.ref p) (upd H p (SetX w p (puts xs)))
theorem strs_of_vals' : ∀ {xs : List Str} {vs : List Value}, Vals (xs.map V.str) vs → StrsAre vs xs
  | [], _, .nil => .nil
  | x :: xs, _, .cons r rs => by
    obtain ⟨t, rfl⟩ := r
    exact .cons x t (strs_of_vals' rs)
theorem setL (hc : X.calm = true) : CallR X (.type "set") (rSetL X.K X.w) := by
  intro pins s σ H vs us Q I r h
  obtain ⟨l, xs, rfl, hl, hn, q⟩ := h
  rw [Vals.ref1 r]
  obtain ⟨its, rv, pl, hz⟩ := I.list hl
  refine call_set_txt (I.ok.hd hc) pl.isList (by simpa using strs_of_vals' rv) (Nat.lt_trans (by omega : xs.length + 1 < 1002) (by decide)) fun h' tk R k => ?_
  have hn' : H s.heap.objs.size = none := I.hok.fresh (Nat.le_refl _)
  refine ⟨.ref s.heap.objs.size, _, I.laid (t' := tk) (fun b o e => k b o (Heap.lt_size e) e) (Nat.le_refl _) (setX_ok R), rfl, q _ hn'⟩
end
end Eh
set_option Elab.async false
set_option linter.all false
set_option maxRecDepth 100000
set_option maxHeartbeats 2000000
namespace Eh
open PySem PySem.Spec PyProof.Rows L2
section
variable {X : Cx} {pins : List (Addr × Obj)} {σ : L2.St} {H : Hp} {s : Shared} {n : Nat} {f C : Addr} {fd : FuncData} {ps : List Str} {sp : Sp} {CX : CXT} {E : XK}
def rStrOwn (C : Addr) (sp : Sp) (E : XK) : List V → Hp → VK → Prop := fun xs H Q => ∃ a dx fs, xs = [.ref a] ∧ H a = some (.ins C dx fs) ∧ sp [.ref a] H (fun v H' => ∃ z, v = .str z ∧ Q (.str z) H') E
theorem strOwn (F : FnOk X.prog X.w X.K X.mg X.base CX n f fd ps sp) (hr : Room (n + 2) X.A) (hs : PySem.W.findIn X.K (.ref C) "__str__" = some (some (.ref f))) (hf : PySem.W.isFn X.K (.ref f) = true) (hb : Binds X.K fd ps []) (hx : Passes CX X E) :
    CallR X (.type "str") (rStrOwn C sp E) := by
  intro pins s σ H xs us Q I r h
  obtain ⟨a, dx, fs, rfl, ha, q⟩ := h
  rw [Vals.ref1 r]
  obtain ⟨mA, J, _⟩ := ins_get I.hok ha
  obtain ⟨od, J, _⟩ := J.look
  refine PySem.W.kso_call hr.in1.in1.units0 I.kIn J hs hf (wpAny_mono (run_own (us := [.ref a]) (vs := [.ref a]) F hb hx ⟨hr.in1.in1, rfl⟩ I (.cons rfl .nil) q) (fun u s' z => ?_) fun _ _ e => e)
  obtain ⟨v, H', I', rz, y, rfl, q'⟩ := z
  obtain ⟨t, rfl⟩ := rz
  exact ⟨.str y, H', I', ⟨t, rfl⟩, q'⟩
end
end Eh
set_option Elab.async false
set_option linter.all false
set_option maxRecDepth 100000
set_option maxHeartbeats 2000000
namespace Eh
open PySem PySem.Spec PyProof.Rows L2
/-- promises of defs that are told how many objects there are when they are called -/
structure FnN (P : Program) (w : World) (K : PySem.W.Frag) (mg : Str → Option Value) (base : Heap) (k : Nat) (f : Addr) (fd : FuncData) (ps : List Str) (sp : Nat → Sp) : Prop where
  len : ∀ n vs H Q E, sp n vs H Q E → vs.length = ps.length
  run : ∀ (A : Around) (outer : List Env) (s : Shared) (H : Hp) (args : Args) (us : List Value) (vs : List V) (Q : VK) (E : XK), Room k A → Env0 P w K mg base A outer s H →
    BindsTo s fd args (ps.zip us) → Vals vs us → sp s.heap.objs.size vs H Q E → codeAny (model P w) A (.call (.ref f) args) (CR CX0 outer P w H s Q E) s
/-- the iterator of the tuple at l, at it -/
def ItT (l it : Addr) : HO := .ext fun h => h.IsTupleIter it l 0
theorem itT_ok {P : Program} {w : World} {H : Hp} {h : Heap} {l it : Addr} (e : h.IsTupleIter it l 0) : ObjOk P w H h it (ItT l it) := by
  obtain ⟨o, ho, r⟩ := id e
  exact ⟨e, ⟨_, ho⟩, fun h1 h2 q k => q.at k⟩
section
variable {P : Program} {w : World} {K : PySem.W.Frag} {mg : Str → Option Value} {base : Heap}
theorem funN {x qual : Str} {st : Stmt} {f : Addr} {fd : FuncData} {N ps : List Str} {k : Nat} {sp : Nat → Sp} (F : Fun K x qual st f fd) (S : FnScope N ps (defScope st)) (len : ∀ n vs H Q E, sp n vs H Q E → vs.length = ps.length)
    (body : ∀ (cdv : Value) (A : Around) (outer : List Env) (s : Shared) (H : Hp) (vs : List V) (Q : VK) (E : XK),
      Room k (A.deeper (envOfC qual (defScope st) s.heap.objs.size f cdv)) → sp s.heap.objs.size vs H Q E →
      ∃ t, PSs (cxOf CX0 P w K mg base N qual (defScope st) f cdv A outer s H E).nox (defBody st) t ∧ t { nx := fun _ H' => Q .non H', rt := Q } (start N vs) H) : FnN P w K mg base (k + 1) f fd ps sp where
  len := len
  run A outer s H args us vs Q E hr e0 hb r hsp := by
    obtain ⟨oc, od, kV, doc, pm, an, cdv, ct, osl, rfl, lk, hcd⟩ := F.ex
    have old := fun b o e => (e0.bs b o e).1
    have KX := e0.mod.kin.keeps old
    have ok := fun (y : Str × Value) (hy : y ∈ ps.zip us) => S.par y.1 (List.of_mem_zip (a := y.1) (b := y.2) hy).1
    refine codeAny_call_function hr.depth (KX _ _ lk) rfl S.co S.gen rfl (PySem.W.codeRec_of KX hcd) (hb _ _ _ _ ?_)
    refine wpAny_newFunctionEnv_cells S.kind (fun y hy => (ok y hy).imp id fun q => ⟨q, PySem.W.cellsFrom_some _ _ _ (.inl q)⟩) fun env he s1 x => ?_
    cases he
    obtain ⟨t, ht, hq⟩ := body cdv A outer s H vs Q E (hr.deeper _) hsp
    refine ⟨(e0.mod.nolimit.keeps old).keeps x.toInCall.keep, codeAny_func ?_⟩
    have I := inv_start (CX := CX0) (E := E) S hr.hd e0 (len _ _ _ _ _ hsp) r x
    refine wpAny_mono (ht.nox.run [] s1 (start N vs) H _ I hq) (fun fl s' hs => ?_) fun _ _ h => h
    have fin {σ' : L2.St} {H' : Hp} {v : V} {u : Value} (J : Inv (cxOf CX0 P w K mg base N qual (defScope st) f cdv A outer s H E) [] σ' H' s') (rv : RelV v u) (q : Q v H') : CE outer P w H s Q u s' := ⟨v, H', J.os, J.bare, J.base, J.hok, rv, q⟩
    match fl, hs with
    | .ret u, ⟨v, _, _, J, rv, q⟩ => exact fin J rv q
    | .next, ⟨_, _, J, q⟩ => exact fin (v := V.non) J rfl q
    | .brk, ⟨_, _, _, q⟩ => exact q.elim
    | .cont, ⟨_, _, _, q⟩ => exact q.elim
end
section
variable {prog : Program} {w : World} {A : Around} {E : Value → Shared → Prop} {s : Shared} {l : Addr} {items : Array Value}
theorem call_iterTup {Q : Value → Shared → Prop} (hl : s.heap.IsTuple l items) (h : Q (.ref s.heap.objs.size) { s with heap := s.heap.push { cls := .type "tuple_iterator", data := .fields #[.ref l, .int 0 0] } }) : wpAny (model prog w) A (call (.builtin "iter") [.ref l]) Q E s := by
  refine Calls.call_function_entry (by decide +kernel) (by decide +kernel) PySem.W.kdk_entry_iter (PySem.W.kdk_args_iter _) ?_
  unfold Builtin.«iter»
  refine wpAny_bind (m := someArgs "iter" 1 2 _) (wpAny_of_eq (a := [Value.ref l]) (by first | rfl | kernel_rfl!) ?_)
  show wpAny _ _ (pyIter (.ref l) >>= _) _ _ _
  refine wpAny_bind (wpAny_pyIter_tuple hl ?_)
  exact wpAny_pure ⟨_, rfl, h⟩
end
def rIterT (K : PySem.W.Frag) (n : Nat) : List V → Hp → VK → Prop := fun xs H Q => ∃ (l : Addr) (zs : List V), xs = [.ref l] ∧ SqT K H l zs ∧ ∀ it, H it = Option.none → n ≤ it → Q (.ref it) (upd H it (ItT l it))
section
variable {X : Cx}
theorem call_iterT : CallR X (.builtin "iter") (rIterT X.K X.s_0.heap.objs.size) := by
  intro pins s σ H xs us Q I r h
  obtain ⟨l, zs, rfl, hq, q⟩ := h
  obtain ⟨u, rfl, ru⟩ := vals1 r
  cases ru
  obtain ⟨its, rv, pl, hz⟩ := I.tuple hq
  refine call_iterTup (show s.heap.IsTuple l its.toArray from pl) ?_
  exact ⟨.ref s.heap.objs.size, _, I.laid (t' := s.toks) (fun b u e => Heap.get?_push_of_some _ e) (Nat.le_refl _) (itT_ok ⟨_, Heap.get?_push_size _ rfl, rfl, rfl⟩), rfl, q _ (I.hok.fresh (Nat.le_refl _)) I.sz⟩
variable {n k : Nat} {f C : Addr} {fd : FuncData} {ps : List Str} {sp : Nat → Sp} {tg e : Expr} {te : TE}
/-- what a walk over an own object asks -/
def iOwn (K : PySem.W.Frag) (C : Addr) (sp : Nat → Sp) (te : TE) : TI := fun σ H R => te σ H fun x H1 => ∃ a dx fs, x = .ref a ∧ H1 a = some (.ins C dx fs) ∧ ∀ n, sp n [.ref a] H1 (fun v H2 => ∃ it l, v = .ref it ∧ n ≤ it ∧ H2 it = some (ItT l it) ∧ R (Itt K l) (ItX.dropH H2 it)) E0
theorem run_ownN {pins : List (Addr × Obj)} {σ : L2.St} {H : Hp} {s : Shared} {us : List Value} {vs : List V} {Q : VK} (F : FnN X.prog X.w X.K X.mg X.base k f fd ps sp) (hb : Binds X.K fd ps []) (hr : Room k X.A) (I : Inv X pins σ H s) (r : Vals vs us) (hsp : sp s.heap.objs.size vs H Q E0) :
    wpAny (model X.prog X.w) X.A (call (.ref f) us) (EP X pins σ Q) X.xe s := by
  have hl := F.len _ _ _ _ _ hsp
  have hu : us.length = ps.length := by rw [← r.length]; exact hl
  have b := hb s us I.kIn (by rw [List.append_nil]; exact hu)
  rw [List.append_nil] at b
  refine wpAny_call (codeAny_mono (F.run X.A X.stack s H ⟨us, []⟩ us vs Q E0 hr I.env0 b r hsp) fun r s' hq => ?_)
  cases r with
  | error e => exact False.elim hq
  | ok fl =>
    cases fl with
    | ret u => exact I.after hq
    | next => exact False.elim hq
    | brk => exact False.elim hq
    | cont => exact False.elim hq
theorem itT_get {pins : List (Addr × Obj)} {σ : L2.St} {H : Hp} {s : Shared} {l it : Addr} (I : Inv X pins σ H s) (e : H it = some (ItT l it)) : s.heap.IsTupleIter it l 0 := (I.hok it _ e).1
theorem pi_own (F : FnN X.prog X.w X.K X.mg X.base k f fd ps sp) (hb : Binds X.K fd ps []) (hr : Room k X.A) (hs : PySem.W.findIn X.K (.ref C) "__iter__" = some (some (.ref f))) (hf : PySem.W.isFn X.K (.ref f) = true) (he : PE X e te) : PI X tg e (iOwn X.K C sp te) := by
  refine ⟨fun pins s σ H R I h => ?_⟩
  refine thn (he.run pins s σ H _ I h) fun v s1 ⟨x, H1, I1, r1, a, dx, fs, ex, ha, q⟩ => ?_
  subst ex
  cases r1
  obtain ⟨mA, J, _⟩ := ins_get I1.hok ha
  obtain ⟨od, J, _⟩ := J.look
  obtain ⟨m, hF⟩ := I1.fr
  have hsz : X.s_0.heap.objs.size ≤ s1.heap.objs.size := I1.sz
  refine PySem.W.owit_iter hF I1.ok.mod.kin J hs hf (wpAny_mono (run_ownN (us := [.ref a]) (vs := [.ref a]) F hb hr I1 (.cons rfl .nil) (q _)) (fun u s2 z => ?_) fun _ _ e => e)
  obtain ⟨v, H2, I2, rv, it, l, rfl, hn, hit, hR⟩ := z
  cases rv
  have st := itT_get I2 hit
  unfold PySem.W.OwitIt
  refine wpAny_specialOf (name := Str.ofString "__next__") st.typeIs PySem.F.slot_tuple_iterator_next.lookup ?_
  have hit' := hit
  unfold ItT at hit'
  refine ⟨it, [it], _, _, ItX.dropH H2 it, rfl, ItX.inv_drop I2 hit', turn_tuple l it, st, fun b hb => ?_, hR⟩
  have e : b = it := by simpa using hb
  rw [e]
  exact ItX.inv_fp I2 hit (Nat.le_trans hsz hn)
end
theorem drop_new {H H2 : Hp} {it l : Addr} (n : H it = none) (e : H2 = upd H it (ItT l it)) : ItX.dropH H2 it = H := by
  rw [e]
  unfold ItT
  exact ItX.dropH_upd n
end Eh
set_option Elab.async false
set_option linter.all false
set_option maxRecDepth 100000
set_option maxHeartbeats 2000000
set_option Elab.async false
set_option linter.all false
set_option maxRecDepth 100000
set_option maxHeartbeats 2000000
namespace Eh
open PySem PySem.Spec PyProof.Rows L2
def inR (v : V) (m : Int) : Bool := match v with
  | .int i => decide (0 ≤ i) && decide (i < m)
  | _ => false
def idxV (v : V) (m : Int) : Bool := intV v && inR v m
theorem intV_int {v : V} (h : intV v = true) : ∃ i, v = .int i := by
  cases v with
  | int i => exact ⟨i, rfl⟩
  | _ => cases h
section
variable {P : Program} {w : World} {K : PySem.W.Frag} {mg : Str → Option Value} {base : Heap}
def spIndex (K : PySem.W.Frag) : Sp := fun vs H Q _ => ∃ v m, vs = [v, .int m] ∧ KindI K H v ∧ Q (.bl (idxV v m)) H
theorem ok_is_index {fI f : Addr} {fdI fd : FuncData} (F : Fun K "is_index" "is_index" s_is_index f fd) (T : Txt mg) (C_is_integer : Cal P w K mg base 1 "is_integer" fI fdI ["value"] (spInteger K)) : FnOk P w K mg base CX0 2 f fd ["value", "many"] (spIndex K) := by
  refine F.ok sc_is_index (fun vs H Q E h => ?_) (fun cdv A outer s H vs Q E hr h => ?_)
  · obtain ⟨v, m, rfl, _⟩ := h
    rfl
  · obtain ⟨v, m, rfl, hk, q⟩ := h
    refine ⟨_, (pss_one (ps_ret (pe_and (pe_call C_is_integer.G hr (by rfl) C_is_integer.m C_is_integer.k C_is_integer.b .nil pass0 (pa_cons (pv 0) pa_nil)) (pe_one (pe_chain op_le op_lt pe_int (pv 0) (pv 1)))))), ?_⟩
    refine ⟨_, rfl, v, rfl, hk, intV v, rfl, ?_⟩
    unfold idxV at q
    cases e : intV v with
    | false =>
      rw [e] at q
      exact iteF q
    | true =>
      obtain ⟨i, rfl⟩ := intV_int e
      rw [e] at q
      refine iteT ?_
      refine ⟨_, rfl, 0, i, rfl, rfl, decide (0 ≤ i), rfl, ?_⟩
      have q : Q (.bl (decide (0 ≤ i) && decide (i < m))) H := q
      by_cases h0 : 0 ≤ i
      · rw [decide_eq_true h0] at q ⊢
        refine iteT ⟨_, rfl, i, m, rfl, rfl, ?_⟩
        exact q
      · rw [decide_eq_false h0] at q ⊢
        exact iteF q
theorem hu1e {A : Around} {k : Nat} (hr : Room k A) : A.units + 1 < cLine := by
  have := hr.un
  omega
end
end Eh
set_option Elab.async false
set_option linter.all false
set_option maxRecDepth 100000
set_option maxHeartbeats 2000000
namespace Eh
open PySem PySem.Spec PyProof.Rows L2
inductive OddV (K : PySem.W.Frag) (H : Hp) : V → String → Prop
  | non : OddV K H .non "NoneType"
  | bl (b : Bool) : OddV K H (.bl b) "bool"
  | int (i : Int) : OddV K H (.int i) "int"
  | str (z : Str) : OddV K H (.str z) "str"
  | tup {a : Addr} {xs : List V} (h : SqT K H a xs) : OddV K H (.ref a) "tuple"
  | dK {a : Addr} {kvs : List (Key × V)} (h : H a = some (.dK kvs)) : OddV K H (.ref a) "dict"
structure OffC (K : PySem.W.Frag) (C : Addr) : Prop where
  sN : PySem.W.subIn K (.ref C) (.type "NoneType") = some false
  sB : PySem.W.subIn K (.ref C) (.type "bool") = some false
  sI : PySem.W.subIn K (.ref C) (.type "int") = some false
  sS : PySem.W.subIn K (.ref C) (.type "str") = some false
  sT : PySem.W.subIn K (.ref C) (.type "tuple") = some false
  sD : PySem.W.subIn K (.ref C) (.type "dict") = some false
  kN : PySem.W.kitOne K (.type "NoneType") (.ref C) = some false
  kB : PySem.W.kitOne K (.type "bool") (.ref C) = some false
  kI : PySem.W.kitOne K (.type "int") (.ref C) = some false
  kS : PySem.W.kitOne K (.type "str") (.ref C) = some false
  kT : PySem.W.kitOne K (.type "tuple") (.ref C) = some false
  kD : PySem.W.kitOne K (.type "dict") (.ref C) = some false
theorem OddV.sub {K : PySem.W.Frag} {H : Hp} {C : Addr} {v : V} {T : String} (h : OddV K H v T) (o : OffC K C) : PySem.W.subIn K (.ref C) (.type T) = some false := by
  cases h with
  | non => exact o.sN
  | bl => exact o.sB
  | int => exact o.sI
  | str => exact o.sS
  | tup => exact o.sT
  | dK => exact o.sD
theorem OddV.kit {K : PySem.W.Frag} {H : Hp} {C : Addr} {v : V} {T : String} (h : OddV K H v T) (o : OffC K C) : PySem.W.kitOne K (.type T) (.ref C) = some false := by
  cases h with
  | non => exact o.kN
  | bl => exact o.kB
  | int => exact o.kI
  | str => exact o.kS
  | tup => exact o.kT
  | dK => exact o.kD
theorem tyTup {K : PySem.W.Frag} {H : Hp} {a : Addr} {xs : List V} (h : SqT K H a xs) : TyX K H (.ref a) (.type "tuple") := by
  rcases h with (h | ⟨o, h⟩) | ⟨o, its, n, h1, h2, _⟩
  · exact .base (.tup h)
  · exact .fTuple h
  · exact .kTuple h1 h2
theorem OddV.ty {K : PySem.W.Frag} {H : Hp} {v : V} {T : String} (h : OddV K H v T) : TyX K H v (.type T) := by
  cases h with
  | non => exact .base .non
  | bl b => exact .base (.bl b)
  | int i => exact .base (.int i)
  | str z => exact .base (.str z)
  | tup h => exact tyTup h
  | dK h => exact .base (.dK h)
theorem OddV.same {K : PySem.W.Frag} {H H' : Hp} {v : V} {T : String} (h : OddV K H v T) (s : Same H H') : OddV K H' v T := by
  cases h with
  | non => exact .non
  | bl b => exact .bl b
  | int i => exact .int i
  | str z => exact .str z
  | tup h => exact .tup ((stk s).seq h)
  | dK h => exact .dK (s _ _ h)
section
variable {P : Program} {w : World} {K : PySem.W.Frag} {mg : Str → Option Value} {base : Heap}
def spEqA (K : PySem.W.Frag) (C : Addr) : Sp := fun vs H Q _ => (∃ a b ns ms, vs = [.ref a, .ref b] ∧ PrG K C H a ns ∧ PrG K C H b ms ∧ Q (.bl (decide (ns = ms))) H) ∨ ∃ a v T, vs = [.ref a, v] ∧ OddV K H v T ∧ Q (.bl false) H
theorem ok_eqA {C fI fL f : Addr} {fd : FuncData} (F : Fun K "__eq__" "Promise.__eq__" s_Promise___eq__ f fd) (T : Txt mg) (PC : PromC K mg C fI fL) (IC : IsC K C) (o : OffC K C) : FnOk P w K mg base CX0 1 f fd ["self", "value"] (spEqA K C) := by
  refine F.ok sc_Promise___eq__ (fun vs H Q E h => ?_) (fun cdv A outer s H vs Q E hr h => ?_)
  · rcases h with ⟨a, b, ns, ms, rfl, _⟩ | ⟨a, v, T, rfl, _⟩ <;> rfl
  · refine ⟨_, (pss_one (ps_ret (pe_and (pe_callB (isiQ (K := K) rfl) (by rfl) T.isinstance_ (by decide +kernel) (pa_cons (pv 1) (pa_cons (pe_glob (v := .ref C) rfl PC.g rfl) pa_nil))) (pe_one (pe_cmpR (eqD (K := K) rfl (hu64e hr)) (pe_fld (pv 0) rfl) (pe_fld (pv 1) rfl) (nomark _)))))), ?_⟩
    rcases h with ⟨a, b, ns, ms, rfl, ⟨dx, p, xs, ha, hs, hN, ho⟩, ⟨dy, r, ys, hb, hs2, hN2, ho2⟩, q⟩ | ⟨a, v, T, rfl, od, q⟩
    · refine ⟨_, rfl, .ref b, .ref C, .ref C, .ref C, true, rfl, .own _, .base (.ins hb PC.cl IC.cls IC.sp IC.tk IC.mro), IC.self, _, rfl, iteT ?_⟩
      refine ⟨_, rfl, a, C, dx, _, .ref p, rfl, ha, PC.cl, PC.nn, rfl, _, rfl, b, C, dy, _, .ref r, rfl, hb, PC.cl, PC.nn, rfl, ?_⟩
      refine ⟨nodesD ns, nodesD ms, .tup hs (dp_nodesG hN ho), .tup hs2 (dp_nodesG hN2 ho2), nodes_shapedG ho, nodes_shapedG ho2, ?_⟩
      rw [nodes_eqvG ho ho2]
      exact q
    · exact ⟨_, rfl, v, .ref C, .type T, .ref C, false, rfl, .own _, od.ty, od.kit o, _, rfl, iteF q⟩
end
end Eh
set_option Elab.async false
set_option linter.all false
set_option maxRecDepth 100000
set_option maxHeartbeats 2000000
namespace Eh
open PySem PySem.Spec PyProof.Rows L2
mutual
def innerOf : Pl → List Pl
  | .leaf k t => [.leaf k t]
  | .node k ps => .node k ps :: innerAll ps
def innerAll : List Pl → List Pl
  | [] => []
  | p :: ps => innerOf p ++ innerAll ps
end
theorem innerOf_eq (p : Pl) : innerOf p = p :: innerAll (partsPl p) := by
  cases p with
  | leaf k t => rw [innerOf, partsPl, innerAll]
  | node k ps => rw [innerOf, partsPl]
/-- what stands at each place of the nodes -/
inductive DropI : List (Str × V) → List Pl → Prop
  | nil : DropI [] []
  | cons {p : Pl} {ns : List (Str × V)} {ps : List Pl} {n : Str × V} : (∃ r, n :: ns = nodesOf p ++ r) → DropI ns ps → DropI (n :: ns) (p :: ps)
mutual
theorem dropI_of : ∀ (p : Pl) {ns : List (Str × V)} {ps : List Pl}, DropI ns ps → DropI (nodesOf p ++ ns) (innerOf p ++ ps)
  | .leaf k t, ns, ps, h => by
    rw [nodesOf, innerOf]
    exact .cons ⟨ns, by rw [nodesOf]; rfl⟩ h
  | .node k qs, ns, ps, h => by
    have ih := dropI_all qs h
    rw [nodesOf, innerOf]
    exact .cons ⟨ns, by rw [nodesOf]; rfl⟩ ih
theorem dropI_all : ∀ (qs : List Pl) {ns : List (Str × V)} {ps : List Pl}, DropI ns ps → DropI (nodesAll qs ++ ns) (innerAll qs ++ ps)
  | [], ns, ps, h => by rw [nodesAll, innerAll]; exact h
  | q :: qs, ns, ps, h => by
    rw [nodesAll, innerAll, List.append_assoc, List.append_assoc]
    exact dropI_of q (dropI_all qs h)
end
theorem DropI.get : ∀ {ns : List (Str × V)} {ps : List Pl}, DropI ns ps → ∀ {i : Nat} {p : Pl}, ps[i]? = some p → i < ns.length ∧ ∃ r, ns.drop i = nodesOf p ++ r
  | _, _, .nil, i, p, h => by simp at h
  | _, _, .cons (p := q) (n := n) (ns := ns) hr t, 0, p, h => by
    cases (show some q = some p from h)
    exact ⟨Nat.succ_pos _, hr⟩
  | _, _, .cons hr t, i + 1, p, h => by
    obtain ⟨a, b⟩ := t.get (i := i) h
    exact ⟨Nat.succ_lt_succ a, b⟩
theorem DropI.length : ∀ {ns : List (Str × V)} {ps : List Pl}, DropI ns ps → ps.length = ns.length
  | _, _, .nil => rfl
  | _, _, .cons _ t => by rw [List.length_cons, List.length_cons, t.length]
theorem dropI_self (p : Pl) : DropI (nodesOf p) (innerOf p) := by
  have h := dropI_of p .nil
  rwa [List.append_nil, List.append_nil] at h
theorem inner_sub : ∀ {p q : Pl}, q ∈ innerOf p → (∀ n ∈ nodesOf q, n ∈ nodesOf p) ∧ (nodesOf q).length ≤ (nodesOf p).length := fun {p q} h => by
  obtain ⟨i, hi⟩ := List.mem_iff_getElem?.mp h
  obtain ⟨a, r, hr⟩ := (dropI_self p).get hi
  refine ⟨fun n hn => List.mem_of_mem_drop (i := i) (by rw [hr]; exact List.mem_append_left _ hn), ?_⟩
  have := congrArg List.length hr
  rw [List.length_drop, List.length_append] at this
  omega
theorem AtAll.app {K : PySem.W.Frag} {H : Hp} : ∀ {vs us : List V} {ps qs : List Pl}, AtAll K H vs ps → AtAll K H us qs → AtAll K H (vs ++ us) (ps ++ qs)
  | _, _, _, _, .nil, h => h
  | _, _, _, _, .cons h r, h' => .cons h (r.app h')
end Eh
set_option Elab.async false
set_option linter.all false
set_option maxRecDepth 100000
set_option maxHeartbeats 2000000
namespace Eh
open PySem PySem.Spec PyProof.Rows L2
structure FnT (P : Program) (w : World) (K : PySem.W.Frag) (mg : Str → Option Value) (base : Heap) (k : Nat) (f : Addr) (fd : FuncData) (ps : List Str) (sp : Sp) : Prop where
  len : ∀ vs H Q E, sp vs H Q E → vs.length = ps.length
  run : ∀ (A : Around) (outer : List Env) (s : Shared) (H : Hp) (args : Args) (us : List Value) (vs : List V) (Q : VK) (E : XK), 1 ≤ s.toks → Room k A → Env0 P w K mg base A outer s H →
    BindsTo s fd args (ps.zip us) → Vals vs us → sp vs H Q E → codeAny (model P w) A (.call (.ref f) args) (CR CX0 outer P w H s Q E) s
section
variable {P : Program} {w : World} {K : PySem.W.Frag} {mg : Str → Option Value} {base : Heap}
theorem funT {x qual : Str} {st : Stmt} {f : Addr} {fd : FuncData} {N ps : List Str} {k : Nat} {sp : Sp} (F : Fun K x qual st f fd) (S : FnScope N ps (defScope st)) (len : ∀ vs H Q E, sp vs H Q E → vs.length = ps.length)
    (body : ∀ (cdv : Value) (A : Around) (outer : List Env) (s : Shared) (H : Hp) (vs : List V) (Q : VK) (E : XK),
      Room k (A.deeper (envOfC qual (defScope st) s.heap.objs.size f cdv)) → sp vs H Q E →
      ∃ t, PSsT (cxOf CX0 P w K mg base N qual (defScope st) f cdv A outer s H E).nox (defBody st) t ∧ t { nx := fun _ H' => Q .non H', rt := Q } (start N vs) H) : FnT P w K mg base (k + 1) f fd ps sp where
  len := len
  run A outer s H args us vs Q E ht0 hr e0 hb r hsp := by
    obtain ⟨oc, od, kV, doc, pm, an, cdv, ct, osl, rfl, lk, hcd⟩ := F.ex
    have old := fun b o e => (e0.bs b o e).1
    have KX := e0.mod.kin.keeps old
    have ok := fun (y : Str × Value) (hy : y ∈ ps.zip us) => S.par y.1 (List.of_mem_zip (a := y.1) (b := y.2) hy).1
    refine codeAny_call_function hr.depth (KX _ _ lk) rfl S.co S.gen rfl (PySem.W.codeRec_of KX hcd) (hb _ _ _ _ ?_)
    refine wpAny_mono (PySem.wpAny_toks (wpAny_newFunctionEnv_cells (Q := fun env s1 => env = envOfC qual (defScope st) s.heap.objs.size f cdv ∧
      InCallC s env.locals (bindL env.kindOf (ps.zip us) fun _ => none) env.cells (bindC env.kindOf (ps.zip us) fun _ => none) s1) S.kind (fun y hy => (ok y hy).imp id fun q => ⟨q, PySem.W.cellsFrom_some _ _ _ (.inl q)⟩) fun env he s1 x => ⟨he, x⟩)) (fun env s1 z => ?_) fun _ _ z => z.2
    obtain ⟨hk, he, x⟩ := z
    cases he
    obtain ⟨t, ht, hq⟩ := body cdv A outer s H vs Q E (hr.deeper _) hsp
    refine ⟨(e0.mod.nolimit.keeps old).keeps x.toInCall.keep, codeAny_func ?_⟩
    have I := inv_start (CX := CX0) (E := E) S hr.hd e0 (len _ _ _ _ hsp) r x
    refine wpAny_mono (ht [] s1 (start N vs) H _ (Nat.le_trans ht0 hk) (I.wish _) hq) (fun fl s' hs => ?_) fun _ _ h => False.elim h
    have fin {σ' : L2.St} {H' : Hp} {v : V} {u : Value} (J : Inv (cxOf CX0 P w K mg base N qual (defScope st) f cdv A outer s H E) [] σ' H' s') (rv : RelV v u) (q : Q v H') : CE outer P w H s Q u s' := ⟨v, H', J.os, J.bare, J.base, J.hok, rv, q⟩
    match fl, hs with
    | .ret u, ⟨v, _, _, J, rv, q⟩ => exact fin J.unwish rv q
    | .next, ⟨_, _, J, q⟩ => exact fin (v := V.non) J.unwish rfl q
    | .brk, ⟨_, _, _, q⟩ => exact q.elim
    | .cont, ⟨_, _, _, q⟩ => exact q.elim
end
section
variable {X : Cx} {pins : List (Addr × Obj)} {σ : L2.St} {H : Hp} {s : Shared} {k : Nat} {f : Addr} {fd : FuncData} {ps : List Str} {sp : Sp}
theorem run_fnT {us : List Value} {vs : List V} {Q : VK} (F : FnT X.prog X.w X.K X.mg X.base k f fd ps sp) (hr : Room k X.A) (hb : Binds X.K fd ps []) (ht : 1 ≤ s.toks) (I : Inv X pins σ H s) (r : Vals vs us) (hsp : sp vs H Q E0) :
    wpAny (model X.prog X.w) X.A (call (.ref f) us) (EP X pins σ Q) X.xe s := by
  have hl := F.len _ _ _ _ hsp
  have hu : us.length = ps.length := by rw [← r.length]; exact hl
  have b := hb s us I.kIn (by rw [List.append_nil]; exact hu)
  rw [List.append_nil] at b
  refine wpAny_call (codeAny_mono (F.run X.A X.stack s H ⟨us, []⟩ us vs Q E0 ht hr I.env0 b r hsp) fun r s' hq => ?_)
  cases r with
  | error e => exact False.elim hq
  | ok fl =>
    cases fl with
    | ret u => exact I.after hq
    | next => exact False.elim hq
    | brk => exact False.elim hq
    | cont => exact False.elim hq
/-- f(e, ..), f wants a token out -/
theorem pet_callT {x : Str} {p pos : Pos} {e : Expr} {es : List Expr} {t : TA} (F : FnT X.prog X.w X.K X.mg X.base k f fd ps sp) (hr : Room k X.A) (hg : Gl X x) (hm : X.mg x = some (.ref f)) (hk : PySem.W.keepIn X.K (.ref f) = true) (hb : Binds X.K fd ps []) (ha : PA X (e :: es) t)
    (hdb : (x == ("__debug__" : Str)) = false := by decide) (he : starEach (e :: es) X.env = (false, eval e X.env) :: starEach es X.env := by rfl)
    (hpl : (backTo pos (starEach es X.env)).any (·.1) = false := by rfl) : PET X (.Call (.Name x p) (e :: es) [] pos) (fun σ H Q => t σ H fun vs H1 => sp vs H1 Q E0) := by
  intro pins s σ H Q ht I h
  refine wpAny_Call_Name_kw (ld_glob I hg hm (PySem.W.callWith_K (h₀ := X.base) I.ok.mod.kin hk (wpAny_mono (PySem.wpAny_toks (ha.run pos pins s σ H _ I h)) (fun us s1 hh => ?_) fun _ _ z => z.2) he hpl) hdb)
  obtain ⟨hk2, vs, H1, I1, r, q⟩ := hh
  exact ⟨I1.kIn, run_fnT F hr hb (Nat.le_trans ht hk2) I1 r q⟩
theorem pst_set {i : Nat} {x : Str} {e : Expr} {te : TE} {pos' pos : Pos} (hN : X.N.Nodup) (hi : X.N[i]? = some x) (hx : Loc X.env.scope x) (he : PET X e te) (hs : swapsWith e (some (.Name x pos')) pos.line X.env = pure false := by rfl) (hf : X.fn x = true ∨ X.env.scope.names.lookup x = some .local := by first | exact .inl rfl | exact .inr rfl | assumption) :
    PST X (.Assign [.Name x pos'] e pos) (tAsg te (gName i)) := by
  intro pins s σ H D h0 I h
  refine wpAny_Assign_Name (thn (he pins s σ H _ h0 I h) fun v s1 ⟨y, H1, I1, r1, q1⟩ => ?_) hs
  exact store_ok I1 hN hi hx r1 (fun s2 I2 => ⟨_, H1, I2, q1⟩) hf
def rGetL (K : PySem.W.Frag) : V → V → Hp → VK → Prop := fun o i H Q => ∃ p xs k v, o = .ref p ∧ i = .int k ∧ SqL K H p xs ∧ 0 ≤ k ∧ k < 2 ^ 63 ∧ xs[k.toNat]? = some v ∧ Q v H
theorem get_list : PGet X (rGetL X.K) := by
  intro pins s σ H o i ov iv Q I ro ri h
  obtain ⟨p, xs, k, v, rfl, rfl, hq, h0, hf, hv, q⟩ := h
  cases ro
  obtain ⟨t, rfl⟩ := ri
  obtain ⟨its, r, pl, hz⟩ := I.list hq
  obtain ⟨w, ew, rw'⟩ := r.get hv
  exact wpAny_getItem_list pl.isList h0 hf (by simpa using ew) ⟨v, H, I, rw', q⟩
def tMakeL (i : Nat) (C : Addr) (sp : Sp) (E : L2.St → XK) (t : TA) : TE := fun σ H Q => σ[i]? = some (some (.ref C)) ∧ tMakeS C sp E t σ H Q
theorem pe_makeL {CX : CXT} {C : Addr} {E : L2.St → XK} {i : Nat} {x : Str} {p pos : Pos} {e : Expr} {es : List Expr} {t : TA} (M : Mk X.K C f) (F : FnOk X.prog X.w X.K X.mg X.base CX k f fd ps sp) (hr : Room (k + 1) X.A) (hN : X.N[i]? = some x) (hv : Vis X.env.scope x) (hb : Binds X.K fd ps []) (hx : ∀ σ, PassesAt CX X σ (E σ))
    (ha : PA X (e :: es) t) (hdb : (x == ("__debug__" : Str)) = false := by decide) (hcd : (x == ("__classdict__" : Str)) = false := by decide) (he : starEach (e :: es) X.env = (false, eval e X.env) :: starEach es X.env := by rfl) (hpl : (backTo pos (starEach es X.env)).any (·.1) = false := by rfl) :
    PE X (.Call (.Name x p) (e :: es) [] pos) (tMakeL i C sp E t) := by
  refine ⟨fun pins s σ H Q I h => ?_⟩
  obtain ⟨hs, h⟩ := h
  refine wpAny_Call_Name_kw (thn ((pe_var (pos := p) hN hv hdb hcd).run pins s σ H (fun v H1 => v = .ref C ∧ H1 = H) I ⟨.ref C, hs, rfl, rfl⟩) fun u s1 ⟨v, H1, I1, r1, q1⟩ => ?_)
  obtain ⟨rfl, rfl⟩ := q1
  cases r1
  refine PySem.W.callWith_K (h₀ := X.base) I.ok.mod.kin M.kp (thn (ha.run pos pins s1 σ _ _ I1 h) fun us s2 ⟨vs, H2, I2, r, q⟩ => ⟨I2.kIn, ?_⟩) he hpl
  exact run_makeS M F hr hb (hx σ) I2 r q
end
end Eh
set_option Elab.async false
set_option linter.all false
set_option maxRecDepth 100000
set_option maxHeartbeats 2000000
namespace Eh
open PySem PySem.Spec PyProof.Rows L2
open ClX
section
variable {X : Cx} {pins : List (Addr × Obj)} {σ : L2.St} {H : Hp} {s : Shared} {k : Nat} {g C p : Addr} {fd : FuncData} {ps : List Str} {sp : Sp} {mc : Value} {m : Str} {o : Expr} {ta : TE} {apos pos : Pos} {pl : Sem Bool}
theorem run_cmT {q : Addr} {Q : VK} {us : List Value} {vs : List V} (F : FnT X.prog X.w X.K X.mg X.base k g fd ps sp) (hb : Binds X.K fd ps []) (hr : Room k X.A) (ht : 1 ≤ s.toks) (I : Inv X ((q, PySem.W.methodObj (.ref g) (.ref C)) :: pins) σ H s)
    (r : Vals vs us) (h : sp (.ref C :: vs) H Q E0) : wpAny (model X.prog X.w) X.A (call (.ref q) us) (EP X pins σ Q) X.xe s := by
  have hl := F.len _ _ _ _ h
  have r2 : Vals (V.ref C :: vs) (Value.ref C :: us) := .cons rfl r
  have hu : (Value.ref C :: us).length = ps.length := by rw [← r2.length]; exact hl
  have b := hb s (Value.ref C :: us) I.kIn (by rw [List.append_nil]; exact hu)
  rw [List.append_nil] at b
  have z : wpAny (model X.prog X.w) X.A (call (.ref q) us) (EP X ((q, PySem.W.methodObj (.ref g) (.ref C)) :: pins) σ Q) X.xe s := by
    refine wpAny_call (PySem.W.method_call (pin_at I) (codeAny_mono (F.run X.A X.stack s H ⟨.ref C :: us, []⟩ (.ref C :: us) (.ref C :: vs) Q E0 ht hr I.env0 b r2 h) fun r s' hq => ?_))
    cases r with
    | error e => exact False.elim hq
    | ok fl =>
      cases fl with
      | ret u => exact I.after hq
      | next => exact False.elim hq
      | brk => exact False.elim hq
      | cont => exact False.elim hq
  exact thn z fun _ _ y => unpinE y
/-- C.m('..') of a def that wants a token out -/
theorem pe_cmethS {z : Str} {j : Nat} {cp : Pos} (he : PE X o ta) (r : CRead X.K C mc) (c : CMet X.K C mc m p g) (F : FnT X.prog X.w X.K X.mg X.base k g fd ps sp) (hb : Binds X.K fd ps []) (hr : Room k X.A)
    (hst : starEach [.Constant (.str z) j cp] X.env = (false, eval (.Constant (.str z) j cp) X.env) :: starEach [] X.env := by rfl) (hpl : (backTo pos (starEach [] X.env)).any (·.1) = false := by rfl)
    (ht : eval (.Call (.Attribute o m apos) [.Constant (.str z) j cp] [] pos) X.env = (do
      let ov ← eval o X.env
      standAt apos.atName
      let (f, first) ← holding [ov] (getMethod ov m pl)
      callWith pos f first (backTo pos (starEach [.Constant (.str z) j cp] X.env)) (backToKw pos (keywordEach [] X.env))) := by rfl) :
    PE X (.Call (.Attribute o m apos) [.Constant (.str z) j cp] [] pos) (fun σ H Q => ta σ H fun x H1 => x = .ref C ∧ sp [.ref C, .str z] H1 Q E0) := by
  refine ⟨fun pins s σ H Q I h => ?_⟩
  refine PySem.W.methodCall_KW (pl := pl) (thn (he.run pins s σ H _ I h) fun u s1 ⟨x, H1, I1, rx, ex, q⟩ => ?_) ht
  subst ex
  obtain rfl : u = Value.ref C := rx
  refine getmethcm_ok I1 r c fun s2 I2 => ?_
  refine callwith_cm I2 (base_none I1 (Nat.le_refl _)) c.fi ?_ hst hpl
  show wpAny _ _ (spliced (backTo pos (starEach [.Constant (.str z) j cp] X.env))) _ _ s2
  rw [hst]
  show wpAny _ _ (spliced ((false, eval (.Constant (.str z) j cp) X.env) :: backTo pos (starEach [] X.env))) _ _ s2
  refine Calls.spliced_cons (Calls.Constant_str (Calls.spliced_nil ?_))
  have I3 := I2.tok (s2.toks + 1)
  exact ⟨⟨pin_at I3, I3.kIn⟩, run_cmT (vs := [.str z]) F hb hr (by show 1 ≤ s2.toks + 1; omega) I3 (.cons ⟨s2.toks, rfl⟩ .nil) q⟩
end
end Eh
set_option Elab.async false
set_option linter.all false
set_option maxRecDepth 100000
set_option maxHeartbeats 4000000
namespace Eh
open PySem PySem.Spec PyProof.Rows L2
open CwR
def parens : List Str := ["(", "["]
def closes : List Str := [")", "]"]
def signs4 : List Str := ["&", "+", "|", "*"]
def kindOfSign (z : Str) : Str := if z = "&" then "all" else if z = "+" then "mine" else if z = "|" then "some" else "yours"
def repl4 (z : Str) : Str := Txt.replace (Txt.replace (Txt.replace (Txt.replace z "(" "( ") "[" "[ ") ")" " )") "]" " ]"
def split4 (z : Str) : List Str := Txt.split (repl4 z) " "
def plainN (z : Str) : Str × V := if sureKinds.contains z = true then (z, .int 0) else if Txt.startswith z "!" = true then ("not", .str (cutS z (some 1) none)) else ("fact", .str z)
structure SignedAt (K : PySem.W.Frag) (w : World) (mg : Str → Option Value) (p : Addr) : Prop where
  g : mg "SIGNED" = some (.ref p)
  d : ∃ es n, KDict K w p es n ∧ ∀ z, ∃ r, PySem.W.nsIn K p z = some r ∧ r.isSome = signs4.contains z
  v : ∀ z, signs4.contains z = true → KDct K w p z (.str (kindOfSign z))
theorem sign_cases {k : Str} (h : signs4.contains k = true) : k = "&" ∨ k = "+" ∨ k = "|" ∨ k = "*" := by
  unfold signs4 at h
  rw [List.contains_iff_mem] at h
  simpa only [List.mem_cons, List.not_mem_nil, or_false] using h
theorem signed_mk {K : PySem.W.Frag} {w : World} {mg : Str → Option Value} {p : Addr} {n : Nat} {h1 h2 h3 h4 : Int} {t1 t2 t3 t4 u1 u2 u3 u4 : Tok} (g : mg "SIGNED" = some (.ref p))
    (l : K.lookup p = some ⟨.type "dict", none, .dict #[⟨h1, .str "&" t1, .str "all" u1⟩, ⟨h2, .str "+" t2, .str "mine" u2⟩, ⟨h3, .str "|" t3, .str "some" u3⟩, ⟨h4, .str "*" t4, .str "yours" u4⟩] n, #[]⟩)
    (hh : PySem.W.KeysLit w.params [⟨h1, .str "&" t1, .str "all" u1⟩, ⟨h2, .str "+" t2, .str "mine" u2⟩, ⟨h3, .str "|" t3, .str "some" u3⟩, ⟨h4, .str "*" t4, .str "yours" u4⟩]) (low : (p == sysModules) = false) : SignedAt K w mg p := by
  have i (x z : Str) (t : Tok) : (Value.str x t).isStr z = (x == z) := rfl
  have e (z : Str) : PySem.W.nsIn K p z = (match List.find? (fun x => x.key.isStr z) [(⟨h1, .str "&" t1, .str "all" u1⟩ : DictEntry), ⟨h2, .str "+" t2, .str "mine" u2⟩, ⟨h3, .str "|" t3, .str "some" u3⟩, ⟨h4, .str "*" t4, .str "yours" u4⟩] with
          | some e => some (some e.val)
          | none => if (List.any [(⟨h1, .str "&" t1, .str "all" u1⟩ : DictEntry), ⟨h2, .str "+" t2, .str "mine" u2⟩, ⟨h3, .str "|" t3, .str "some" u3⟩, ⟨h4, .str "*" t4, .str "yours" u4⟩] fun x => x.refKey) = true then none else some none) := by
    unfold PySem.W.nsIn
    rw [l]
    rfl
  refine ⟨g, ⟨_, n, ⟨l, hh, low⟩, fun z => ?_⟩, fun k hk => ?_⟩
  · have c : signs4.contains z = (("&" : Str) == z || (("+" : Str) == z || (("|" : Str) == z || (("*" : Str) == z || false)))) := (inV_strs z signs4).symm
    rw [c, e]
    cases e1 : (("&" : Str) == z) with
    | true => exact ⟨some (.str "all" u1), by simp only [List.find?_cons, i, e1], rfl⟩
    | false =>
      cases e2 : (("+" : Str) == z) with
      | true => exact ⟨some (.str "mine" u2), by simp only [List.find?_cons, i, e1, e2], by simp⟩
      | false =>
        cases e3 : (("|" : Str) == z) with
        | true => exact ⟨some (.str "some" u3), by simp only [List.find?_cons, i, e1, e2, e3], by simp⟩
        | false =>
          cases e4 : (("*" : Str) == z) with
          | true => exact ⟨some (.str "yours" u4), by simp only [List.find?_cons, i, e1, e2, e3, e4], by simp⟩
          | false => exact ⟨none, by simp only [List.find?_cons, i, e1, e2, e3, e4, List.find?_nil]; rfl, by simp⟩
  · rcases sign_cases hk with rfl | rfl | rfl | rfl
    · exact ⟨_, n, .str "all" u1, l, hh, by rw [e]; simp only [List.find?_cons, i, show (("&" : Str) == "&") = true from by decide +kernel], ⟨u1, rfl⟩⟩
    · exact ⟨_, n, .str "mine" u2, l, hh, by rw [e]; simp only [List.find?_cons, i, show (("&" : Str) == "+") = false from by decide +kernel, show (("+" : Str) == "+") = true from by decide +kernel], ⟨u2, by rw [show kindOfSign "+" = "mine" from by decide +kernel]⟩⟩
    · exact ⟨_, n, .str "some" u3, l, hh, by rw [e]; simp only [List.find?_cons, i, show (("&" : Str) == "|") = false from by decide +kernel, show (("+" : Str) == "|") = false from by decide +kernel, show (("|" : Str) == "|") = true from by decide +kernel], ⟨u3, by rw [show kindOfSign "|" = "some" from by decide +kernel]⟩⟩
    · exact ⟨_, n, .str "yours" u4, l, hh, by rw [e]; simp only [List.find?_cons, i, show (("&" : Str) == "*") = false from by decide +kernel, show (("+" : Str) == "*") = false from by decide +kernel, show (("|" : Str) == "*") = false from by decide +kernel, show (("*" : Str) == "*") = true from by decide +kernel], ⟨u4, by rw [show kindOfSign "*" = "yours" from by decide +kernel]⟩⟩
def rInSg (p : Addr) : R2 := fun x y H Q => ∃ z : Str, x = .str z ∧ y = .ref p ∧ Q (.bl (signs4.contains z)) H
theorem rep_len (z y n : Str) (h : n.length = 2) : (Txt.replace z y n).length ≤ 3 * z.length + 2 := by
  have := TK.replace_len z y n
  rw [h] at this
  omega
section
variable {P : Program} {w : World} {K : PySem.W.Frag} {mg : Str → Option Value} {base : Heap}
theorem inSg {X : Cx} {p : Addr} (S : SignedAt K w mg p) (h : X.K = K) (hw : X.w = w) : OpR X (compareOp .In) (rInSg p) := by
  subst h hw
  obtain ⟨es, n, D, hz⟩ := S.d
  intro pins s σ H x y v u Q I rx ry ⟨z, e1, e2, q⟩
  obtain ⟨r, hr, hs⟩ := hz z
  exact op_in_kd D pins s σ H x y v u Q I rx ry ⟨z, r, e1, e2, hr, by rw [hs]; exact q⟩
def spSplit : Sp := fun vs H Q _ => ∃ z, vs = [.str z] ∧ z.length ≤ 9000 ∧ ∀ p, H p = none → Q (.ref p) (upd H p (.lst ((split4 z).map V.str)))
theorem ok_split {f : Addr} {fd : FuncData} (F : Fun K "_split" "_split" s__split f fd) : FnT P w K mg base 1 f fd ["text"] spSplit := by
  refine funT F sc__split (fun vs H Q E h => ?_) (fun cdv A outer s H vs Q E hr h => ?_)
  · obtain ⟨z, rfl, _⟩ := h
    rfl
  · obtain ⟨z, rfl, hz, q⟩ := h
    refine ⟨_, psst_cons (pst_set (i := 1) sc__split.nd rfl (.inl rfl) (pet_replT (pet_replT (pet_replT (pet_replT (PET.of (pv 0)))))))
      (PSsT.of (pss_one (ps_ret (pe_split (pv 1) pe_str)))), ?_⟩
    have h1 := rep_len z "(" "( " (by decide +kernel)
    have h2 := rep_len (Txt.replace z "(" "( ") "[" "[ " (by decide +kernel)
    have h3 := rep_len (Txt.replace (Txt.replace z "(" "( ") "[" "[ ") ")" " )" (by decide +kernel)
    have h4 := rep_len (Txt.replace (Txt.replace (Txt.replace z "(" "( ") "[" "[ ") ")" " )") "]" " ]" (by decide +kernel)
    have l1 : ("( " : Str).length = 2 := by decide +kernel
    have l2 : ("[ " : Str).length = 2 := by decide +kernel
    have l3 : (" )" : Str).length = 2 := by decide +kernel
    have l4 : (" ]" : Str).length = 2 := by decide +kernel
    refine ⟨_, rfl, z, rfl, by rw [l1]; omega, _, rfl, by rw [l2]; omega, _, rfl, by rw [l3]; omega, _, rfl, by rw [l4]; omega, ?_⟩
    refine ⟨_, rfl, ⟨_, rfl⟩, _, _, rfl, rfl, by decide +kernel, Nat.le_of_lt (small (by omega)), fun p np => ?_⟩
    exact q p np
def spPlainN : Sp := fun vs H Q _ => ∃ z, vs = [.str z] ∧ z.length ≤ 900000 ∧ ∀ p H', Same H H' → H p = none → H' p = some (.tup [.str (plainN z).1, (plainN z).2]) → Q (.ref p) H'
theorem ok_plain_node {f : Addr} {fd : FuncData} (F : Fun K "_plain_node" "_plain_node" s__plain_node f fd) : FnOk P w K mg base CX0 1 f fd ["word"] spPlainN := by
  refine F.ok sc__plain_node (fun vs H Q E h => ?_) (fun cdv A outer s H vs Q E hr h => ?_)
  · obtain ⟨z, rfl, _⟩ := h
    rfl
  · obtain ⟨z, rfl, hz, q⟩ := h
    refine ⟨_, (pss_cons (ps_if (pt_cmpR (inQ (K := K) rfl) (pv 0) (pe_tup (pa_cons pe_str (pa_cons pe_str pa_nil))) (by rfl))
  (pss_one (ps_ret (pe_tup (pa_cons (pv 0) (pa_cons pe_int pa_nil)))))
  pss_nil)
  (pss_one (ps_ret (pe_ifExp (pt_val (pe_m1 PySem.F.slot_str_startswith PySem.F.type_str_startswith mt_startswith (pv 0) pe_str)) (pe_tup (pa_cons pe_str (pa_cons (pe_slice sl_str (pv 0) (po_some pe_int) po_none) pa_nil))) (pe_tup (pa_cons pe_str (pa_cons (pv 0) pa_nil))))))), ?_⟩
    refine ⟨_, rfl, lenOk 2, fun t nt => ?_⟩
    have s1 : Same H (upd H t (.tup (sureKinds.map V.str))) := same_new nt
    refine ⟨t, sureKinds.map V.str, rfl, .inr (SqT.of upd_same), rfl, flat_strs _, _, rfl, ?_⟩
    cases e1 : sureKinds.contains z with
    | true =>
      have e : plainN z = (z, .int 0) := by unfold plainN; rw [if_pos e1]
      rw [e] at q
      refine iteT' ((inV_strs z sureKinds).trans e1) ⟨_, rfl, lenOk 2, fun p np => ?_⟩
      exact q p _ (s1.trans (same_new np)) (s1.free np) upd_same
    | false =>
      refine iteF' ((inV_strs z sureKinds).trans e1) ⟨_, rfl, ⟨_, rfl⟩, z, "!", rfl, rfl, _, rfl, ?_⟩
      cases e2 : Txt.startswith z "!" with
      | true =>
        have e : plainN z = (("not" : Str), V.str (cutS z (some 1) none)) := by unfold plainN; rw [if_neg (by rw [e1]; exact Bool.false_ne_true), if_pos e2]
        rw [e] at q
        refine iteT ⟨_, rfl, _, rfl, z, rfl, Nat.le_of_lt (small (by omega)), lenOk 2, fun p np => ?_⟩
        exact q p _ (s1.trans (same_new np)) (s1.free np) upd_same
      | false =>
        have e : plainN z = (("fact" : Str), V.str z) := by unfold plainN; rw [if_neg (by rw [e1]; exact Bool.false_ne_true), if_neg (by rw [e2]; exact Bool.false_ne_true)]
        rw [e] at q
        refine iteF ⟨_, rfl, lenOk 2, fun p np => ?_⟩
        exact q p _ (s1.trans (same_new np)) (s1.free np) upd_same
end
end Eh
set_option Elab.async false
set_option linter.all false
set_option maxRecDepth 100000
set_option maxHeartbeats 4000000
namespace Eh
open PySem PySem.Spec PyProof.Rows L2
open CwR
structure St3 where
  ks : List Str
  cs : List V
  ar : List Nat
def incV (v : V) : V := match v with
  | .int i => .int (i + 1)
  | v => v
def bump (cs : List V) (i : Nat) : List V := match cs[i]? with
  | some v => cs.set i (incV v)
  | none => cs
def step3 (s : St3) (w : Str) : St3 :=
  if parens.contains w = true then ⟨s.ks ++ [("" : Str)], s.cs ++ [.int 1], s.ar ++ [s.ks.length]⟩
  else if signs4.contains w = true ∧ s.ar ≠ [] then ⟨s.ks.set (s.ar.getLast?.getD 0) (kindOfSign w), bump s.cs (s.ar.getLast?.getD 0), s.ar⟩
  else if closes.contains w = true ∧ s.ar ≠ [] then ⟨s.ks, s.cs, s.ar.dropLast⟩
  else ⟨s.ks ++ [(plainN w).1], s.cs ++ [(plainN w).2], s.ar⟩
def run3 (ws : List Str) : St3 := ws.foldl step3 ⟨[], [], []⟩
def nodesIn (z : Str) : List (Str × V) := (run3 (split4 z)).ks.zip (run3 (split4 z)).cs
/-- what the lists keep -/
structure Ok3 (s : St3) : Prop where
  len : s.cs.length = s.ks.length
  at_ : ∀ i ∈ s.ar, ∃ n : Int, s.cs[i]? = some (.int n)
theorem ok3_start : Ok3 ⟨[], [], []⟩ := ⟨rfl, fun i h => by cases h⟩
theorem last_mem {l : List Nat} (h : l ≠ []) : l.getLast?.getD 0 ∈ l := by
  rw [List.getLast?_eq_some_getLast h]
  exact List.getLast_mem h
theorem ok3_step {s : St3} (o : Ok3 s) (w : Str) : Ok3 (step3 s w) := by
  have app : ∀ (k : Str) (v : V) (i : Nat), (∃ n : Int, s.cs[i]? = some (.int n)) → ∃ n : Int, (s.cs ++ [v])[i]? = some (.int n) := fun k v i ⟨n, e⟩ => ⟨n, by
    have := (List.getElem?_eq_some_iff.mp e).1
    rw [List.getElem?_append_left this]
    exact e⟩
  unfold step3
  split
  · refine ⟨by simp [o.len], fun i h => ?_⟩
    rcases List.mem_append.mp h with h | h
    · exact app "" (.int 1) i (o.at_ i h)
    · rw [List.mem_singleton.mp h]
      exact ⟨1, by rw [← o.len]; simp⟩
  · split
    · rename_i h1 h2
      have hm := last_mem h2.2
      obtain ⟨n, e⟩ := o.at_ _ hm
      have eb : bump s.cs (s.ar.getLast?.getD 0) = s.cs.set (s.ar.getLast?.getD 0) (.int (n + 1)) := by
        unfold bump
        rw [e]
        rfl
      refine ⟨by rw [eb]; simp [o.len], fun i h => ?_⟩
      rw [eb]
      by_cases ei : s.ar.getLast?.getD 0 = i
      · rw [ei] at e
        have := (List.getElem?_eq_some_iff.mp e).1
        exact ⟨n + 1, by rw [ei, List.getElem?_set_self this]⟩
      · rw [List.getElem?_set_ne ei]
        exact o.at_ i h
    · split
      · exact ⟨o.len, fun i h => o.at_ i ((List.dropLast_sublist _).subset h)⟩
      · exact ⟨by simp [o.len], fun i h => app "" _ i (o.at_ i h)⟩
theorem step3_len (s : St3) (w : Str) : (step3 s w).ks.length ≤ s.ks.length + 1 ∧ (step3 s w).ar.length ≤ s.ar.length + 1 := by
  unfold step3
  split
  · simp
  · split
    · simp
    · split
      · simp; omega
      · simp
theorem run3_take {ws : List Str} {i : Nat} {w : Str} (h : ws[i]? = some w) : run3 (ws.take (i + 1)) = step3 (run3 (ws.take i)) w := by
  unfold run3
  rw [take_succ' h, List.foldl_append]
  rfl
theorem run3_ok : ∀ (ws : List Str) (s : St3), Ok3 s → Ok3 (ws.foldl step3 s)
  | [], s, o => o
  | w :: ws, s, o => run3_ok ws _ (ok3_step o w)
theorem run3_len : ∀ (ws : List Str) (s : St3), (ws.foldl step3 s).ks.length ≤ s.ks.length + ws.length ∧ (ws.foldl step3 s).ar.length ≤ s.ar.length + ws.length
  | [], s => ⟨Nat.le_refl _, Nat.le_refl _⟩
  | w :: ws, s => by
    have h := run3_len ws (step3 s w)
    have k := step3_len s w
    rw [List.foldl_cons, List.length_cons]
    omega
end Eh
set_option Elab.async false
set_option linter.all false
set_option maxRecDepth 100000
set_option maxHeartbeats 4000000
namespace Eh
open PySem PySem.Spec PyProof.Rows L2
open CwR
theorem same_put {H H2 : Hp} {l : Addr} {o : HO} (s : Same H H2) (n : H l = none) : Same H (upd H2 l o) := fun b u e => by
  rw [upd_ne (ne_of_none e n)]
  exact s b u e
def natV (i : Nat) : V := .int (i : Int)
/-- the three lists -/
structure L3 (H : Hp) (lk lc la : Addr) (s : St3) : Prop where
  k : H lk = some (.lst (s.ks.map V.str))
  c : H lc = some (.lst s.cs)
  a : H la = some (.lst (s.ar.map natV))
theorem L3.same {H H' : Hp} {lk lc la : Addr} {s : St3} (l : L3 H lk lc la s) (m : Same H H') : L3 H' lk lc la s := ⟨m _ _ l.k, m _ _ l.c, m _ _ l.a⟩
theorem last_nat {l : List Nat} (h : l ≠ []) : ∃ pre i, l = pre ++ [i] ∧ l.getLast?.getD 0 = i :=
  ⟨l.dropLast, l.getLast h, (List.dropLast_concat_getLast h).symm, by rw [List.getLast?_eq_some_getLast h]; rfl⟩
theorem zip_take_succ {ks : List Str} {cs : List V} {j : Nat} {k : Str} {v : V} (h : ks[j]? = some k) (h' : cs[j]? = some v) : (ks.zip cs).take (j + 1) = (ks.zip cs).take j ++ [(k, v)] :=
  take_succ' (by rw [List.getElem?_zip_eq_some]; exact ⟨h, h'⟩)
section
variable {P : Program} {w : World} {K : PySem.W.Frag} {mg : Str → Option Value} {base : Heap}
def spNodesIn (K : PySem.W.Frag) : Sp := fun vs H Q _ => ∃ z, vs = [.str z] ∧ z.length ≤ 9000 ∧ (split4 z).length < 100000 ∧ (∀ x ∈ split4 z, x.length ≤ 900000) ∧ ∀ p ys H', Same H H' → H p = none → H' p = some (.tup ys) → NdsAt K H' ys (nodesIn z) → Q (.ref p) H'
theorem ok_nodes_in {p0 fS fP f : Addr} {fdS fdP fd : FuncData} (F : Fun K "nodes_in" "nodes_in" s_nodes_in f fd) (T : Txt mg) (S : SignedAt K w mg p0) (GS : FnT P w K mg base 1 fS fdS ["text"] spSplit) (mS : mg "_split" = some (.ref fS)) (kS : PySem.W.keepIn K (.ref fS) = true) (bS : Binds K fdS ["text"] [])
    (C__plain_node : Cal P w K mg base 1 "_plain_node" fP fdP ["word"] spPlainN) : FnT P w K mg base 2 f fd ["text"] (spNodesIn K) := by
  refine funT F sc_nodes_in (fun vs H Q E h => ?_) (fun cdv A outer s H vs Q E hr h => ?_)
  · obtain ⟨z, rfl, _⟩ := h
    rfl
  · obtain ⟨z, rfl, hz, hw, hx, q⟩ := h
    refine ⟨_, psst_cons (PST.of (ps_set (i := 1) sc_nodes_in.nd rfl (.inr rfl) (pe_lst pa_nil)))
      (psst_cons (PST.of (ps_set (i := 2) sc_nodes_in.nd rfl (.inr rfl) (pe_lst pa_nil)))
      (psst_cons (PST.of (ps_set (i := 3) sc_nodes_in.nd rfl (.inl rfl) (pe_lst pa_nil)))
      (psst_cons (pst_for PassesOwn.never (by rfl) (pit_list (pet_callT GS hr (by rfl) mS kS bS (pa_cons (pv 0) pa_nil))) (pg_name (i := 4) sc_nodes_in.nd rfl (.inl rfl))
        (pss_one (ps_if (pt_cmpR (inQ (K := K) rfl) (pv 4) (pe_tup (pa_cons pe_str (pa_cons pe_str pa_nil))) (by rfl))
          (pss_cons (ps_expr (bmK (K := K) rfl (pe_bm PySem.F.plainAttrs_list PySem.F.slot_list_append PySem.F.type_list_append mt_append (pv 3) (pa_cons (pe_callB (lenQ (K := K) rfl) (by rfl) T.len_ (by decide +kernel) (pa_cons (pv 1) pa_nil)) pa_nil))))
          (pss_cons (ps_expr (bmK (K := K) rfl (pe_bm PySem.F.plainAttrs_list PySem.F.slot_list_append PySem.F.type_list_append mt_append (pv 1) (pa_cons pe_str pa_nil))))
          (pss_one (ps_expr (bmK (K := K) rfl (pe_bm PySem.F.plainAttrs_list PySem.F.slot_list_append PySem.F.type_list_append mt_append (pv 2) (pa_cons pe_int pa_nil)))))))
          (pss_one (ps_if (PW.pt (pw_and (pt_cmpR (inSg S rfl rfl) (pv 4) (pe_glob (v := .ref p0) rfl S.g rfl) (by rfl)) (pw_and1 (pt_truth (pv 3) (by intro _; rfl)))))
            (pss_cons (ps_asg (pe_ix (ixKd (K := K) (w := w) rfl rfl) (pe_glob (v := .ref p0) rfl S.g rfl) (pv 4) (fun _ _ => rfl)) (pg_sub (pv 1) (pe_ix (ixL (K := K) rfl) (pv 3) (pe_un un_neg pe_int) (fun _ _ => rfl)) set_list))
            (pss_one (ps_augS (pv 2) (pe_ix (ixL (K := K) rfl) (pv 3) (pe_un un_neg pe_int) (fun _ _ => rfl)) get_list pe_int ip_add set_list)))
            (pss_one (ps_if (PW.pt (pw_and (pt_cmpR (inQ (K := K) rfl) (pv 4) (pe_tup (pa_cons pe_str (pa_cons pe_str pa_nil))) (by rfl)) (pw_and1 (pt_truth (pv 3) (by intro _; rfl)))))
              (pss_one (ps_expr (bm0K (K := K) rfl (pe_bm0 PySem.F.plainAttrs_list PySem.F.slot_list_pop PySem.F.type_list_pop mt_pop (pv 3)))))
              (pss_cons (ps_asg (pe_call C__plain_node.G hr (by rfl) C__plain_node.m C__plain_node.k C__plain_node.b .nil pass0 (pa_cons (pv 4) pa_nil)) (pg_tup (by rfl) (pgs_cons (pg_name (i := 5) sc_nodes_in.nd rfl (.inl rfl)) (pgs_cons (pg_name (i := 6) sc_nodes_in.nd rfl (.inl rfl)) pgs_nil))))
              (pss_cons (ps_expr (bmK (K := K) rfl (pe_bm PySem.F.plainAttrs_list PySem.F.slot_list_append PySem.F.type_list_append mt_append (pv 1) (pa_cons (pv 5) pa_nil))))
              (pss_one (ps_expr (bmK (K := K) rfl (pe_bm PySem.F.plainAttrs_list PySem.F.slot_list_append PySem.F.type_list_append mt_append (pv 2) (pa_cons (pv 6) pa_nil))))))))))))))
      (PSsT.of (pss_one (ps_ret (pe_callTy call_tuple_of (by rfl) T.tuple_ (by decide +kernel) (pa_cons (pe_lc (own := [("at", 7)]) (g := gName 7) (by rfl) sc_nodes_in.nd (pi_range1 (by rfl) T.range_ (pa_cons (pe_callB (lenQ (K := K) rfl) (by rfl) T.len_ (by decide +kernel) (pa_cons (pv 1) pa_nil)) pa_nil)) (blkOk_by (by kernel_rfl)) (fun _ _ _ _ _ => (pg_name (i := 7) sc_nodes_in.nd rfl (.inl rfl))) (fun _ _ _ _ _ => pts_nil) (fun _ _ _ _ _ => (pe_tup (pa_cons (pe_ix (ixL (K := K) rfl) (pv 1) (pv 7) (fun _ _ => rfl)) (pa_cons (pe_ix (ixL (K := K) rfl) (pv 2) (pv 7) (fun _ _ => rfl)) pa_nil))))) pa_nil)))))))), ?_⟩
    refine ⟨Nat.zero_le _, fun lk nk => ⟨Nat.zero_le _, fun lc nc => ⟨Nat.zero_le _, fun la na => ?_⟩⟩⟩
    have s1 := same_new (o := .lst []) nk
    have s2 := same_new (o := .lst []) nc
    have s3 := same_new (o := .lst []) na
    have nkH : H lk = none := nk
    have ncH : H lc = none := s1.free nc
    have naH : H la = none := (s1.trans s2).free na
    have hck : lc ≠ lk := fun e => by rw [e, upd_same] at nc; cases nc
    have hac : la ≠ lc := fun e => by rw [e, upd_same] at na; cases na
    have hak : la ≠ lk := fun e => by rw [e, upd_ne hck.symm, upd_same] at na; cases na
    have l0 : L3 (upd (upd (upd H lk (.lst [])) lc (.lst [])) la (.lst [])) lk lc la ⟨[], [], []⟩ := ⟨s3 _ _ (s2 _ _ upd_same), s3 _ _ upd_same, upd_same⟩
    have s123 : Same H (upd (upd (upd H lk (.lst [])) lc (.lst [])) la (.lst [])) := s1.trans (s2.trans s3)
    generalize upd (upd (upd H lk (.lst [])) lc (.lst [])) la (.lst []) = H3 at l0 s123 ⊢
    clear nk nc na s1 s2 s3
    refine ⟨_, rfl, z, rfl, hz, fun lw nw => ⟨lw, rfl, ⟨_, SqL.of upd_same⟩, ?_⟩⟩
    have nwH : H lw = none := s123.free nw
    have hwk : lw ≠ lk := fun e => by rw [e, l0.k] at nw; cases nw
    have hwc : lw ≠ lc := fun e => by rw [e, l0.c] at nw; cases nw
    have hwa : lw ≠ la := fun e => by rw [e, l0.a] at nw; cases nw
    have s4 := same_new (o := .lst ((split4 z).map V.str)) nw
    have l4 := l0.same s4
    have e4 := upd_same (H := H3) (a := lw) (o := HO.lst ((split4 z).map V.str))
    have s14 := s123.trans s4
    generalize upd H3 lw (.lst ((split4 z).map V.str)) = H4 at l4 e4 s14 ⊢
    clear s4 l0 s123 nw
    refine for_list (K := K) (a := lw) (xs := (split4 z).map V.str) (fun j σ H5 => ∃ x4 x5 x6, σ = [some (.str z), some (.ref lk), some (.ref lc), some (.ref la), x4, x5, x6, none] ∧ Same H H5 ∧ H5 lw = some (.lst ((split4 z).map V.str)) ∧ L3 H5 lk lc la (run3 ((split4 z).take j))) ⟨none, none, none, rfl, s14, e4, l4⟩ (fun j σ H5 _ h => ?_) ?_ ?_
    · obtain ⟨_, _, _, _, _, e, _⟩ := h
      exact SqL.of e
    · rintro j x σ H5 hj ⟨x4, x5, x6, rfl, s5, e5, l5⟩
      rw [List.getElem?_map] at hj
      obtain ⟨y, hy, rfl⟩ := Option.map_eq_some_iff.mp hj
      have hjl : j < 100000 := by
        have := (List.getElem?_eq_some_iff.mp hy).1
        omega
      have hyl := hx y (List.mem_of_getElem? hy)
      obtain ⟨k3, c3⟩ := run3_len ((split4 z).take j) ⟨[], [], []⟩
      have ok := run3_ok ((split4 z).take j) _ ok3_start
      have htl := List.length_take_le j (split4 z)
      rw [run3_take hy]
      change (run3 ((split4 z).take j)).ks.length ≤ _ at k3
      change (run3 ((split4 z).take j)).ar.length ≤ _ at c3
      change Ok3 (run3 ((split4 z).take j)) at ok
      generalize run3 ((split4 z).take j) = s at l5 k3 c3 ok ⊢
      have k3 : s.ks.length ≤ j := by simpa using Nat.le_trans k3 (by simpa using htl)
      have c3 : s.ar.length ≤ j := by simpa using Nat.le_trans c3 (by simpa using htl)
      have hcl := ok.len
      refine ⟨_, rfl, lenOk 2, fun t1 n1 => ⟨t1, parens.map V.str, rfl, .inr (SqT.of upd_same), rfl, flat_strs _, _, rfl, ?_⟩⟩
      have u6 : Same H5 (upd H5 t1 (.tup [V.str "(", V.str "["])) := same_new n1
      have s6 := s5.trans u6
      have e6 := u6 _ _ e5
      have l6 := l5.same u6
      generalize upd H5 t1 (.tup [V.str "(", V.str "["]) = H6 at s6 e6 l6 ⊢
      clear u6 n1
      cases c1 : parens.contains y with
      | true =>
        have es : step3 s y = ⟨s.ks ++ [("" : Str)], s.cs ++ [.int 1], s.ar ++ [s.ks.length]⟩ := by unfold step3; rw [if_pos c1]
        rw [es]
        refine iteT' ((inV_strs y parens).trans c1) ?_
        refine ⟨_, rfl, .inl ⟨rfl, _, SqL.of l6.a⟩, _, rfl, .inl ⟨lk, _, rfl, .inl (SqL.of l6.k), la, _, .int ((s.ks.map V.str).length : Int), rfl, rfl, l6.a, small (by rw [List.length_map]; omega), ?_⟩⟩
        refine ⟨_, rfl, .inl ⟨rfl, _, SqL.of ((upd_ne hak.symm).trans l6.k)⟩, lk, _, .str "", rfl, rfl, (upd_ne hak.symm).trans l6.k, small (by rw [List.length_map]; omega), ?_⟩
        refine ⟨_, rfl, .inl ⟨rfl, _, SqL.of ((upd_ne hck).trans ((upd_ne hac.symm).trans l6.c))⟩, lc, _, .int 1, rfl, rfl, (upd_ne hck).trans ((upd_ne hac.symm).trans l6.c), small (by omega), ?_⟩
        refine ⟨_, _, _, rfl, same_put (same_put (same_put s6 naH) nkH) ncH, ?_, ?_, ?_, ?_⟩
        · rw [upd_ne hwc, upd_ne hwk, upd_ne hwa]
          exact e6
        · rw [upd_ne hck.symm, upd_same, List.map_append]
          rfl
        · exact upd_same
        · rw [upd_ne hac, upd_ne hak, upd_same, List.map_append, List.length_map]
          rfl
      | false =>
        have n1 : ¬ parens.contains y = true := by rw [c1]; exact Bool.false_ne_true
        refine iteF' ((inV_strs y parens).trans c1) ?_
        have tr : ∀ b, b = !(s.ar.map natV).isEmpty → TruV K (.ref la) H6 b := fun b e => .inl ⟨_, SqL.of l6.a, e⟩
        by_cases c2 : signs4.contains y = true ∧ s.ar ≠ []
        · obtain ⟨pre, i, ei, eg⟩ := last_nat c2.2
          have es : step3 s y = ⟨s.ks.set i (kindOfSign y), bump s.cs i, s.ar⟩ := by unfold step3; rw [if_neg n1, if_pos c2, eg]
          have hm := last_mem c2.2
          rw [eg] at hm
          obtain ⟨n, en⟩ := ok.at_ i hm
          have hil : i < s.cs.length := (List.getElem?_eq_some_iff.mp en).1
          have eb : bump s.cs i = s.cs.set i (.int (n + 1)) := by
            unfold bump
            rw [en]
            rfl
          rw [es, eb]
          have ea : s.ar.map natV = pre.map natV ++ [natV i] := by rw [ei, List.map_append]; rfl
          have la6 := l6.a
          rw [ea] at la6
          refine ⟨_, rfl, y, rfl, rfl, _, rfl, iteT' c2.1 ?_⟩
          refine ⟨_, rfl, true, tr true (by rw [ea]; simp), iteT ?_⟩
          refine ⟨_, rfl, p0, y, _, rfl, rfl, S.v y c2.1, ?_⟩
          refine ⟨_, rfl, _, rfl, _, rfl, la, _, (-1), natV i, rfl, rfl, SqL.of la6, atI_last, lk, _, (i : Int), i, rfl, rfl, l6.k, by rw [List.length_map]; exact ixN_nat (by omega), ?_⟩
          have la7 : (upd H6 lk (.lst ((s.ks.map V.str).set i (.str (kindOfSign y))))) la = some (.lst (pre.map natV ++ [natV i])) := (upd_ne hak).trans la6
          have lc7 : (upd H6 lk (.lst ((s.ks.map V.str).set i (.str (kindOfSign y))))) lc = some (.lst s.cs) := (upd_ne hck).trans l6.c
          refine ⟨_, rfl, _, rfl, _, rfl, la, _, (-1), natV i, rfl, rfl, SqL.of la7, atI_last, ?_⟩
          refine ⟨lc, _, (i : Int), .int n, rfl, rfl, SqL.of lc7, by omega, by omega, by rw [Int.toNat_natCast]; exact en, ?_⟩
          refine ⟨n, 1, rfl, rfl, lc, _, (i : Int), i, rfl, rfl, lc7, ixN_nat hil, ?_⟩
          refine ⟨_, _, _, rfl, same_put (same_put s6 nkH) ncH, ?_, ?_, ?_, ?_⟩
          · rw [upd_ne hwc, upd_ne hwk]
            exact e6
          · rw [upd_ne hck.symm, upd_same, List.map_set]
          · exact upd_same
          · rw [upd_ne hac, upd_ne hak]
            exact l6.a
        · have hs : signs4.contains y = true → s.ar = [] := fun h => Classical.byContradiction fun z => c2 ⟨h, z⟩
          have es : step3 s y = if closes.contains y = true ∧ s.ar ≠ [] then ⟨s.ks, s.cs, s.ar.dropLast⟩ else ⟨s.ks ++ [(plainN y).1], s.cs ++ [(plainN y).2], s.ar⟩ := by
            unfold step3
            rw [if_neg n1, if_neg c2]
          rw [es]
          refine ⟨_, rfl, y, rfl, rfl, _, rfl, ?_⟩
          cases e2 : signs4.contains y
          case' true =>
            have ha0 := hs e2
            refine iteT ⟨_, rfl, false, tr false (by rw [ha0]; rfl), iteF ?_⟩
          case' false => refine iteF ?_
          all_goals
            refine ⟨_, rfl, lenOk 2, fun t2 n2 => ⟨t2, closes.map V.str, rfl, .inr (SqT.of upd_same), rfl, flat_strs _, _, rfl, ?_⟩⟩
            have u7 : Same H6 (upd H6 t2 (.tup [V.str ")", V.str "]"])) := same_new n2
            have s7 := s6.trans u7
            have e7 := u7 _ _ e6
            have l7 := l6.same u7
            generalize upd H6 t2 (.tup [V.str ")", V.str "]"]) = H7 at s7 e7 l7 ⊢
            clear u7 n2
            have tr7 : ∀ b, b = !(s.ar.map natV).isEmpty → TruV K (.ref la) H7 b := fun b e => .inl ⟨_, SqL.of l7.a, e⟩
            by_cases c3 : closes.contains y = true ∧ s.ar ≠ []
            · obtain ⟨pre, i, ei, eg⟩ := last_nat c3.2
              rw [if_pos c3]
              have ea : s.ar.map natV = pre.map natV ++ [natV i] := by rw [ei, List.map_append]; rfl
              have la7 := l7.a
              rw [ea] at la7
              refine iteT' ((inV_strs y closes).trans c3.1) ⟨_, rfl, true, tr7 true (by rw [ea]; simp), iteT ?_⟩
              refine ⟨_, rfl, .inl ⟨rfl, _, SqL.of la7⟩, la, _, natV i, rfl, rfl, la7, ?_, ?_⟩
              · rw [List.length_append, List.length_singleton, Nat.add_sub_cancel]
                exact List.getElem?_concat_length
              · rw [List.dropLast_concat]
                refine ⟨_, _, _, rfl, same_put s7 naH, (upd_ne hwa).trans e7, (upd_ne hak.symm).trans l7.k, (upd_ne hac.symm).trans l7.c, ?_⟩
                rw [upd_same, ei, List.dropLast_concat]
            · rw [if_neg c3]
              have hc : closes.contains y = true → s.ar = [] := fun h => Classical.byContradiction fun z => c3 ⟨h, z⟩
              cases e3 : closes.contains y
              case' true =>
                have ha1 := hc e3
                refine iteT' ((inV_strs y closes).trans e3) ⟨_, rfl, false, tr7 false (by rw [ha1]; rfl), iteF ?_⟩
              case' false => refine iteF' ((inV_strs y closes).trans e3) ?_
              all_goals
                refine ⟨_, rfl, y, rfl, hyl, fun tp H8 u8 n8 e8 => ?_⟩
                have l8 := l7.same u8
                have e9 := u8 _ _ e7
                have s8 := s7.trans u8
                refine ⟨tp, _, rfl, SqT.of e8, rfl, _, _, rfl, _, _, rfl, rfl, ?_⟩
                refine ⟨_, rfl, .inl ⟨rfl, _, SqL.of l8.k⟩, _, rfl, lk, _, .str (plainN y).1, rfl, rfl, l8.k, small (by rw [List.length_map]; omega), ?_⟩
                refine ⟨_, rfl, .inl ⟨rfl, _, SqL.of ((upd_ne hck).trans l8.c)⟩, _, rfl, lc, _, (plainN y).2, rfl, rfl, (upd_ne hck).trans l8.c, small (by omega), ?_⟩
                refine ⟨_, _, _, rfl, same_put (same_put s8 nkH) ncH, (upd_ne hwc).trans ((upd_ne hwk).trans e9), ?_, upd_same, (upd_ne hac).trans ((upd_ne hak).trans l8.a)⟩
                rw [upd_ne hck.symm, upd_same, List.map_append]
                rfl
    · rintro σ H5 ⟨x4, x5, x6, rfl, s5, e5, l5⟩
      rw [List.length_map, List.take_length] at l5
      have ok := run3_ok (split4 z) _ ok3_start
      obtain ⟨k3, _⟩ := run3_len (split4 z) ⟨[], [], []⟩
      change Ok3 (run3 (split4 z)) at ok
      change (run3 (split4 z)).ks.length ≤ _ at k3
      have hq := q
      unfold nodesIn at hq
      generalize run3 (split4 z) = s at l5 ok k3 hq ⊢
      have k3 : s.ks.length ≤ (split4 z).length := by simpa using k3
      have hcl := ok.len
      refine ⟨_, rfl, .inl ⟨lk, _, rfl, .inl (SqL.of l5.k), _, rfl, by omega, by rw [List.length_map]; omega, fun D nD => ?_⟩⟩
      have s6 := s5.trans (same_new (o := .lst []) nD)
      have u6 := same_new (o := .lst []) nD
      have nDH : H D = none := s5.free nD
      have nD5 : H5 D = none := nD
      refine lcR (fun j acc H6 => Same H H6 ∧ Same H5 H6 ∧ NdsAt K H6 acc ((s.ks.zip s.cs).take j)) ⟨s6, u6, .nil⟩ ?_ ?_
      · rintro j acc H6 hj hl e ⟨s7, u7, A7⟩
        rw [List.length_map] at hj
        have hj' : j < s.ks.length := by omega
        obtain ⟨k, hk⟩ : ∃ k, s.ks[j]? = some k := ⟨_, List.getElem?_eq_getElem hj'⟩
        obtain ⟨v, hv⟩ : ∃ v, s.cs[j]? = some v := ⟨_, List.getElem?_eq_getElem (by omega)⟩
        have ei : ((0 : Int) + (j : Int)) = (j : Int) := Int.zero_add _
        rw [ei]
        refine ⟨_, rfl, _, rfl, lk, _, _, .str k, rfl, rfl, SqL.of (u7 _ _ l5.k), atI_nat (by rw [List.getElem?_map, hk]; rfl), ?_⟩
        refine ⟨_, rfl, _, rfl, lc, _, _, v, rfl, rfl, SqL.of (u7 _ _ l5.c), atI_nat hv, lenOk 2, fun t nt => ?_⟩
        have u8 : Same H6 (upd H6 t (.tup [.str k, v])) := same_new nt
        refine LcK.mk hl (by omega) (u8 _ _ e) ⟨same_put (s7.trans u8) nDH, same_put (u7.trans u8) nD5, ?_⟩
        rw [zip_take_succ hk hv]
        have kp := Tk.put (ys := acc ++ [V.ref t]) (u8 _ _ e)
        exact ((A7.tk (stk u8)).tk kp).app (.cons (kp.seq (SqT.of upd_same)) .nil)
      · rintro acc H6 hl e ⟨s7, u7, A7⟩
        have ez : (s.ks.zip s.cs).take (((s.ks.map V.str).length : Int)).toNat = s.ks.zip s.cs := by
          refine List.take_of_length_le ?_
          rw [List.length_zip, List.length_map]
          omega
        rw [ez] at A7
        refine ⟨D, acc, rfl, .inl ⟨SqL.of e, fun p np => ?_⟩⟩
        exact hq p acc _ (s7.trans (same_new np)) (s7.free np) upd_same (A7.tk (Tk.new np))
end
end Eh
set_option Elab.async false
set_option linter.all false
set_option maxRecDepth 100000
set_option maxHeartbeats 4000000
namespace Eh
open PySem PySem.Spec PyProof.Rows L2
open CwR
section
variable {P : Program} {w : World} {K : PySem.W.Frag} {mg : Str → Option Value} {base : Heap}
def spReadOk (K : PySem.W.Frag) (C : Addr) : Sp := fun vs H Q _ => ∃ z ns t, vs = [.ref C, .str z] ∧ z.length ≤ 9000 ∧ (split4 z).length < 100000 ∧ (∀ x ∈ split4 z, x.length ≤ 900000) ∧ nodesIn z = ns ∧ (∀ n ∈ ns, NOk n) ∧ dueGo 1 ns = true ∧ ns.length ≤ 15 ∧ stackT ns = [t] ∧ t = z ∧
  ∀ a H', Same H H' → H a = none → PrOk K C H' a ns → Q (.ref a) H'
theorem ok_read {C CE fI fL fN fA fT f : Addr} {fdI fdN fdA fdT fd : FuncData} (F : Fun K "read" "Promise.read" s_Promise_read f fd) (T : Txt mg) (PC : PromC K mg C fI fL) (GN : FnT P w K mg base 2 fN fdN ["text"] (spNodesIn K)) (mN : mg "nodes_in" = some (.ref fN)) (kN : PySem.W.keepIn K (.ref fN) = true) (bN : Binds K fdN ["text"] [])
    (C__are_nodes : Cal P w K mg base 3 "_are_nodes" fA fdA ["value"] (spAre K)) (C_text_of : Cal P w K mg base 2 "text_of" fT fdT ["nodes"] (spText K)) (GI : FnOk P w K mg base (L2.CX P w) 4 fI fdI ["self", "nodes"] (spInit K C CE)) (bI : Binds K fdI ["self", "nodes"] []) :
    FnT P w K mg base 6 f fd ["cls", "text"] (spReadOk K C) := by
  refine funT F sc_Promise_read (fun vs H Q E h => ?_) (fun cdv A outer s H vs Q E hr h => ?_)
  · obtain ⟨z, ns, t, rfl, _⟩ := h
    rfl
  · obtain ⟨z, ns, t, rfl, hz, hw, hx, hns, ho, hd, hl, ht, etz, q⟩ := h
    have hr2 := hr.mono (j := 2) (by omega)
    have hr3 := hr.mono (j := 3) (by omega)
    refine ⟨_, psst_cons (PST.of (ps_if (pt_not (pt_val (pe_callB (isiQ (K := K) rfl) (by rfl) T.isinstance_ (by decide +kernel) (pa_cons (pv 1) (pa_cons (pe_bltn (v := .ty "str") (by rfl) T.str_ (by decide +kernel) rfl) pa_nil))))) (pss_one ps_never) pss_nil))
      (psst_cons (pst_set (i := 2) sc_Promise_read.nd rfl (.inl rfl) (pet_callT GN hr2 (by rfl) mN kN bN (pa_cons (pv 1) pa_nil)))
      (PSsT.of (pss_cons (ps_if (PW.pt (pw_or (pt_not (pt_val (pe_call C__are_nodes.G hr3 (by rfl) C__are_nodes.m C__are_nodes.k C__are_nodes.b .nil pass0 (pa_cons (pv 2) pa_nil)))) (pw_or1 (pt_cmpR op_ne (pe_call C_text_of.G hr2 (by rfl) C_text_of.m C_text_of.k C_text_of.b .nil pass0 (pa_cons (pv 2) pa_nil)) (pv 1) (nomark _))))) (pss_one ps_never) pss_nil)
      (pss_one (ps_ret (pe_makeL (i := 0) (E := fun _ => E0) PC.mkC GI hr rfl (by first | exact Or.inl rfl | exact Or.inr (Or.inl rfl)) bI (fun σ pins H s e s' I h => passL pins σ H s e s' I h) (pa_cons (pv 2) pa_nil))))))), ?_⟩
    refine ⟨_, rfl, .str z, .ty "str", .type "str", .type "str", true, rfl, .ty _, .base (.str z), kit_ty (by decide +kernel), _, rfl, iteF ?_⟩
    refine ⟨_, rfl, z, rfl, hz, hw, hx, fun p ys H1 s1 n1 e1 N1 => ?_⟩
    rw [hns] at N1
    have g : GoodN ns := fun n hn => (ho n hn).1
    obtain ⟨nv, fw⟩ := good_nodes (K := K) (SqT.of e1) N1 ho hd hl
    refine ⟨_, rfl, .ref p, _, true, rfl, nv, fw, fun H2 s2 => ⟨_, rfl, iteF ?_⟩⟩
    have N2 := N1.tk (stk s2)
    have e2 := (stk s2).seq (SqT.of e1 : SqT K H1 p ys)
    refine ⟨_, rfl, p, ys, ns, t, rfl, e2, N2, g, hd, by rw [N1.length]; omega, ht, fun H3 s3 => ⟨_, rfl, rfl, _, rfl, ?_⟩⟩
    refine iteF' (by rw [etz]; simp) ⟨rfl, _, rfl, fun x dx nx nd ne => ?_⟩
    have s03 := s1.trans (s2.trans s3)
    have N3 := N2.tk (stk s3)
    have e3 := (stk s3).seq e2
    have u3 : Same H3 (upd (upd H3 dx (.own x)) x (.ins C dx [])) := fun b' o' eb => by
      rw [upd_ne (ne_of_none eb nx), upd_ne (ne_of_none eb nd)]
      exact eb
    have t3 := stk u3
    obtain ⟨nv3, fw3⟩ := good_nodes (K := K) (t3.seq e3) (N3.tk t3) ho hd hl
    refine ⟨x, dx, .ref p, _, true, rfl, upd_same, nv3, fw3, fun _ H4 bt e4 => ⟨rfl, ?_⟩, fun z => nomatch z⟩
    have s4 : Same H3 H4 := fun b' o' eb => bt b' o' (ne_of_none eb nx) (u3 b' o' eb)
    exact q x H4 (s03.trans s4) (s03.free nx) ⟨dx, p, ys, e4, (stk s4).seq e3, N3.tk (stk s4), ho⟩
end
end Eh
set_option Elab.async false
set_option linter.all false
set_option maxRecDepth 100000
set_option maxHeartbeats 2000000
set_option Elab.async false
set_option linter.all false
set_option maxRecDepth 100000
set_option maxHeartbeats 2000000
set_option Elab.async false
set_option linter.all false
set_option maxRecDepth 100000
set_option maxHeartbeats 2000000
namespace Eh
open PySem PySem.Spec PyProof.Rows L2
structure PropC (P : Program) (w : World) (K : PySem.W.Frag) (mg : Str → Option Value) (base : Heap) (C : Addr) (x : Str) (k : Nat) (sp : Sp) (p g : Addr) (fd : FuncData) : Prop where
  p : PropOf K C x p g
  ok : FnOk P w K mg base CX0 k g fd ["self"] sp
  b : Binds K fd ["self"] []
structure DunC (P : Program) (w : World) (K : PySem.W.Frag) (mg : Str → Option Value) (base : Heap) (C : Addr) (x : Str) (k : Nat) (ps : List Str) (sp : Sp) (g : Addr) (fd : FuncData) : Prop where
  s : PySem.W.findIn K (.ref C) x = some (some (.ref g))
  f : PySem.W.isFn K (.ref g) = true
  ok : FnOk P w K mg base CX0 k g fd ps sp
  b : Binds K fd ps []
section
variable {P : Program} {w : World} {K : PySem.W.Frag} {mg : Str → Option Value} {base : Heap}
theorem eqG_of_A {C f : Addr} {fd : FuncData} (F : FnOk P w K mg base CX0 1 f fd ["self", "value"] (spEqA K C)) : FnOk P w K mg base CX0 1 f fd ["self", "value"] (spEqG K C) :=
  F.imp fun vs H Q E h => .inl h
end
/-- what stands while a drawn promise is looked at -/
structure Rt (K : PySem.W.Frag) (C : Addr) (H : Hp) (v u : V) (pl ql : Pl) (x dx p n i : Addr) (zs xs ys : List V) : Prop where
  pa : At K H v pl
  oa : At K H u ql
  ix : H x = some (.ins C dx [(("_nodes" : Str), .ref p)])
  hs : SqT K H p zs
  hz : NdsAt K H zs (nodesOf pl)
  nl : H n = some (.lst xs)
  nd : NdsAt K H xs (nodesOf pl)
  il : H i = some (.lst ys)
  ia : AtAll K H ys (innerOf pl)
theorem Rt.same {K : PySem.W.Frag} {C : Addr} {H H' : Hp} {v u : V} {pl ql : Pl} {x dx p n i : Addr} {zs xs ys : List V} (r : Rt K C H v u pl ql x dx p n i zs xs ys) (s : Same H H') : Rt K C H' v u pl ql x dx p n i zs xs ys :=
  ⟨r.pa.tk (stk s), r.oa.tk (stk s), s _ _ r.ix, (stk s).seq r.hs, r.hz.tk (stk s), s _ _ r.nl, r.nd.tk (stk s), s _ _ r.il, r.ia.tk (stk s)⟩
theorem At.head {K : PySem.W.Frag} {H : Hp} {v : V} {pl : Pl} (h : At K H v pl) : ∃ a n y ns, v = .ref a ∧ SqT K H a [.str n.1, y] ∧ nodesOf pl = n :: ns := by
  cases h with
  | leaf h o => exact ⟨_, (_, _), _, [], rfl, h, by rw [nodesOf]⟩
  | node h1 h2 o a1 a2 r => exact ⟨_, (_, _), _, _, rfl, h1, by rw [nodesOf]⟩
theorem ints_shaped (zs : List Int) : SeqAt.shaped (.list (zs.map PyData.int)) = true := by
  have h : ∀ zs : List Int, PyData.canLayAll0 (zs.map PyData.int) = true ∧ PyData.depthAll (zs.map PyData.int) = 0 := by
    intro zs
    induction zs with
    | nil => exact ⟨rfl, rfl⟩
    | cons z zs ih =>
      refine ⟨?_, ?_⟩
      · show (true && PyData.canLayAll0 (zs.map PyData.int)) = true
        rw [ih.1]
        rfl
      · show max 0 (PyData.depthAll (zs.map PyData.int)) = 0
        rw [ih.2]
        rfl
  unfold SeqAt.shaped
  rw [show PyData.canLay0 (.list (zs.map PyData.int)) = true from (h zs).1, Bool.true_and]
  refine decide_eq_true ?_
  show PyData.depthAll (zs.map PyData.int) + 1 ≤ 64
  rw [(h zs).2]
  decide
theorem eqv_self {d : PyData} (h : SeqAt.shaped d = true) : PyData.eqv d d = true := SeqAt.eqv_refl _ (SeqAt.canLay_of_shaped h)
/-- a plain promise as it is drawn -/
structure Drawn (pl : Pl) : Prop where
  w : InW uni6 (nodesOf pl)
  l : (nodesOf pl).length ≤ 11
  ok : plOk pl = true
  good : GoodN (nodesOf pl)
  due : dueGo 1 (nodesOf pl) = true
  stack : stackT (nodesOf pl) = [textOf pl]
  full : plFull pl = true
theorem Drawn.nok {pl : Pl} (d : Drawn pl) : ∀ n ∈ nodesOf pl, NOk n := nok_of d.good d.w
theorem Drawn.of {K : PySem.W.Frag} {H : Hp} {v : V} {ws : List Str} {pl : Pl} (h : At K H v pl) (hi : ∀ z ∈ ws, z ∈ uni6) (w : InW ws (nodesOf pl)) (l : (nodesOf pl).length ≤ 11) : Drawn pl := by
  have w6 : InW uni6 (nodesOf pl) := fun k z m => hi _ (w k z m)
  obtain ⟨du, gd, _, _⟩ := at_good h w6 (by omega)
  have st := h.stack []
  rw [List.append_nil] at st
  exact ⟨w6, l, h.plOk, gd, du, st, h.full⟩
theorem Rt.m {K : PySem.W.Frag} {C : Addr} {H : Hp} {v u : V} {pl ql : Pl} {x dx p n i : Addr} {zs xs ys : List V} (r : Rt K C H v u pl ql x dx p n i zs xs ys) (d : Drawn pl) : PrOk K C H x (nodesOf pl) := ⟨dx, p, zs, r.ix, r.hs, r.hz, d.nok⟩
theorem Rt.g {K : PySem.W.Frag} {C : Addr} {H : Hp} {v u : V} {pl ql : Pl} {x dx p n i : Addr} {zs xs ys : List V} (r : Rt K C H v u pl ql x dx p n i zs xs ys) (d : Drawn pl) : PrG K C H x (nodesOf pl) := ⟨dx, p, zs, r.ix, r.hs, r.hz, d.good⟩
theorem Drawn.inner {K : PySem.W.Frag} {H : Hp} {v : V} {pl q : Pl} (d : Drawn pl) (m : q ∈ innerOf pl) (h : At K H v q) : Drawn q := by
  obtain ⟨a, b⟩ := inner_sub m
  have hl := d.l
  exact Drawn.of h (fun z hz => hz) (fun k z hk => d.w k z (a _ hk)) (by omega)
theorem inner_self (p : Pl) : p ∈ innerOf p := by
  rw [innerOf_eq]
  exact List.mem_cons_self
theorem depth_le : ∀ p : Pl, depthOf p ≤ (nodesOf p).length
  | .leaf k t => by rw [depthOf, nodesOf]; exact Nat.le_refl _
  | .node k ps => by
    rw [depthOf, nodesOf, List.length_cons]
    have := depthA_le ps
    omega
where depthA_le : ∀ ps : List Pl, depthAll ps ≤ (nodesAll ps).length
  | [] => by rw [depthAll]; exact Nat.zero_le _
  | p :: ps => by
    rw [depthAll, nodesAll, List.length_append]
    have h1 := depth_le p
    have h2 := depthA_le ps
    omega
end Eh
set_option Elab.async false
set_option linter.all false
set_option maxRecDepth 100000
set_option maxHeartbeats 2000000
set_option Elab.async false
set_option linter.all false
set_option maxRecDepth 100000
set_option maxHeartbeats 2000000
set_option Elab.async false
set_option linter.all false
set_option maxRecDepth 100000
set_option maxHeartbeats 2000000
set_option Elab.async false
set_option linter.all false
set_option maxRecDepth 100000
set_option maxHeartbeats 4000000
set_option Elab.async false
set_option linter.all false
set_option maxRecDepth 100000
set_option maxHeartbeats 4000000
namespace Eh
open PySem PySem.Spec PyProof.Rows L2
open CwR
/-- a dict from just these facts to facts -/
structure Nm (H : Hp) (d : Addr) (ρ : Str → Str) (fs : List Str) : Prop where
  at_ : ∃ kvs, H d = some (.dK kvs) ∧ kvs.length = fs.length ∧ ∀ z ∈ fs, valV kvs (.inr z) = some (.str (ρ z))
  ok : ∀ z ∈ fs, factS (ρ z) = true
theorem Nm.same {H H' : Hp} {d : Addr} {ρ : Str → Str} {fs : List Str} (h : Nm H d ρ fs) (s : Same H H') : Nm H' d ρ fs := by
  obtain ⟨⟨kvs, a, b, c⟩, o⟩ := h
  exact ⟨⟨kvs, s _ _ a, b, c⟩, o⟩
theorem Nm.get {H : Hp} {d : Addr} {ρ : Str → Str} {fs : List Str} (h : Nm H d ρ fs) {z : Str} (hz : z ∈ fs) : DGet H d (.str z) (some (.str (ρ z))) := by
  obtain ⟨⟨kvs, a, b, c⟩, o⟩ := h
  have g := DGet.k (k := .inr z) a
  rw [c z hz] at g
  exact g
end Eh
set_option Elab.async false
set_option linter.all false
set_option maxRecDepth 100000
set_option maxHeartbeats 4000000
namespace Eh
open PySem PySem.Spec PyProof.Rows L2
open CwR
section
variable {P : Program} {w : World} {K : PySem.W.Frag} {mg : Str → Option Value} {base : Heap}
/-- what is asked of C(nodes) where the nodes are good: made or refused -/
theorem makeS_steps {C x dx p : Addr} {H : Hp} {ys : List V} {ns : List (Str × V)} {CE : Addr} {Q : VK} {E : XK} (nx : H x = none) (nd : H dx = none) (hs : SqT K H p ys) (hN : NdsAt K H ys ns) (g : GoodN ns)
    (q : okB ns = true → ∀ H', Same H H' → PrG K C H' x ns → Q (.ref x) H') (q2 : okB ns = false → ∀ H', Same H H' → E (.ref CE) none H') : spInitE K C CE [.ref x, .ref p] (upd (upd H dx (.own x)) x (.ins C dx [])) (fun v H' => v = .non ∧ Q (.ref x) H') E := by
  have u3 : Same H (upd (upd H dx (.own x)) x (.ins C dx [])) := fun b' o' eb => by
    rw [upd_ne (ne_of_none eb nx), upd_ne (ne_of_none eb nd)]
    exact eb
  refine ⟨x, dx, .ref p, okB ns, rfl, upd_same, (good_W hs hN g).ku (ku_same u3), fun eo H4 bt e4 => ⟨rfl, ?_⟩, fun eo H4 s4 => q2 eo H4 (u3.trans s4)⟩
  obtain ⟨s5, pr⟩ := made_steps nx nd hs hN g bt e4
  exact q eo H4 s5 pr
end
end Eh
set_option Elab.async false
set_option linter.all false
set_option maxRecDepth 100000
set_option maxHeartbeats 4000000
set_option Elab.async false
set_option linter.all false
set_option maxRecDepth 100000
set_option maxHeartbeats 4000000
namespace Eh
open PySem PySem.Spec PyProof.Rows L2
theorem facts_uni {ns : List (Str × V)} (w : InW uni6 ns) {z : Str} (h : z ∈ factsN ns) : z ∈ uni6 := by
  unfold factsN at h
  obtain ⟨n, hn, e⟩ := List.mem_filterMap.mp h
  split at e
  · split at e
    · rename_i y ey
      cases e
      exact w n.1 z (by rw [← ey]; exact hn)
    · cases e
  · cases e
section
variable {P : Program} {w : World} {K : PySem.W.Frag} {mg : Str → Option Value} {base : Heap}
def spLFactsW (K : PySem.W.Frag) (n : Nat) : Sp := fun vs H Q _ => ∃ v pl, vs = [v] ∧ At K H v pl ∧ GoodN (nodesOf pl) ∧ InW uni6 (nodesOf pl) ∧ (nodesOf pl).length ≤ n ∧ n < 900 ∧
  ∀ (ys : List Str) p' H', Same H H' → H p' = none → H' p' = some (.lst (ys.map V.str)) → ys.Nodup → sortedS ys = true → (∀ z, z ∈ ys ↔ z ∈ factsN (nodesOf pl)) → Q (.ref p') H'
theorem ok_lfactsW {n : Nat} {f fN : Addr} {fd fdN : FuncData} (F : Fun K "_law_facts" "_law_facts" s__law_facts f fd) (T : Txt mg) (C__law_nodes : Cal P w K mg base (n + 1) "_law_nodes" fN fdN ["plain"] (spNodes K n)) : FnOk P w K mg base CX0 (n + 2) f fd ["plain"] (spLFactsW K n) := by
  refine F.ok sc__law_facts (fun vs H Q E h => ?_) (fun cdv A outer s H vs Q E hr h => ?_)
  · obtain ⟨v, pl, rfl, _⟩ := h
    rfl
  · obtain ⟨v, pl, rfl, hA, hg, hw, hl, hn, q⟩ := h
    refine ⟨_, (pss_one (ps_ret (pe_callB (sortX (by rfl)) (by rfl) T.sorted_ (by decide +kernel) (pa_cons (pe_callTy (setL (by rfl)) (by rfl) T.set_ (by decide +kernel) (pa_cons (pe_lc (own := [("node", 1)]) (g := gName 1) (by rfl) sc__law_facts.nd (piL (K := K) rfl (pe_call C__law_nodes.G hr (by rfl) C__law_nodes.m C__law_nodes.k C__law_nodes.b .nil pass0 (pa_cons (pv 0) pa_nil))) (blkOk_by (by kernel_rfl)) (fun _ _ _ _ _ => (pg_name (i := 1) sc__law_facts.nd rfl (.inl rfl))) (fun _ _ _ _ _ => (pts_one (pt_cmpR (inQ (K := K) rfl) (pe_ix (ixT (K := K) rfl) (pv 1) pe_int (fun _ _ => rfl)) (pe_lst (pa_cons pe_str (pa_cons pe_str pa_nil))) (by rfl)))) (fun _ _ _ _ _ => (pe_ix (ixT (K := K) rfl) (pv 1) pe_int (fun _ _ => rfl)))) pa_nil)) pa_nil)))), ?_⟩
    refine ⟨_, rfl, v, pl, rfl, hA, hl, by omega, fun xs lp H1 s1 n1 e1 N1 => ?_⟩
    refine ⟨lp, rfl, ⟨xs, SqL.of e1⟩, fun D nD => ?_⟩
    have hxn := N1.length
    have nDH : H D = none := s1.free nD
    have s2 := s1.trans (same_new (o := .lst []) nD)
    have u2 := same_new (o := .lst []) nD
    refine lcL (K := K) (a := lp) (xs := xs) (fun j acc H3 => Same H H3 ∧ Same H1 H3 ∧ acc = (factsN ((nodesOf pl).take j)).map V.str) ⟨s2, u2, rfl⟩ (fun j acc H3 h => SqL.of (h.2.1 _ _ e1)) ?_ ?_
    · rintro j x acc H3 hx hl3 e ⟨s3, u3, ea⟩
      obtain ⟨b, k, t, rfl, hk, hb⟩ := N1.get hx
      have hgn := hg _ (List.mem_of_getElem? hk)
      have hj : j < 1000 := by
        have := (List.getElem?_eq_some_iff.mp hx).1
        omega
      have et : factsN ((nodesOf pl).take (j + 1)) = factsN ((nodesOf pl).take j) ++ factsN [(k, t)] := by rw [take_succ' hk, factsN_app]
      refine ⟨_, rfl, b, _, 0, .str k, rfl, rfl, (stk u3).seq hb, rfl, lenOk 2, fun t1 nt1 => ?_⟩
      have s4 : Same H3 (upd H3 t1 (.lst (factKinds.map V.str))) := same_new nt1
      refine ⟨t1, factKinds.map V.str, rfl, .inl (SqL.of upd_same), rfl, flat_strs _, _, rfl, ?_⟩
      have e4 := s4 _ _ e
      cases ek : factKinds.contains k with
      | true =>
        obtain ⟨z, rfl, _⟩ := good_fact hgn ek
        rw [factsN_one ek rfl] at et
        refine iteT' ((inV_strs k factKinds).trans ek) ⟨_, rfl, b, _, 1, .str z, rfl, rfl, (stk (u3.trans s4)).seq hb, rfl, LcK.mk hl3 (by omega) e4 ⟨fun b' o eb => ?_, fun b' o eb => ?_, ?_⟩⟩
        · rw [upd_ne (ne_of_none eb nDH)]
          exact s4 _ _ (s3 b' o eb)
        · have nD1 : H1 D = none := nD
          rw [upd_ne (ne_of_none eb nD1)]
          exact s4 _ _ (u3 b' o eb)
        · rw [ea, et, List.map_append]
          rfl
      | false =>
        rw [factsN_none ek, List.append_nil] at et
        exact iteF' ((inV_strs k factKinds).trans ek) ⟨acc, by omega, e4, s3.trans s4, u3.trans s4, by rw [et]; exact ea⟩
    · rintro acc H3 hl3 e ⟨s3, u3, ea⟩
      rw [hxn, List.take_length] at ea
      have hfl : (factsN (nodesOf pl)).length ≤ (nodesOf pl).length := by
        unfold factsN
        exact List.length_filterMap_le _ _
      rw [ea] at e
      refine ⟨D, factsN (nodesOf pl), rfl, SqL.of e, by omega, fun p3 n3 => ?_⟩
      have s4 := s3.trans (same_new (o := SetX w p3 (puts (factsN (nodesOf pl)))) n3)
      have hpl : (puts (factsN (nodesOf pl))).length ≤ 6 := nodup_le (us := uni6) (puts_nodup _) fun z hz => facts_uni hw ((puts_mem _ z).mp hz)
      refine ⟨p3, puts (factsN (nodesOf pl)), rfl, upd_same, puts_nodup _, by omega, fun ys p5 hp hs n5 => ?_⟩
      exact q ys p5 _ (s4.trans (same_new n5)) (s4.free n5) upd_same (hp.nodup_iff.mpr (puts_nodup _)) hs fun z => by rw [hp.mem_iff]; exact puts_mem _ z
def spWithin (K : PySem.W.Frag) (n : Nat) : Sp := fun vs H Q _ => ∃ v pl, vs = [v] ∧ At K H v pl ∧ GoodN (nodesOf pl) ∧ InW uni6 (nodesOf pl) ∧ (nodesOf pl).length ≤ n ∧ n < 900 ∧ ∀ H', Same H H' → Q (.bl (okB (nodesOf pl))) H'
theorem depth_pos : ∀ p : Pl, 1 ≤ depthOf p
  | .leaf k t => by rw [depthOf]; exact Nat.le_refl _
  | .node k ps => by rw [depthOf]; omega
theorem ok_within {n : Nat} {fN fC fF fD f : Addr} {fdN fdC fdF fdD fd : FuncData} (F : Fun K "_law_is_within" "_law_is_within" s__law_is_within f fd) (T : Txt mg) (C__law_nodes : Cal P w K mg base (n + 1) "_law_nodes" fN fdN ["plain"] (spNodes K n)) (C__law_count : Cal P w K mg base (n + 2) "_law_count" fC fdC ["plain", "kinds"] (spCount K n))
    (C__law_facts : Cal P w K mg base (n + 2) "_law_facts" fF fdF ["plain"] (spLFactsW K n)) (C__law_depth : Cal P w K mg base (n + 1) "_law_depth" fD fdD ["plain"] (spDepthL K n)) : FnOk P w K mg base CX0 (n + 3) f fd ["plain"] (spWithin K n) := by
  refine F.ok sc__law_is_within (fun vs H Q E h => ?_) (fun cdv A outer s H vs Q E hr h => ?_)
  · obtain ⟨v, pl, rfl, _⟩ := h
    rfl
  · obtain ⟨v, pl, rfl, hA, hg, hw, hl, hn, q⟩ := h
    have hr1 := hr.mono (j := n + 1) (by omega)
    refine ⟨_, (pss_cons (ps_if (PW.pt (pw_or (pt_cmpR op_gt (pe_callB (lenQ (K := K) rfl) (by rfl) T.len_ (by decide +kernel) (pa_cons (pe_call C__law_nodes.G hr1 (by rfl) C__law_nodes.m C__law_nodes.k C__law_nodes.b .nil pass0 (pa_cons (pv 0) pa_nil)) pa_nil)) pe_int (nomark _)) (pw_or (pt_cmpR op_gt (pe_call C__law_count.G hr (by rfl) C__law_count.m C__law_count.k C__law_count.b .nil pass0 (pa_cons (pv 0) (pa_cons (pe_lst (pa_cons pe_str (pa_cons pe_str pa_nil))) pa_nil))) pe_int (nomark _)) (pw_or1 (pt_cmpR op_gt (pe_callB (lenQ (K := K) rfl) (by rfl) T.len_ (by decide +kernel) (pa_cons (pe_call C__law_facts.G hr (by rfl) C__law_facts.m C__law_facts.k C__law_facts.b .nil pass0 (pa_cons (pv 0) pa_nil)) pa_nil)) pe_int (nomark _))))))
  (pss_one (ps_ret pe_bl))
  pss_nil)
  (pss_one (ps_ret (pe_cmpR op_le (pe_call C__law_depth.G hr1 (by rfl) C__law_depth.m C__law_depth.k C__law_depth.b .nil pass0 (pa_cons (pv 0) pa_nil)) pe_int (nomark _))))), ?_⟩
    have hdep := depth_tree hA.plOk hA.full
    have hd1 := depth_pos pl
    refine ⟨_, rfl, v, pl, rfl, hA, hl, by omega, fun xs p H1 s1 n1 e1 N1 => ?_⟩
    have hxn := N1.length
    refine .inl ⟨p, xs, rfl, .inl (SqL.of e1), _, 40, rfl, rfl, _, rfl, ite2 (fun h => ?_) (fun h => ?_)⟩
    · have h : (40 : Int) < xs.length := of_decide_eq_true h
      have q' := q _ s1
      have eb : okB (nodesOf pl) = false := by
        unfold okB
        rw [decide_eq_false (by omega), Bool.false_and]
      rw [eb] at q'
      exact q'
    have h40 : ¬ ((40 : Int) < xs.length) := fun x => h (decide_eq_true x)
    refine ⟨_, rfl, lenOk 2, fun lw nlw => ?_⟩
    have u2 := same_new (o := .lst [.str "mine", .str "yours"]) nlw
    refine ⟨v, pl, lw, choiceKinds, rfl, hA.tk (stk (s1.trans u2)), SqL.of upd_same, hl, by omega, fun H2 s2 => ?_⟩
    have s12 := s1.trans (u2.trans s2)
    refine ⟨_, 10, rfl, rfl, _, rfl, ite2 (fun h => ?_) (fun h => ?_)⟩
    · have h : (10 : Int) < countIn choiceKinds (nodesOf pl) := of_decide_eq_true h
      have q' := q _ s12
      have eb : okB (nodesOf pl) = false := by
        unfold okB boundB
        rw [decide_eq_false (show ¬ countIn choiceKinds (nodesOf pl) ≤ 10 by omega), Bool.and_false, Bool.false_and, Bool.and_false]
      rw [eb] at q'
      exact q'
    have h10 : ¬ ((10 : Int) < countIn choiceKinds (nodesOf pl)) := fun x => h (decide_eq_true x)
    refine ⟨_, rfl, v, pl, rfl, hA.tk (stk s12), hg, hw, hl, hn, fun ys p3 H3 s3 n3 e3 nod srt mem => ?_⟩
    have s13 := s12.trans s3
    have hfl : ys.length = (nubS (factsN (nodesOf pl))).length := by
      have h1 : ys.length ≤ (puts (factsN (nodesOf pl))).length := nodup_le nod fun z hz => (puts_mem _ z).mpr ((mem z).mp hz)
      have h2 : (puts (factsN (nodesOf pl))).length ≤ ys.length := nodup_le (puts_nodup _) fun z hz => (mem z).mpr ((puts_mem _ z).mp hz)
      exact Nat.le_antisymm h1 h2
    refine .inl ⟨p3, _, rfl, .inl (SqL.of e3), _, 6, rfl, rfl, _, rfl, ite2 (fun h => ?_) (fun h => ?_)⟩
    · have h : (6 : Int) < (ys.map V.str).length := of_decide_eq_true h
      rw [List.length_map] at h
      have q' := q _ s13
      have eb : okB (nodesOf pl) = false := by
        unfold okB boundB
        rw [decide_eq_false (show ¬ (nubS (factsN (nodesOf pl))).length ≤ 6 by omega), Bool.false_and, Bool.false_and, Bool.and_false]
      rw [eb] at q'
      exact q'
    have h6 : ¬ ((6 : Int) < (ys.map V.str).length) := fun x => h (decide_eq_true x)
    rw [List.length_map] at h6
    refine ⟨_, rfl, v, pl, rfl, hA.tk (stk s13), hl, by omega, fun H4 s4 => ⟨_, 8, rfl, rfl, ?_⟩⟩
    have q' := q _ (s13.trans s4)
    have eb : okB (nodesOf pl) = decide (((depthOf pl : Nat) : Int) ≤ 8) := by
      unfold okB boundB
      rw [decide_eq_true (show (nodesOf pl).length ≤ 40 by omega), decide_eq_true (show (nubS (factsN (nodesOf pl))).length ≤ 6 by omega), decide_eq_true (show countIn choiceKinds (nodesOf pl) ≤ 10 by omega), hdep, decide_eq_true (show (1 : Int) ≤ ((depthOf pl : Nat) : Int) by omega)]
      rfl
    rw [eb] at q'
    exact q'
end
end Eh
set_option Elab.async false
set_option linter.all false
set_option maxRecDepth 100000
set_option maxHeartbeats 4000000
set_option Elab.async false
set_option linter.all false
set_option maxRecDepth 100000
set_option maxHeartbeats 4000000
namespace Eh
open PySem PySem.Spec PyProof.Rows L2
open LamX (TabB Tabs TabS ExtN GivesTo TTold tLam told_gives pe_lamcall lamS_by lamCx lamEnv)
/-- a def of the module whose code object is told -/
structure FunL (K : PySem.W.Frag) (x qual : Str) (st : Stmt) (f : Addr) (fd : FuncData) (c : Addr) : Prop where
  ex : ∃ (oc : Value) (od : Option Addr) (kV doc pm : Value) (an : Option Addr) (ct : Value) (osl : Array (Option Value)),
    fd = PySem.W.fnOf x qual (defArgs st) (defBody st) (defScope st) .none kV doc pm an (.ref c) ct ∧ K.lookup f = some ⟨oc, od, .func fd, osl⟩ ∧ PySem.W.codeIn K (.ref c) qual = true
section
variable {P : Program} {w : World} {K : PySem.W.Frag} {mg : Str → Option Value} {base : Heap}
theorem FunL.ok {x qual : Str} {st : Stmt} {f c : Addr} {fd : FuncData} {N ps : List Str} {k : Nat} {sp : Sp} (F : FunL K x qual st f fd c) (S : FnScope N ps (defScope st)) (len : ∀ vs H Q E, sp vs H Q E → vs.length = ps.length)
    (hbody : ∀ (A : Around) (outer : List Env) (s : Shared) (H : Hp) (vs : List V) (Q : VK) (E : XK), Room k (A.deeper (envOfC qual (defScope st) s.heap.objs.size f (.ref c))) → sp vs H Q E →
      ∃ t, PSs (cxOf CX0 P w K mg base N qual (defScope st) f (.ref c) A outer s H E).nox (defBody st) t ∧ t { nx := fun _ H' => Q .non H', rt := Q } (start N vs) H) : FnOk P w K mg base CX0 (k + 1) f fd ps sp := by
  obtain ⟨oc, od, kV, doc, pm, an, ct, osl, rfl, lk, hcd⟩ := F.ex
  refine fn_of lk hcd S len fun A outer s H vs Q E hr hsp => ?_
  obtain ⟨t, h, q⟩ := hbody A outer s H vs Q E hr hsp
  exact ⟨t, h.nox, q⟩
end
end Eh
set_option Elab.async false
set_option linter.all false
set_option maxRecDepth 100000
set_option maxHeartbeats 8000000
namespace Eh
open PySem PySem.Spec PyProof.Rows L2
open LamX (TabB Tabs TabS ExtN GivesTo TTold tLam told_gives pe_lamcall lamS_by lamCx lamEnv)
/-- what a call makes, or the word -/
def Res (K : PySem.W.Frag) (C : Addr) (H : Hp) (v : V) (ns : List (Str × V)) : Prop := (okB ns = true ∧ ∃ x, v = .ref x ∧ PrG K C H x ns) ∨ (okB ns = false ∧ v = .str "promise")
theorem ntk {H H' : Hp} (e : ExtN H H') : Tk H H' := fun a xs h => h.imp (fun z => e a _ z fun ps z => by cases z) fun ⟨o, z⟩ => ⟨o, e a _ z fun ps z => by cases z⟩
theorem ext_of {H H' : Hp} (s : Same H H') : ExtN H H' := ExtN.of s
theorem PrG.ext {K : PySem.W.Frag} {C a : Addr} {H H' : Hp} {ns : List (Str × V)} (h : PrG K C H a ns) (e : ExtN H H') : PrG K C H' a ns := by
  obtain ⟨dx, p, xs, e1, hs, hN, g⟩ := h
  exact ⟨dx, p, xs, e _ _ e1 (fun ps z => by cases z), (ntk e).seq hs, hN.tk (ntk e), g⟩
theorem Res.ext {K : PySem.W.Frag} {C : Addr} {H H' : Hp} {v : V} {ns : List (Str × V)} (h : Res K C H v ns) (e : ExtN H H') : Res K C H' v ns :=
  h.imp (fun ⟨a, x, b, c⟩ => ⟨a, x, b, c.ext e⟩) id
inductive ResAll (K : PySem.W.Frag) (C : Addr) (H : Hp) : List V → List (List (Str × V)) → Prop
  | nil : ResAll K C H [] []
  | cons {v : V} {vs : List V} {n : List (Str × V)} {ns : List (List (Str × V))} : Res K C H v n → ResAll K C H vs ns → ResAll K C H (v :: vs) (n :: ns)
theorem ResAll.ext {K : PySem.W.Frag} {C : Addr} {H H' : Hp} (e : ExtN H H') : ∀ {vs : List V} {ns : List (List (Str × V))}, ResAll K C H vs ns → ResAll K C H' vs ns
  | _, _, .nil => .nil
  | _, _, .cons h r => .cons (h.ext e) (r.ext e)
theorem ResAll.snoc {K : PySem.W.Frag} {C : Addr} {H : Hp} {v : V} {n : List (Str × V)} (h : Res K C H v n) : ∀ {vs : List V} {ns : List (List (Str × V))}, ResAll K C H vs ns → ResAll K C H (vs ++ [v]) (ns ++ [n])
  | _, _, .nil => .cons h .nil
  | _, _, .cons a r => .cons a (r.snoc h)
/-- two promises and the plain ones they are of -/
structure Two (K : PySem.W.Frag) (C : Addr) (H : Hp) (a b : Addr) (v u : V) (pl ql : Pl) : Prop where
  a : PrG K C H a (nodesOf pl)
  b : PrG K C H b (nodesOf ql)
  v : At K H v pl
  u : At K H u ql
theorem Two.ext {K : PySem.W.Frag} {C : Addr} {H H' : Hp} {a b : Addr} {v u : V} {pl ql : Pl} (t : Two K C H a b v u pl ql) (e : ExtN H H') : Two K C H' a b v u pl ql := ⟨t.a.ext e, t.b.ext e, t.v.tk (ntk e), t.u.tk (ntk e)⟩
structure Kb (l : Addr) (us : List V) (H H' : Hp) : Prop where
  at_ : H l = some (.lst us)
  kp : ∀ x o, x ≠ l → H x = some o → H' x = some o
  tk : Tk H H'
theorem kb_put {l : Addr} {us ws : List V} {H : Hp} (e : H l = some (.lst us)) : Kb l us H (upd H l (.lst ws)) := ⟨e, fun x o n h => by rw [upd_ne n]; exact h, Tk.put e⟩
theorem PrG.kb {K : PySem.W.Frag} {C a l : Addr} {us : List V} {H H' : Hp} {ns : List (Str × V)} (h : PrG K C H a ns) (e : Kb l us H H') : PrG K C H' a ns := by
  obtain ⟨dx, p, xs, e1, hs, hN, g⟩ := h
  exact ⟨dx, p, xs, e.kp _ _ (fun z => by rw [z, e.at_] at e1; cases e1) e1, e.tk.seq hs, hN.tk e.tk, g⟩
theorem ResAll.kb {K : PySem.W.Frag} {C l : Addr} {us : List V} {H H' : Hp} (e : Kb l us H H') : ∀ {vs : List V} {ns : List (List (Str × V))}, ResAll K C H vs ns → ResAll K C H' vs ns
  | _, _, .nil => .nil
  | _, _, .cons h r => .cons (h.imp (fun ⟨a, x, b, c⟩ => ⟨a, x, b, c.kb e⟩) id) (r.kb e)
theorem Two.kb {K : PySem.W.Frag} {C l : Addr} {us : List V} {H H' : Hp} {a b : Addr} {v u : V} {pl ql : Pl} (t : Two K C H a b v u pl ql) (e : Kb l us H H') : Two K C H' a b v u pl ql := ⟨t.a.kb e, t.b.kb e, t.v.tk e.tk, t.u.tk e.tk⟩
theorem tabs_kb {T : List (Addr × Str)} {l : Addr} {us : List V} {H H' : Hp} (t : Tabs T H) (e : Kb l us H H') : Tabs T H' := fun p hp => by
  obtain ⟨ps, h1, h2, h3⟩ := t p hp
  refine ⟨ps, e.kp _ _ (fun z => by rw [z, e.at_] at h1; cases h1) h1, h2, fun pos cv hc => ?_⟩
  obtain ⟨c, e1, e2⟩ := h3 pos cv hc
  exact ⟨c, e1, e.kp _ _ (fun z => by rw [z, e.at_] at e2; unfold LamX.CodeO at e2; cases e2) e2⟩
abbrev Old := List (Addr × List V × List (List (Str × V)))
/-- what stands while results are gathered in the list at l -/
structure Jn (K : PySem.W.Frag) (C : Addr) (T : List (Addr × Str)) (H0 H : Hp) (a b : Addr) (v u : V) (pl ql : Pl) (old : Old) (l : Addr) (vs : List V) (nss : List (List (Str × V))) : Prop where
  two : Two K C H a b v u pl ql
  tabs : Tabs T H
  ext : ExtN H0 H
  nl : ∀ o, H0 l = some o → ∃ ps, o = .tbl ps
  el : H l = some (.lst vs)
  res : ResAll K C H vs nss
  old_ : ∀ o ∈ old, o.1 ≠ l ∧ H o.1 = some (.lst o.2.1) ∧ ResAll K C H o.2.1 o.2.2
theorem Jn.step {K : PySem.W.Frag} {C : Addr} {T : List (Addr × Str)} {H0 H H1 H2 : Hp} {a b l : Addr} {v u x : V} {pl ql : Pl} {old : Old} {vs : List V} {nss : List (List (Str × V))} {n : List (Str × V)} (j : Jn K C T H0 H a b v u pl ql old l vs nss) (x1 : ExtN H H1) (t1 : Tabs T H1) (s2 : Same H1 H2) (r : Res K C H2 x n) :
    H2 l = some (.lst vs) ∧ Jn K C T H0 (upd H2 l (.lst (vs ++ [x]))) a b v u pl ql old l (vs ++ [x]) (nss ++ [n]) := by
  have x2 : ExtN H H2 := x1.trans (ext_of s2)
  have e2 : H2 l = some (.lst vs) := x2 _ _ j.el fun ps z => by cases z
  have kb : Kb l vs H2 (upd H2 l (.lst (vs ++ [x]))) := kb_put e2
  refine ⟨e2, (j.two.ext x2).kb kb, tabs_kb (t1.ext s2) kb, fun b' o h k => ?_, j.nl, upd_same, ((j.res.ext x2).snoc r).kb kb, fun o ho => ?_⟩
  · have nb : b' ≠ l := fun z => by
      rw [z] at h
      obtain ⟨ps, y⟩ := j.nl o h
      exact k ps y
    rw [upd_ne nb]
    exact x2 _ _ (j.ext _ _ h k) k
  · obtain ⟨o1, o2, o3⟩ := j.old_ o ho
    exact ⟨o1, kb.kp _ _ o1 (x2 _ _ o2 fun ps z => by cases z), (o3.ext x2).kb kb⟩
section
variable {P : Program} {w : World} {K : PySem.W.Frag} {mg : Str → Option Value} {base : Heap}
mutual
theorem depth_inner : ∀ {p : Pl}, plOk p = true → depthOf p ≤ 1 + countIn nodeKinds (nodesOf p)
  | .leaf k t, _ => by rw [depthOf]; omega
  | .node k ps, h => by
    rw [plOk, Bool.and_eq_true] at h
    have ih := depthA_inner h.2
    have e : countIn nodeKinds (nodesOf (.node k ps)) = 1 + countIn nodeKinds (nodesAll ps) := by
      rw [nodesOf, show ((k, V.int (ps.length : Int)) :: nodesAll ps) = [(k, V.int (ps.length : Int))] ++ nodesAll ps from rfl, countIn_app]
      congr 1
      unfold countIn
      rw [List.filter_cons, if_pos h.1]
      rfl
    rw [depthOf, e]
    omega
theorem depthA_inner : ∀ {ps : List Pl}, plsOk ps = true → depthAll ps ≤ 1 + countIn nodeKinds (nodesAll ps)
  | [], _ => by rw [depthAll]; omega
  | p :: ps, h => by
    rw [plsOk, Bool.and_eq_true] at h
    have i1 := depth_inner h.1
    have i2 := depthA_inner h.2
    rw [depthAll, nodesAll, countIn_app]
    omega
end
theorem Drawn.okB {pl : Pl} (d : Drawn pl) : okB (nodesOf pl) = true := by
  have hl := d.l
  have h1 := due_inner (l := 1) d.good d.due
  have h2 := countIn_mono (fun k h => choice_inner (k := k) h) (nodesOf pl)
  have h3 := depth_inner d.ok
  have h4 := depth_tree d.ok d.full
  have h5 := depth_pos pl
  have h6 : (nubS (factsN (nodesOf pl))).length ≤ 6 := nodup_le (us := uni6) (puts_nodup (factsN (nodesOf pl))) fun z hz => facts_uni d.w ((puts_mem _ z).mp hz)
  unfold Eh.okB boundB
  rw [decide_eq_true (show (nodesOf pl).length ≤ 40 by omega), decide_eq_true h6, decide_eq_true (show countIn choiceKinds (nodesOf pl) ≤ 10 by omega), h4, decide_eq_true (show (1 : Int) ≤ ((depthOf pl : Nat) : Int) by omega), decide_eq_true (show ((depthOf pl : Nat) : Int) ≤ 8 by omega)]
  rfl
end
end Eh
set_option Elab.async false
set_option linter.all false
set_option maxRecDepth 100000
set_option maxHeartbeats 4000000
namespace HNE
open PySem PySem.Spec PyProof.Rows PySem.SeqAt
section
variable {prog : Program} {w : World} {A : Around} {E : Value → Shared → Prop} {h : Heap} {g : Array GenState} {d : Drawn} {t : Nat} {os : OsState} {K : PySem.W.Frag} {x y C f : Addr} {ox : Obj} {od : Option Obj}
theorem ne_entry {Q : Fin → Shared → Prop} (hu : A.units < cLine) (X : K.In h) (I : PySem.W.InstAt h x ox C od) (hs : PySem.W.findIn K (.ref C) "__eq__" = some (some (.ref f))) (hf : PySem.W.isFn K (.ref f) = true)
    (hcall : wpAny (model prog w) A (call (.ref f) [.ref x, .ref y]) (fun v s' => ∃ b, v = .bool b ∧ Q (.done (.ret (.bool (!b)))) s') E ⟨h, g, d, t, os⟩) :
    wpAny (model prog w) A (Builtin.«object.__ne__» ⟨[.ref x, .ref y], []⟩) Q E ⟨h, g, d, t, os⟩ := by
  unfold Builtin.«object.__ne__»
  repeat (first
    | with_reducible refine wpAny_cRoomFor hu ?_
    | (refine wpAny_bind (m := callSpecialIfBound? (.ref x) (Str.ofString "__eq__") [.ref y])
        (PySem.W.ifBound_K X I hs hf (wpAny_mono hcall (fun r s' hr => by
          obtain ⟨b, rfl, hq⟩ := hr
          repeat (first | exact hq | exact wpAny_pure hq | exact wpAny_truthy_bool hq | (refine wpAny_bind (m := truthy (.bool _)) (wpAny_truthy_bool ?_)) | wp_step)) fun _ _ e => e)))
    | wp_step)
theorem ifBound_objNe {M : Model} {s : Shared} {args : List Value} {Q : Option Value → Shared → Prop} (X : K.In s.heap) (I : PySem.W.InstAt s.heap x ox C od) (hs : PySem.W.findIn K (.ref C) "__ne__" = some (some (.builtin "object.__ne__")))
    (h : wpAny M A (call (.builtin "object.__ne__") (.ref x :: args)) (fun v => Q (some v)) E s) : wpAny M A (callSpecialIfBound? (.ref x) "__ne__" args) Q E s := by
  simp only [callSpecialIfBound?, bindSpecialIfBound?]
  refine wpAny_holding (wpAny_bind (wpAny_bind (wpAny_bind (I.type.here ((PySem.W.looks_findIn X hs).here ?_)))))
  refine wpAny_bind (wpAny_askSetting (wpAny_ite ?_))
  have fin : wpAny M A (call (.builtin "object.__ne__") ([.ref x] ++ args) >>= fun v => pure (some v)) Q E s := wpAny_bind (wpAny_mono h (fun v s' h' => wpAny_pure h') fun _ _ h' => h')
  split
  · exact wpAny_bind (wpAny_of_eq (F.cmp_object.ne.bind _) (wpAny_pure (by exact fin)))
  · exact wpAny_tryCatch (wpAny_bind (wpAny_of_eq (F.cmp_object.ne.bind _) (wpAny_pure (by exact fin))))
theorem rc_ne {s : Shared} {Q : Value → Shared → Prop} {oy : Obj} {ody : Option Obj} (hu : A.units + 1 < cLine) (hu2 : A.in1.units < cLine) (X : K.In s.heap) (I : PySem.W.InstAt s.heap x ox C od) (J : PySem.W.InstAt s.heap y oy C ody) (hm : PySem.W.mroIn K C (.type "object") = some true) (hn : PySem.W.findIn K (.ref C) "__ne__" = some (some (.builtin "object.__ne__")))
    (hs : PySem.W.findIn K (.ref C) "__eq__" = some (some (.ref f))) (hf : PySem.W.isFn K (.ref f) = true)
    (hcall : wpAny (model prog w) A.in1 (call (.ref f) [.ref x, .ref y]) (fun v s' => ∃ b, v = .bool b ∧ Q (.bool (!b)) s') E s) : wpAny (model prog w) A (richCompare .NotEq (.ref x) (.ref y)) Q E s := by
  have one : wpAny (model prog w) A (tryCompare (.ref x) "__ne__" (.ref y)) (fun r s' => ∃ v, r = some v ∧ Q v s') E s := by
    unfold tryCompare
    refine wpAny_bind (ifBound_objNe X I hn (wpAny_call (codeAny_call_builtin F.cmp_object.ne.plain F.cmpEntry_ne (PySem.W.check_slot F.cmpKind_ne F.cmpSplit_ne (I.type.andThen (PySem.W.looks_mroIn X hm)) (F.cmpArgs_ne _ _) ?_))))
    obtain ⟨hp, g, d, t, os⟩ := s
    refine ne_entry (A := A.in1) hu2 X I hs hf (wpAny_mono hcall (fun v s' hv => ?_) fun _ _ e => e)
    obtain ⟨b, rfl, hq⟩ := hv
    first | exact ⟨b, rfl, wpAny_pure ⟨_, rfl, hq⟩⟩ | exact ⟨b, rfl, _, rfl, hq⟩ | exact ⟨b, rfl, wpAny_pure (wpAny_pure ⟨_, rfl, hq⟩)⟩
  unfold richCompare
  simp only [oneThing_ref]
  refine wpAny_holding (wpAny_bind (wpAny_cRoomFor (Nat.lt_of_succ_lt hu) ?_))
  rw [PySem.cmpInfo_NotEq]
  dsimp only
  refine wpAny_bind (I.type.here (wpAny_bind (J.type.here ?_)))
  rw [show (Value.ref C != Value.ref C) = false from by simp]
  simp only [Bool.false_eq_true, if_false]
  refine wpAny_bind (wpAny_pure ?_)
  simp only [Bool.false_eq_true, if_false]
  refine wpAny_bind (wpAny_mono one (fun r s' z => ?_) fun _ _ e => e)
  obtain ⟨v, rfl, hq⟩ := z
  exact wpAny_pure hq
end
end HNE
namespace Eh
open PySem PySem.Spec PyProof.Rows L2
section
variable {X : Cx} {n : Nat} {f C : Addr} {fd : FuncData} {ps : List Str} {sp : Sp} {CX : CXT} {E : XK}
def rNeOwn (C : Addr) (sp : Sp) (E : XK) : R2 := fun x y H Q => ∃ a b dx dy fs gs, x = .ref a ∧ y = .ref b ∧ H a = some (.ins C dx fs) ∧ H b = some (.ins C dy gs) ∧ sp [.ref a, .ref b] H (fun v H' => ∃ k, v = .bl k ∧ Q (.bl (!k)) H') E
theorem neOwn (F : FnOk X.prog X.w X.K X.mg X.base CX n f fd ps sp) (hr : Room (n + 1) X.A) (hm : PySem.W.mroIn X.K C (.type "object") = some true) (hn : PySem.W.findIn X.K (.ref C) "__ne__" = some (some (.builtin "object.__ne__"))) (hs : PySem.W.findIn X.K (.ref C) "__eq__" = some (some (.ref f))) (hf : PySem.W.isFn X.K (.ref f) = true) (hb : Binds X.K fd ps []) (hx : Passes CX X E) :
    OpR X (compareOp .NotEq) (rNeOwn C sp E) := by
  intro pins s σ H x y v u Q I rx ry h
  obtain ⟨a, b, dx, dy, fs, gs, rfl, rfl, ha, hb', q⟩ := h
  cases rx
  cases ry
  obtain ⟨mA, J, _⟩ := ins_get I.hok ha
  obtain ⟨mB, J', _⟩ := ins_get I.hok hb'
  obtain ⟨od, J, _⟩ := J.look
  obtain ⟨od', J', _⟩ := J'.look
  have hu : X.A.units + 1 < cLine := by
    have := hr.un
    omega
  show wpAny _ _ (richCompare .NotEq _ _) _ _ _
  refine HNE.rc_ne hu hr.in1.units0 I.kIn J J' hm hn hs hf (wpAny_mono (run_own (us := [.ref a, .ref b]) (vs := [.ref a, .ref b]) F hb hx ⟨hr.in1, rfl⟩ I (.cons rfl (.cons rfl .nil)) q) (fun r s' z => ?_) fun _ _ e => e)
  obtain ⟨z, H', I', rz, k, rfl, q'⟩ := z
  cases rz
  exact ⟨k, rfl, .bl (!k), H', I', rfl, q'⟩
/-- both refs of the class, or both texts -/
def rNeRes (C : Addr) (sp : Sp) : R2 := fun x y H Q => rNeOwn C sp E0 x y H Q ∨ ∃ z z2 : Str, x = .str z ∧ y = .str z2 ∧ Q (.bl (!decide (z = z2))) H
theorem neRes (F : FnOk X.prog X.w X.K X.mg X.base CX n f fd ps sp) (hr : Room (n + 1) X.A) (hm : PySem.W.mroIn X.K C (.type "object") = some true) (hn : PySem.W.findIn X.K (.ref C) "__ne__" = some (some (.builtin "object.__ne__"))) (hs : PySem.W.findIn X.K (.ref C) "__eq__" = some (some (.ref f))) (hf : PySem.W.isFn X.K (.ref f) = true) (hb : Binds X.K fd ps []) (hx : Passes CX X E0) :
    OpR X (compareOp .NotEq) (rNeRes C sp) := by
  intro pins s σ H x y v u Q I rx ry h
  rcases h with h | ⟨z, z2, rfl, rfl, q⟩
  · exact neOwn F hr hm hn hs hf hb hx pins s σ H x y v u Q I rx ry h
  · exact op_ne pins s σ H _ _ v u Q I rx ry ⟨rfl, by rw [show decide (V.str z = V.str z2) = decide (z = z2) from decide_eq_decide.mpr ⟨fun e => by injection e, fun e => by rw [e]⟩]; exact q⟩
end
end Eh
set_option Elab.async false
set_option linter.all false
set_option maxRecDepth 100000
set_option maxHeartbeats 8000000
set_option pp.maxSteps 60
namespace Eh
open PySem PySem.Spec PyProof.Rows L2
open ClX
open LamX (TabB Tabs TabS ExtN GivesTo TTold tLam told_gives pe_lamcall lamS_by lamCx lamEnv)
/-- the dice go on; all else stays, but the tables -/
structure GrN (T : List (Addr × Str)) (d : Addr) (H H' : Hp) : Prop where
  dice : D3 H' d
  keep : ∀ a o, a ≠ d → H a = some o → (∀ ps, o ≠ .tbl ps) → H' a = some o
  tabs : Tabs T H'
theorem kb_gr {d : Addr} {H H' : Hp} (D : D3 H d) (g : Gr d H H') : ∃ us, Kb d us H H' := by
  obtain ⟨x, b, c, e⟩ := id D
  exact ⟨_, e, g.keep, g.tk D⟩
theorem GrN.same {T : List (Addr × Str)} {d : Addr} {H0 H H' : Hp} (g : GrN T d H0 H) (s : Same H H') : GrN T d H0 H' := ⟨(same_gr g.dice s).dice, fun a o n e k => s _ _ (g.keep a o n e k), g.tabs.ext s⟩
theorem GrN.ext {T : List (Addr × Str)} {d : Addr} {H0 H H' : Hp} (g : GrN T d H0 H) (x : ExtN H H') (t : Tabs T H') : GrN T d H0 H' := by
  obtain ⟨a, b, c, e⟩ := g.dice
  exact ⟨⟨a, b, c, x _ _ e fun ps z => by cases z⟩, fun a o n e k => x _ _ (g.keep a o n e k) k, t⟩
theorem GrN.gr {T : List (Addr × Str)} {d : Addr} {H0 H H' : Hp} (g : GrN T d H0 H) (r : Gr d H H') : GrN T d H0 H' := by
  obtain ⟨us, kb⟩ := kb_gr g.dice r
  exact ⟨r.dice, fun a o n e k => r.keep _ _ n (g.keep a o n e k), tabs_kb g.tabs kb⟩
theorem Two.gr {K : PySem.W.Frag} {C d : Addr} {H H' : Hp} {a b : Addr} {v u : V} {pl ql : Pl} (t : Two K C H a b v u pl ql) (D : D3 H d) (r : Gr d H H') : Two K C H' a b v u pl ql := by
  obtain ⟨us, kb⟩ := kb_gr D r
  exact t.kb kb
section
variable {P : Program} {w : World} {K : PySem.W.Frag} {mg : Str → Option Value} {base : Heap}
theorem ins_of {C x : Addr} {H : Hp} {ns : List (Str × V)} (h : PrG K C H x ns) : ∃ dx fs, H x = some (.ins C dx fs) := by
  obtain ⟨dx, p, xs, e1, _⟩ := h
  exact ⟨dx, _, e1⟩
theorem ne_same {C x y : Addr} {H : Hp} {ns : List (Str × V)} {Q : VK} {E : XK} (h : PrG K C H x ns) (k : PrG K C H y ns) (q : Q (.bl false) H) : rNeOwn C (spEqA K C) E (.ref x) (.ref y) H Q := by
  obtain ⟨dx, fx, ex⟩ := ins_of h
  obtain ⟨dy, fy, ey⟩ := ins_of k
  exact ⟨x, y, dx, dy, fx, fy, rfl, rfl, ex, ey, .inl ⟨x, y, ns, ns, rfl, h, k, _, rfl, by rw [decide_eq_true rfl]; exact q⟩⟩
theorem res_ne {C : Addr} {H : Hp} {v u : V} {ns : List (Str × V)} {Q : VK} (h : Res K C H v ns) (k : Res K C H u ns) (q : Q (.bl false) H) : rNeRes C (spEqA K C) v u H Q := by
  rcases h with ⟨a, x, rfl, hx⟩ | ⟨a, rfl⟩
  · rcases k with ⟨_, y, rfl, hy⟩ | ⟨b, _⟩
    · exact .inl (ne_same hx hy q)
    · rw [a] at b
      cases b
  · rcases k with ⟨b, _⟩ | ⟨_, rfl⟩
    · rw [a] at b
      cases b
    · refine .inr ⟨_, _, rfl, rfl, ?_⟩
      rw [decide_eq_true rfl]
      exact q
end
end Eh
set_option Elab.async false
set_option linter.all false
set_option maxRecDepth 100000
set_option maxHeartbeats 4000000
namespace Zl
open PySem PySem.Spec PyProof.Rows L2
open Sem (wp)
theorem nq {a S : Nat} (h : a < S) (j : Nat) : S + 1 + j ≠ a := by omega
theorem nt {a S T : Nat} (h : a < S) (h2 : S < T) : T ≠ a := by omega
end Zl
set_option Elab.async false
set_option linter.all false
set_option maxRecDepth 100000
set_option maxHeartbeats 4000000
namespace Zl
open PySem PySem.Spec PyProof.Rows L2
open Sem (wp)
/-- pairs laid one behind the other from B on -/
def prL : Hp → Addr → List (V × V) → Hp
  | H, _, [] => H
  | H, B, (x, y) :: r => prL (upd H B (.tup [x, y])) (B + 1) r
section
variable {X : Cx} {pins : List (Addr × Obj)} {σ : L2.St} {h' : Heap}
theorem lay : ∀ (zs : List (V × V)) (B : Nat) (H : Hp) (s : Shared), Inv X pins σ H s → (∀ b o, s.heap.get? b = some o → h'.get? b = some o) → (∀ b : Nat, B ≤ b → s.heap.get? b = none ∧ H b = none) →
    (∀ j x y, zs[j]? = some (x, y) → ∃ u v, RelV x u ∧ RelV y v ∧ IsPair h' (B + j) u v) →
    ∃ G : Heap, (∀ b o, G.get? b = some o → h'.get? b = some o) ∧ (∀ b : Nat, b < B → s.heap.get? b = none → G.get? b = none) ∧ Inv X pins σ (prL H B zs) { s with heap := G }
  | [], B, H, s, I, k, n, a => ⟨s.heap, k, fun _ _ e => e, I⟩
  | (x, y) :: r, B, H, s, I, k, n, a => by
    obtain ⟨u, v, ru, rv, hT⟩ := a 0 x y rfl
    obtain ⟨G, g1, g2⟩ := restrict h' fun b => decide ((s.heap.get? b).isSome = true ∨ b = B)
    have gk : ∀ b o, s.heap.get? b = some o → G.get? b = some o := fun b o e => by
      rw [g1 b (decide_eq_true (.inl (by rw [e]; rfl)))]
      exact k b o e
    have gs : ∀ b o, G.get? b = some o → h'.get? b = some o := fun b o e => by
      by_cases hb : (s.heap.get? b).isSome = true ∨ b = B
      · rw [g1 b (decide_eq_true hb)] at e; exact e
      · rw [g2 b (decide_eq_false hb)] at e; cases e
    have gn : ∀ b, s.heap.get? b = none → b ≠ B → G.get? b = none := fun b e hb => g2 b (decide_eq_false fun z => by
      rcases z with z | z
      · rw [e] at z; cases z
      · exact hb z)
    have hT2 : G.get? B = some { cls := .type "tuple", data := .seq #[u, v] } := by
      rw [g1 B (decide_eq_true (.inr rfl))]
      exact hT
    have new : ObjOk X.prog X.w (upd H B (.tup [x, y])) G B (.tup [x, y]) :=
      ⟨by show 2 ≤ sizeLine; decide, [u, v], .cons ru (.cons rv .nil), ⟨_, hT2, rfl, _, rfl⟩⟩
    have I1 : Inv X pins σ (upd H B (.tup [x, y])) { s with heap := G } := I.laidN (t' := s.toks) gk (n B (Nat.le_refl _)).1 (n B (Nat.le_refl _)).2 new
    obtain ⟨G2, q1, q2, q3⟩ := lay r (B + 1) (upd H B (.tup [x, y])) { s with heap := G } I1 gs (fun b hb => ⟨gn b (n b (by omega)).1 (Nat.ne_of_gt hb), by rw [upd_ne (Nat.ne_of_gt hb)]; exact (n b (by omega)).2⟩)
      (fun j x' y' e => by
        obtain ⟨u', v', r1, r2, r3⟩ := a (j + 1) x' y' (by simpa using e)
        exact ⟨u', v', r1, r2, by rw [Nat.add_right_comm]; exact r3⟩)
    exact ⟨G2, q1, fun b hb e => q2 b (by omega) (gn b e (Nat.ne_of_lt hb)), q3⟩
end
theorem vals_refs : ∀ (l : List Nat), Vals (l.map fun a => V.ref a) (l.map fun a => Value.ref a)
  | [] => .nil
  | a :: l => .cons rfl (vals_refs l)
end Zl
set_option Elab.async false
set_option linter.all false
set_option maxRecDepth 100000
set_option maxHeartbeats 4000000
namespace Eh
open PySem PySem.Spec PyProof.Rows L2
def look (fs ws : List Str) (z : Str) : Str := match (fs.zip ws).find? fun p => decide (p.1 = z) with | some p => p.2 | none => z
end Eh
set_option Elab.async false
set_option linter.all false
set_option maxRecDepth 100000
set_option maxHeartbeats 4000000
namespace Eh
open PySem PySem.Spec PyProof.Rows L2
open Zl
/-- the pairs made so far, what stood stays -/
def PrsR (H0 : Hp) (kvs : List (Key × V)) (j : Nat) (acc : List V) (H : Hp) : Prop := ∃ ps : List Addr, acc = ps.map V.ref ∧ Paired (fun p kv => H p = some (.tup [kV kv.1, kv.2])) ps (kvs.take j) ∧ Same H0 H
theorem PrsR.step {H0 H : Hp} {D T : Addr} {acc : List V} {kvs : List (Key × V)} {j : Nat} {k : Key} {v : V} (r : PrsR H0 kvs j acc H) (hk : kvs[j]? = some (k, v)) (nT : H T = none) (eD : H D = some (.lst acc)) (nD : H0 D = none) :
    PrsR H0 kvs (j + 1) (acc ++ [.ref T]) (upd (upd H T (.tup [kV k, v])) D (.lst (acc ++ [.ref T]))) := by
  obtain ⟨ps, ea, hp, s⟩ := r
  have hTD : T ≠ D := fun x => by rw [x, eD] at nT; cases nT
  refine ⟨ps ++ [T], by rw [List.map_append, ← ea]; rfl, ?_, same_put (s.trans (same_new nT)) nD⟩
  rw [List.take_add_one, hk]
  refine Paired.snoc (Paired.mono (fun p kv e => ?_) hp) ?_
  · have h1 : p ≠ D := fun x => by rw [x, eD] at e; cases e
    rw [upd_ne h1, upd_ne (ne_of_none e nT)]
    exact e
  · rw [upd_ne hTD, upd_same]
/-- behind the comprehension: what dict(..) asks -/
theorem PrsR.done {K : PySem.W.Frag} {H0 H : Hp} {acc : List V} {kvs : List (Key × V)} {n : Nat} (r : PrsR H0 kvs n acc H) (h : kvs.length ≤ n) : ∃ ps : List Addr, acc = ps.map V.ref ∧ Paired (fun p kv => SqT K H p [kV kv.1, kv.2]) ps kvs ∧ Same H0 H := by
  obtain ⟨ps, ea, hp, s⟩ := r
  rw [List.take_of_length_le h] at hp
  exact ⟨ps, ea, Paired.mono (fun p kv e => SqT.of e) hp, s⟩
end Eh
set_option Elab.async false
set_option linter.all false
set_option maxRecDepth 100000
set_option maxHeartbeats 4000000
namespace Eh
open PySem PySem.Spec PyProof.Rows L2
theorem Nm.perm {H : Hp} {d : Addr} {ρ : Str → Str} {fs gs : List Str} (h : Nm H d ρ fs) (p : gs.Perm fs) : Nm H d ρ gs := by
  obtain ⟨⟨kvs, a, b, c⟩, o⟩ := h
  exact ⟨⟨kvs, a, b.trans p.length_eq.symm, fun z hz => c z (p.mem_iff.mp hz)⟩, fun z hz => o z (p.mem_iff.mp hz)⟩
end Eh
set_option Elab.async false
set_option linter.all false
set_option maxRecDepth 100000
set_option Elab.async false
set_option linter.all false
set_option maxRecDepth 100000
set_option maxHeartbeats 8000000
set_option pp.maxSteps 200
namespace Eh
open PySem PySem.Spec PyProof.Rows L2
open ClX Zl
open LamX (TabB Tabs TabS ExtN)
section
variable {P : Program} {w : World} {K : PySem.W.Frag} {mg : Str → Option Value} {base : Heap}
theorem GrN.tk {T : List (Addr × Str)} {d : Addr} {H H' : Hp} (r : GrN T d H H') (D : D3 H d) : Tk H H' := fun a xs h => by
  obtain ⟨x, b, c, e⟩ := D
  rcases h with h | ⟨o, h⟩
  · exact .inl (r.keep a _ (fun z => by rw [z, e] at h; cases h) h fun ps z => by cases z)
  · exact .inr ⟨o, r.keep a _ (fun z => by rw [z, e] at h; cases h) h fun ps z => by cases z⟩
end
end Eh
set_option Elab.async false
set_option linter.all false
set_option maxRecDepth 100000
set_option maxHeartbeats 8000000
set_option pp.maxSteps 200
namespace Eh
open PySem PySem.Spec PyProof.Rows L2
open ClX Zl
open LamX (TabB Tabs TabS ExtN)
def nokB (n : Str × V) : Bool := nodeAB n.1 n.2 && (match n.2 with | .str z => uni6.contains z | _ => true)
theorem nokB_ok {ns : List (Str × V)} (h : ns.all nokB = true) : ∀ n ∈ ns, NOk n := fun n hn => by
  have := List.all_eq_true.mp h n hn
  unfold nokB at this
  rw [Bool.and_eq_true] at this
  refine ⟨this.1, fun z e => ?_⟩
  have h2 := this.2
  rw [e] at h2
  simpa using h2
section
variable {P : Program} {w : World} {K : PySem.W.Frag} {mg : Str → Option Value} {base : Heap}
theorem seq_ext {H H' : Hp} {a : Addr} {xs : List V} (e : ExtN H H') (h : SqL K H a xs) : SqL K H' a xs := by
  rcases h with (h | ⟨o, h⟩) | h
  · exact .inl (.inl (e _ _ h fun ps z => by cases z))
  · exact .inl (.inr ⟨o, e _ _ h fun ps z => by cases z⟩)
  · exact .inr h
theorem free_ext {H H' : Hp} {d : Addr} (e : ExtN H H') (n : H' d = none) : H d = none ∨ ∃ ps, H d = some (.tbl ps) := by
  cases h : H d with
  | none => exact .inl rfl
  | some o =>
    by_cases ho : ∃ ps, o = .tbl ps
    · obtain ⟨ps, rfl⟩ := ho
      exact .inr ⟨ps, rfl⟩
    · have := e d o h fun ps z => ho ⟨ps, z⟩
      rw [n] at this
      cases this
theorem ext_gr {T : List (Addr × Str)} {H H4 H5 : Hp} {d : Addr} (n : H d = none ∨ ∃ ps, H d = some (.tbl ps)) (e : ExtN H H4) (g : GrN T d H4 H5) : ExtN H H5 := fun b o h k => by
  refine g.keep b o (fun z => ?_) (e b o h k) k
  rw [z] at h
  rcases n with n | ⟨ps, n⟩
  · rw [n] at h; cases h
  · rw [n] at h; cases h; exact k ps rfl
end
end Eh
set_option Elab.async false
set_option linter.all false
set_option maxRecDepth 100000
set_option maxHeartbeats 8000000
namespace Eh
open PySem PySem.Spec PyProof.Rows L2
open LamX (TabB Tabs TabS ExtN law_callTs LawAtS)
/-- a def's code object and its table, which is empty yet -/
def TabsTold (K : PySem.W.Frag) (h : Heap) (x : Str) : Prop := ∀ (f c P : Addr) (o : Obj) (fd : FuncData) (oc : Value) (dd : Option Addr) (vs : Array Value) (sl : Array (Option Value)), PySem.W.nsIn K mainGlobals x = some (some (.ref f)) → K.lookup f = some o → o.data = .func fd → fd.code = .ref c → K.lookup c = some ⟨oc, dd, .fields vs, sl⟩ → vs[11]? = some (.ref P) →
  PySem.W.CodeHd h c P ∧ h.get? P = some { cls := .none, data := .fields #[] }
theorem walk_tab {l : PySem.W.OpenLaw} {n k : Nat} {q : Program} {loose : List Str} {XP : (Str → Option Value) → Heap → Prop} {YP : World → Heap → Prop} {d : DefRec} {K : Params → PySem.W.Frag} {CX : World → CXT} {x : Str}
    (hn : l.most = some n) (hn2 : n ≤ sizeLine) (hdf : d.params.defaults = []) (hr : Room k callerA) (hY : ∀ (w : World) (h : Heap), YP w h → (K w.params).In h)
    (F : ∀ (w : World) (mg : Str → Option Value) (fa : Addr) (h : Heap), (K w.params).In h → h.Ns mainGlobals mg → mg d.name = some (.ref fa) → (∀ y : Str, ((recsOf q).any fun e => e.name == y) = true → TabsTold (K w.params) h y) → LawAtS l w (K w.params) (CX w) k n x mg fa h)
    (hCX : ∀ (w : World) (H : Hp) (s : Shared) (e : Value) (s' : Shared), CX w [] H s (fun _ _ _ => False) e s' → False) :
    PySem.W.WalkO q loose XP YP l.row.toRowW d [] (fun f vs => PySem.call f vs) := by
  refine Att.attach_callB hn hdf fun w s₀ s₁ mg mb fa o pm cd doc a vs ns G Y ho hd hcd hmg hobj hints hlen hbits hg => ?_
  have KX := hY w _ Y
  have own : ∀ y : Str, ((recsOf q).any fun e => e.name == y) = true → TabsTold (K w.params) s₁.heap y := fun y hrec f c P o1 fd1 oc dd vs1 sl k0 k1 k2 k3 k4 k5 => by
    obtain ⟨dL, hm, hn1⟩ := List.any_eq_true.mp hrec
    have hn2 : dL.name = y := beq_iff_eq.mp hn1
    obtain ⟨a', o', fd', c', P', h1, h2, h3, h4, h5, h6⟩ := G.T.tab dL hm
    rw [hn2, PySem.W.mg_of KX G.T.g k0] at h1
    cases h1
    have g1 := KX _ _ k1
    rw [g1] at h2
    cases h2
    rw [k2] at h3
    cases h3
    rw [k3] at h4
    cases h4
    have ch := PySem.W.CodeHd.of h5 h6
    obtain ⟨⟨oc', vc, e1, _, e3, e4⟩, hP⟩ := h6
    have g2 := KX _ _ k4
    rw [g2] at e1
    cases e1
    cases e3
    rw [k5] at e4
    cases e4
    exact ⟨ch, hP⟩
  obtain ⟨fd, cs, sp, hT, nT, C, hb, hsp, hF⟩ := F w mg fa _ KX G.T.g hmg own
  exact law_callTs KX G.T.g G.T.b G.T.builtins G.T.nolimit hg hT nT C G.T.bmain hobj hints (Nat.le_trans hlen hn2) hr hF hb (fun H hH hS => hsp H a ns hlen hbits hH hS) fun H e s' => hCX w H s₁ e s'
end Eh
set_option Elab.async false
set_option linter.all false
set_option maxRecDepth 100000
set_option maxHeartbeats 4000000
namespace Eh
open PySem PySem.Spec PyProof.Rows L2
abbrev TKey := List Key × Addr × V
def mergeT (kvs : List (List Key × V)) (L : List TKey) : List (List Key × V) := L.foldl (fun acc x => putK acc x.1 x.2.2) kvs
theorem mergeT_len : ∀ (L : List TKey) (kvs : List (List Key × V)), (mergeT kvs L).length ≤ kvs.length + L.length
  | [], kvs => Nat.le_refl _
  | x :: L, kvs => by
    have a := mergeT_len L (putK kvs x.1 x.2.2)
    have b := length_putK kvs x.1 x.2.2
    rw [List.length_cons]
    show (mergeT (putK kvs x.1 x.2.2) L).length ≤ _
    omega
/-- the entries as the heap has them -/
abbrev LRel : List TKey → List (List Key × Addr × Value) → Prop := Paired fun p q => p.1 = q.1 ∧ p.2.1 = q.2.1 ∧ RelV p.2.2 q.2.2
theorem KT.mergeL {H : Hp} : ∀ {L : List TKey} {rs : List (List Key × Addr × Value)} {kvs : List (List Key × V)} {xs : List (List Key × Addr × Value)}, LRel L rs → (∀ x ∈ L, H x.2.1 = some (.tup (x.1.map kV))) → KT H kvs xs → KT H (mergeT kvs L) (storedAllH xs rs)
  | [], _, kvs, xs, r, _, k => by cases r; exact k
  | x :: L, _, kvs, xs, r, h, k => by
    cases r with
    | cons a t =>
      rename_i q rs
      obtain ⟨e1, e2, e3⟩ := a
      have k2 := k.put x.1 (h x List.mem_cons_self) e3
      rw [e2, e1] at k2
      have := KT.mergeL t (fun y hy => h y (List.mem_cons_of_mem _ hy)) k2
      show KT H (mergeT (putK kvs x.1 x.2.2) L) (storedAllH (storedH xs q.1 q.2.1 q.2.2) rs)
      rw [e1]
      exact this
theorem lrel_len {L : List TKey} {rs : List (List Key × Addr × Value)} (r : LRel L rs) : L.length = rs.length := Paired.length r
/-- what a new dict of such keys asks -/
theorem dt_obj {P : Program} {w : World} {H : Hp} {h' : Heap} {a : Addr} {kvs : List (List Key × V)} {xs : List (List Key × Addr × Value)} (hl : kvs.length ≤ sizeLine) (hd : (a == sysModules) = false) (r : KT H kvs xs) (dd : h'.DictOfH (tupleKind (mixKind P w)) a xs) : ObjOk P w H h' a (.dT kvs) := by
  obtain ⟨q, es, ep, hq, h2, h3, h4, _, h5⟩ := dd
  exact ⟨hl, hd, xs, r, q, es, ep, hq, h2, h3, h4, h5⟩
section
variable {X : Cx}
/-- {t: v, ..}, the keys tuples -/
def tDispT (trs : List (TE × TE)) : TE := fun σ H Q => ∀ p, H p = none → tPairs trs σ (upd H p (.dT [])) fun ps H2 => H2 p = some (.dT []) ∧ ∃ L : List TKey, ps = L.map (fun x => (.ref x.2.1, x.2.2)) ∧ (∀ x ∈ L, H2 x.2.1 = some (.tup (x.1.map kV))) ∧ L.length ≤ 15 ∧ Q (.ref p) (upd H2 p (.dT (mergeT [] L)))
theorem carriesT {P : Program} {w : World} {H : Hp} {h : Heap} (ok : HOk P w H h) : ∀ {L : List TKey} {ws : List (Value × Value)}, VV (L.map fun x => (.ref x.2.1, x.2.2)) ws → (∀ x ∈ L, H x.2.1 = some (.tup (x.1.map kV))) → ∃ rs, CarriesH (tupleKind (mixKind P w)) h ws rs ∧ LRel L rs
  | [], _, r, _ => by rw [List.map_nil] at r; cases r; exact ⟨[], True.intro, .nil⟩
  | x :: L, _, r, hx => by
    rw [List.map_cons] at r
    cases r with
    | @cons a b as bs h t =>
      obtain ⟨rs, c, q⟩ := carriesT ok t fun y hy => hx y (List.mem_cons_of_mem _ hy)
      obtain ⟨b1, b2⟩ := b
      obtain rfl : b1 = Value.ref x.2.1 := h.1
      exact ⟨(x.1, x.2.1, b2) :: rs, ⟨rfl, rfl, key_of ok (hx x List.mem_cons_self), c⟩, .cons ⟨rfl, rfl, h.2⟩ q⟩
theorem pe_dispT {pos : Pos} {keys : List (Option Expr)} {values : List Expr} {trs : List (TE × TE)} (hu : X.A.units + 1 < cLine) (h : PPs X pos keys values trs) (hall : keys.all (·.isSome) = true) (hl : keys.length = values.length) (h0 : keys ≠ [])
    (h15 : keys.length ≤ 15) : PE X (.Dict keys values pos) (tDispT trs) := by
  refine ⟨fun pins s σ H Q I q => ?_⟩
  have new := I.hok.fresh (Nat.le_refl s.heap.objs.size)
  have I1 := I.laid (a := s.heap.objs.size) (o := .dT []) (h' := s.heap.push { cls := .type "dict", data := .dict #[] }) (t' := s.toks) (fun _ _ q => Heap.get?_push_of_some _ q) (Nat.le_refl _) (dt_empty s.heap I.big)
  have many := pairTrees_length keys values X.env pos hall hl
  rw [arm_eval_Dict, zip_pairTrees keys values X.env pos hall hl, dictDisplay_pairs (pairTrees keys values X.env pos) (fun e => h0 (List.length_eq_zero_iff.mp (by rw [← many, e]; rfl))) (by omega)]
  refine wpAny_bind (wpAny_standAt (wpAny_bind (wpAny_subDictH (knd := tupleKind (mixKind X.prog X.w)) (Q := fun d s' => wpAny (model X.prog X.w) X.A (pure (Value.ref d)) (EP X pins σ Q) X.xe s') (by show X.A.units < cLine; omega) (by rw [many]; exact h15) ?_)))
  refine thn (h.run pins _ σ _ _ I1 (q _ new)) fun ws s2 ⟨ps, H2, I2, rel, e, L, ep, hx, lk, q2⟩ => ?_
  subst ep
  obtain ⟨rs, c, rk⟩ := carriesT (P := X.prog) (w := X.w) I2.hok rel hx
  obtain ⟨z, hd, xs0, r0, dd⟩ := dt_of I2.hok e
  cases r0
  refine ⟨rs, c, dd, fun h' tk dd' hs => wpAny_pure ⟨.ref s.heap.objs.size, _, ?_, rfl, q2⟩⟩
  have hz : (mergeT [] L).length ≤ sizeLine := by
    have h1 := mergeT_len L []
    rw [List.length_nil] at h1
    rw [sizeLine_eq]; omega
  have he : ∃ q, h'.get? s.heap.objs.size = some q := let ⟨q, _, _, hq, _⟩ := dd'; ⟨q, hq⟩
  refine d_write (t' := tk) I2 (by rw [e]; exact True.intro) hs he (dt_obj hz hd ((KT.mergeL rk hx .nil).keeps fun b ys eb => ?_) dd')
  rw [upd_ne (fun w => by rw [w, e] at eb; cases eb)]
  exact eb
/-- d.update(e), both with tuples as keys -/
def rDUpdT : V → List V → Hp → VK → Prop := fun x vs H Q => ∃ (a b : Addr) (kvs more : List (List Key × V)), x = .ref a ∧ vs = [.ref b] ∧ a ≠ b ∧ H a = some (.dT kvs) ∧ H b = some (.dT more) ∧ kvs ≠ [] ∧ kvs.length + more.length ≤ sizeLine ∧
  ∀ L : List TKey, L.map (fun x => (x.1, x.2.2)) = more → Q .non (upd H a (.dT (mergeT kvs L)))
theorem kt_split {H : Hp} : ∀ {kvs : List (List Key × V)} {xs : List (List Key × Addr × Value)}, KT H kvs xs → ∃ L : List TKey, L.map (fun x => (x.1, x.2.2)) = kvs ∧ (∀ x ∈ L, H x.2.1 = some (.tup (x.1.map kV))) ∧ LRel L xs
  | _, _, .nil => ⟨[], rfl, fun x h => (nomatch h), .nil⟩
  | _, _, .cons (a := p) (b := q) h t => by
    obtain ⟨L, e, hx, r⟩ := kt_split t
    obtain ⟨h1, h2, h3⟩ := h
    refine ⟨(p.1, q.2.1, p.2) :: L, by rw [List.map_cons, e], fun x hm => ?_, .cons ⟨h1, rfl, h3⟩ r⟩
    rcases List.mem_cons.mp hm with rfl | hm
    · exact h2
    · exact hx x hm
theorem mtd_updateT (hu : X.A.units + 2 < cLine) : MtR X "dict.update" rDUpdT := by
  intro pins s σ H x vs v us Q I rx rv h
  obtain ⟨a, b, kvs, more, rfl, rfl, hab, ea, eb, hne, hz, q⟩ := h
  cases rx
  obtain ⟨u, rfl, ru⟩ := vals1 rv
  cases ru
  obtain ⟨z1, lo, xs, rel, dd⟩ := dt_of I.hok ea
  obtain ⟨z2, lo2, ys, rel2, dd2⟩ := dt_of I.hok eb
  obtain ⟨L, eL, hx, rL⟩ := kt_split rel2
  have lx := Paired.length rel
  have ly := Paired.length rel2
  refine call_update_dictH (knd := tupleKind (mixKind X.prog X.w)) (by show X.A.units + 1 < cLine; omega) hab lo2 dd dd2 (.inl fun e => hne ?_) (by omega) fun h' dd' _ hs => ?_
  · rw [e] at rel; cases rel; rfl
  have he : ∃ q, h'.get? a = some q := let ⟨q, _, _, hq, _⟩ := dd'; ⟨q, hq⟩
  have hl : (mergeT kvs L).length ≤ sizeLine := by
    have := mergeT_len L kvs
    have e2 : L.length = more.length := by rw [← eL, List.length_map]
    omega
  refine ⟨.non, _, d_write (t' := s.toks) I (by rw [ea]; exact True.intro) hs he (dt_obj hl lo ((KT.mergeL rL hx rel).keeps fun c yy ec => ?_) dd'), rfl, q L eL⟩
  rw [upd_ne (fun w => by rw [w, ea] at ec; cases ec)]
  exact ec
end
end Eh
set_option Elab.async false
set_option linter.all false
set_option maxRecDepth 100000
set_option maxHeartbeats 4000000
namespace Eh
open PySem PySem.Spec PyProof.Rows L2
section
variable {X : Cx}
def rDictPT (K : PySem.W.Frag) : List V → Hp → VK → Prop := fun xs H Q => ∃ (a : Addr) (ts : List Addr) (L : List TKey), xs = [.ref a] ∧ SqL K H a (ts.map V.ref) ∧ Paired (fun t (x : TKey) => SqT K H t [.ref x.2.1, x.2.2]) ts L ∧ (∀ x ∈ L, H x.2.1 = some (.tup (x.1.map kV))) ∧
  ∀ p, H p = none → Q (.ref p) (upd H p (.dT (mergeT [] L)))
theorem pairs_ofT {pins : List (Addr × Obj)} {σ : L2.St} {H : Hp} {s : Shared} (I : Inv X pins σ H s) : ∀ {ts : List Addr} {L : List TKey}, Paired (fun t (x : TKey) => SqT X.K H t [.ref x.2.1, x.2.2]) ts L →
    ∃ rs : List (List Key × Addr × Value), LRel L rs ∧ rs.length = ts.length ∧ ∀ (j : Nat) (r : List Key × Addr × Value), rs[j]? = some r → ∃ t : Addr, ts[j]? = some t ∧ IsTup s.heap t #[.ref r.2.1, r.2.2]
  | _, _, .nil => ⟨[], .nil, rfl, fun j r e => by simp at e⟩
  | _, _, .cons (a := t) (b := x) h tl => by
    obtain ⟨rs, r, hl, hp⟩ := pairs_ofT I tl
    obtain ⟨its, rv, ht, _⟩ := I.tuple h
    obtain ⟨u, y, ei, ru, ry⟩ := vals2 rv
    obtain rfl : u = Value.ref x.2.1 := ru
    subst ei
    refine ⟨(x.1, x.2.1, y) :: rs, .cons ⟨rfl, rfl, ry⟩ r, by rw [List.length_cons, List.length_cons, hl], fun j q e => ?_⟩
    cases j with
    | zero =>
      obtain rfl : (x.1, x.2.1, y) = q := Option.some.inj e
      exact ⟨t, rfl, ht⟩
    | succ j =>
      obtain ⟨b, e1, e2⟩ := hp j q (by simpa using e)
      exact ⟨b, by simpa using e1, e2⟩
theorem lrel_get {L : List TKey} {rs : List (List Key × Addr × Value)} (r : LRel L rs) : ∀ y ∈ rs, ∃ x ∈ L, x.1 = y.1 ∧ x.2.1 = y.2.1 := by
  induction r with
  | nil => intro y hy; cases hy
  | cons a t ih =>
    intro y hy
    rcases List.mem_cons.mp hy with rfl | hy
    · exact ⟨_, List.mem_cons_self, a.1, a.2.1⟩
    · obtain ⟨x, hx, e⟩ := ih y hy
      exact ⟨x, List.mem_cons_of_mem _ hx, e⟩
theorem call_dictPT {K : PySem.W.Frag} (hK : X.K = K) (hcalm : X.calm = true) (hu : X.A.units + 3 < cLine) : CallR X (.type "dict") (rDictPT K) := by
  subst hK
  intro pins s σ H xs us Q I r q
  obtain ⟨a, ts, L, rfl, hq, hp, hx, q⟩ := q
  obtain ⟨u, rfl, rx⟩ := vals1 r
  cases rx
  obtain ⟨its, rv, pl, hz⟩ := I.list hq
  have ei := refs_at rv
  subst ei
  rw [List.length_map] at hz
  obtain ⟨rs, rel, hl, hpr⟩ := pairs_ofT I hp
  obtain ⟨o, n, ho, hc, hd, hdat⟩ := pl
  let Ts : Nat → Addr := fun j => ts.getD j 0
  let ps : List (Value × Value) := rs.map fun r => (Value.ref r.2.1, r.2.2)
  have hps : ps.length = ts.length := by show (rs.map _).length = _; rw [List.length_map, hl]
  have key : ∀ y ∈ rs, (tupleKind (mixKind X.prog X.w)).is s.heap y.1 y.2.1 := fun y hy => by
    obtain ⟨x, hxm, e1, e2⟩ := lrel_get rel y hy
    rw [← e1, ← e2]
    exact key_of I.hok (hx x hxm)
  refine call_dict_pairsH (knd := tupleKind (mixKind X.prog X.w)) (ps := rs) (PairArg.list (prog := X.prog) (w := X.w) a (ts.map Value.ref).toArray Ts ps) (I.ok.hd hcalm) ?_ ⟨⟨o, n, ho, hc, hd, hdat⟩, ?_, fun j k v e => ?_⟩ ⟨?_, fun i k v e => ?_⟩ (fun h' hk x hxm => ?_) (by rw [hps]; exact hz) fun h' tk hd' k => ?_
  · show X.A.units + 1 + 1 < cLine
    omega
  · rw [hps]; simp
  · have e' : rs[j]?.map (fun r => (Value.ref r.2.1, r.2.2)) = some (k, v) := by rw [← List.getElem?_map]; exact e
    obtain ⟨r, er, e2⟩ := Option.map_eq_some_iff.mp e'
    cases e2
    obtain ⟨t, et, ht⟩ := hpr j r er
    have eT : Ts j = t := by show ts.getD j 0 = t; rw [List.getD_eq_getElem?_getD, et]; rfl
    rw [eT]
    exact ⟨by simp [et], .inl ht⟩
  · rw [hps, hl]
  · have e' : rs[i]?.map (fun r => (Value.ref r.2.1, r.2.2)) = some (k, v) := by rw [← List.getElem?_map]; exact e
    obtain ⟨r, er, e2⟩ := Option.map_eq_some_iff.mp e'
    cases e2
    exact ⟨r.1, r.2.1, er, rfl⟩
  · obtain ⟨o1, i1, n1, h1, h2, h3, h4⟩ := key x hxm
    exact ⟨o1, i1, n1, hk _ _ (Nat.ne_of_lt (Heap.lt_size h1)) (by simp) h1, h2, h3, h4⟩
  · have hm : (s.heap.objs.size == sysModules) = false := beq_eq_false_iff_ne.mpr (Nat.ne_of_gt I.big)
    have new := I.hok.fresh (Nat.le_refl s.heap.objs.size)
    have hlen : (mergeT [] L).length ≤ sizeLine := by
      refine Nat.le_trans (mergeT_len L []) ?_
      rw [List.length_nil, Nat.zero_add, lrel_len rel, hl]
      exact hz
    refine ⟨.ref s.heap.objs.size, upd H s.heap.objs.size (.dT (mergeT [] L)), I.laid (t' := tk) (fun b o e => k b o (by simp) e) (Nat.le_refl _) (dt_obj hlen hm ((KT.mergeL rel hx .nil).keeps fun b ys eb => ?_) hd'), rfl, q _ new⟩
    rw [upd_ne (ne_of_none eb new)]
    exact eb
end
end Eh
set_option Elab.async false
set_option linter.all false
set_option maxRecDepth 100000
set_option maxHeartbeats 2000000
namespace Eh
open PySem PySem.Spec PyProof.Rows L2
/-- where a path leads through nodes of some kinds: how many nodes stand ahead, and the part -/
def walkV (ks : List Str) : Pl → List V → Option (Nat × Pl)
  | p, [] => some (0, p)
  | .leaf _ _, _ :: _ => none
  | .node k ps, v :: r =>
    if (ks.contains k && idxV v (ps.length : Int)) = true then
      (match ps[(intOf v).toNat]? with
      | some q => (walkV ks q r).map fun y => (1 + (nodesAll (ps.take (intOf v).toNat)).length + y.1, y.2)
      | none => none)
    else none
theorem walkV_nil {ks : List Str} {p : Pl} : walkV ks p [] = some (0, p) := by
  cases p <;> rw [walkV]
theorem idxV_nat {v : V} {n : Nat} (h : idxV v (n : Int) = true) : ∃ i : Nat, v = .int (i : Int) ∧ i < n := by
  unfold idxV at h
  rw [Bool.and_eq_true] at h
  obtain ⟨i, rfl⟩ := intV_int h.1
  have h2 : (decide (0 ≤ i) && decide (i < (n : Int))) = true := h.2
  rw [Bool.and_eq_true, decide_eq_true_eq, decide_eq_true_eq] at h2
  refine ⟨i.toNat, ?_, by omega⟩
  rw [Int.toNat_of_nonneg h2.1]
theorem nodesAll_split {ps : List Pl} {i : Nat} {q : Pl} (h : ps[i]? = some q) : nodesAll ps = nodesAll (ps.take i) ++ (nodesOf q ++ nodesAll (ps.drop (i + 1))) := by
  have d := drop_at h
  have e : ps = ps.take i ++ q :: ps.drop (i + 1) := by rw [← d, List.take_append_drop]
  have e2 := congrArg nodesAll e
  rw [nodesAll_append, nodesAll] at e2
  exact e2
theorem walkV_node {ks : List Str} {k : Str} {ps : List Pl} {r : List V} {i : Nat} {q : Pl} (hk : ks.contains k = true) (hi : idxV (.int (i : Int)) (ps.length : Int) = true) (hq : ps[i]? = some q) :
    walkV ks (.node k ps) (.int (i : Int) :: r) = (walkV ks q r).map fun y => (1 + (nodesAll (ps.take i)).length + y.1, y.2) := by
  rw [walkV, hk, hi, if_pos (show (true && true) = true from rfl)]
  have e : (intOf (V.int (i : Int))).toNat = i := rfl
  rw [e, hq]
theorem walkV_split {ks : List Str} : ∀ {zs : List V} {pl : Pl} {o : Nat} {q : Pl}, plOk pl = true → walkV ks pl zs = some (o, q) → ∃ pre post, nodesOf pl = pre ++ (nodesOf q ++ post) ∧ pre.length = o ∧ plOk q = true
  | [], pl, o, q, h, e => by
    rw [walkV_nil] at e
    cases e
    exact ⟨[], [], by rw [List.append_nil]; rfl, rfl, h⟩
  | v :: r, .leaf k t, o, q, h, e => by
    rw [walkV] at e
    cases e
  | v :: r, .node k ps, o, q, h, e => by
    rw [walkV] at e
    split at e
    · split at e
      · rename_i q1 hq
        cases hw : walkV ks q1 r with
        | none =>
          rw [hw] at e
          cases e
        | some y =>
          obtain ⟨o1, q2⟩ := y
          rw [hw] at e
          cases e
          rw [plOk, Bool.and_eq_true] at h
          obtain ⟨pre, post, e1, e2, e3⟩ := walkV_split (plsOk_get h.2 hq) hw
          refine ⟨(k, .int (ps.length : Int)) :: (nodesAll (ps.take (intOf v).toNat) ++ pre), post ++ nodesAll (ps.drop ((intOf v).toNat + 1)), ?_, ?_, e3⟩
          · rw [nodesOf, nodesAll_split hq, e1]
            simp only [List.append_assoc, List.cons_append]
          · rw [List.length_cons, List.length_append, e2]
            omega
      · cases e
    · cases e
/-- what a value is as a path -/
inductive PathV (K : PySem.W.Frag) (H : Hp) : V → Option (List V) → Prop
  | other {v : V} : NoT H v → PathV K H v none
  | tup {t : Addr} {zs : List V} : SqT K H t zs → (∀ z ∈ zs, KindI K H z) → PathV K H (.ref t) (some zs)
def startV (ks : List Str) (pl : Pl) : Option (List V) → V
  | none => .non
  | some zs => match walkV ks pl zs with
    | some y => .int (y.1 : Int)
    | none => .non
theorem startV_none {ks : List Str} {pl : Pl} {zs : List V} (h : walkV ks pl zs = none) : startV ks pl (some zs) = .non := by
  show (match walkV ks pl zs with | some y => V.int (y.1 : Int) | none => V.non) = _
  rw [h]
theorem startV_some {ks : List Str} {pl : Pl} {zs : List V} {o : Nat} {q : Pl} (h : walkV ks pl zs = some (o, q)) : startV ks pl (some zs) = .int (o : Int) := by
  show (match walkV ks pl zs with | some y => V.int (y.1 : Int) | none => V.non) = _
  rw [h]
end Eh
set_option Elab.async false
set_option linter.all false
set_option maxRecDepth 100000
set_option maxHeartbeats 4000000
namespace Eh
open PySem PySem.Spec PyProof.Rows L2
section
variable {P : Program} {w : World} {K : PySem.W.Frag} {mg : Str → Option Value} {base : Heap}
def spAlong (K : PySem.W.Frag) : Sp := fun vs H Q _ => ∃ p xs pl v ws kp ks, vs = [.ref p, v, .ref kp] ∧ SqT K H p xs ∧ NdsAt K H xs (nodesOf pl) ∧ plOk pl = true ∧ xs.length < 1000 ∧ PathV K H v ws ∧ SqT K H kp (ks.map V.str) ∧ (∀ k : Str, ks.contains k = true → nodeKinds.contains k = true) ∧ Q (startV ks pl ws) H
/-- the first node of a tree that stands at an offset -/
theorem head_at {xs : List V} {ns : List (Str × V)} {H : Hp} {st : Nat} {q : Pl} {rest : List (Str × V)} (hN : NdsAt K H xs ns) (hd : ns.drop st = nodesOf q ++ rest) :
    ∃ a k u, xs[st]? = some (.ref a) ∧ ns[st]? = some (k, u) ∧ SqT K H a [.str k, u] ∧ (∃ more, nodesOf q = (k, u) :: more) := by
  obtain ⟨⟨k, u⟩, more, e⟩ : ∃ n more, nodesOf q = n :: more := by
    cases q with
    | leaf k u => exact ⟨_, _, by rw [nodesOf]⟩
    | node k ps => exact ⟨_, _, by rw [nodesOf]⟩
  rw [e] at hd
  have hke : ns[st]? = some (k, u) := by
    have h0 : (ns.drop st)[0]? = some (k, u) := by rw [hd]; rfl
    rw [List.getElem?_drop] at h0
    exact h0
  have hel : st < ns.length := (List.getElem?_eq_some_iff.mp hke).1
  have hx := List.getElem?_eq_getElem (show st < xs.length by rw [hN.length]; exact hel)
  obtain ⟨a, k', u', ex, hk', ha⟩ := hN.get hx
  rw [hke] at hk'
  cases hk'
  exact ⟨a, k, u, by rw [← ex]; exact hx, hke, ha, more, e⟩
theorem ok_start_along {fX fE f : Addr} {fdX fdE fd : FuncData} (F : Fun K "_start_along" "_start_along" s__start_along f fd) (T : Txt mg) (C_is_index : Cal P w K mg base 2 "is_index" fX fdX ["value", "many"] (spIndex K)) (C_end_of : Cal P w K mg base 1 "end_of" fE fdE ["nodes", "start"] (spEnd K)) :
    FnOk P w K mg base CX0 3 f fd ["nodes", "path", "kinds"] (spAlong K) := by
  refine F.ok sc__start_along (fun vs H Q E h => ?_) (fun cdv A outer s H vs Q E hr h => ?_)
  · obtain ⟨p, xs, pl, v, ws, kp, ks, rfl, _⟩ := h
    rfl
  · obtain ⟨p, xs, pl, v, ws, kp, ks, rfl, hS, hN, hok, hlen, hP, hK, hks, q⟩ := h
    have hr2 := hr.mono (j := 2) (by omega)
    have hr1 := hr.mono (j := 1) (by omega)
    refine ⟨_, (pss_cons (ps_if (pt_not (pt_val (pe_callB (isiQ (K := K) rfl) (by rfl) T.isinstance_ (by decide +kernel) (pa_cons (pv 1) (pa_cons (pe_bltn (v := .ty "tuple") (by rfl) T.tuple_ (by decide +kernel) rfl) pa_nil)))))
  (pss_one (ps_ret pe_non))
  pss_nil)
  (pss_cons (ps_set (i := 3) sc__start_along.nd rfl (.inl rfl) pe_int)
  (pss_cons (ps_for PassesOwn.never (by rfl) (pi_tup (pv 1)) (pg_name (i := 4) sc__start_along.nd rfl (.inl rfl))
  (pss_cons (ps_asg (pe_ix (ixT (K := K) rfl) (pv 0) (pv 3) (fun _ _ => rfl)) (pg_tup (by rfl) (pgs_cons (pg_name (i := 5) sc__start_along.nd rfl (.inl rfl)) (pgs_cons (pg_name (i := 6) sc__start_along.nd rfl (.inl rfl)) pgs_nil))))
  (pss_cons (ps_if (PW.pt (pw_or (pt_cmpR (niB (K := K) rfl) (pv 5) (pv 2) (by rfl)) (pw_or1 (pt_not (pt_val (pe_call C_is_index.G hr2 (by rfl) C_is_index.m C_is_index.k C_is_index.b .nil pass0 (pa_cons (pv 4) (pa_cons (pv 6) pa_nil))))))))
  (pss_one (ps_ret pe_non))
  pss_nil)
  (pss_cons (ps_set (i := 3) sc__start_along.nd rfl (.inl rfl) (pe_op op_add (pv 3) pe_int))
  (pss_one (ps_for PassesOwn.never (by rfl) (pi_range1 (by rfl) T.range_ (pa_cons (pv 4) pa_nil)) (pg_name (i := 7) sc__start_along.nd rfl (.inl rfl))
  (pss_one (ps_set (i := 3) sc__start_along.nd rfl (.inl rfl) (pe_call C_end_of.G hr1 (by rfl) C_end_of.m C_end_of.k C_end_of.b .nil pass0 (pa_cons (pv 0) (pa_cons (pv 3) pa_nil)))))))))))
  (pss_one (ps_ret (pv 3)))))), ?_⟩
    cases hP with
    | other hno =>
      obtain ⟨u, ty, hk⟩ := hno.ty (K := K)
      exact ⟨_, rfl, v, .ty "tuple", _, .type "tuple", false, rfl, .ty _, ty, hk, _, rfl, iteT q⟩
    | tup hs hkI =>
      rename_i t zs
      refine ⟨_, rfl, .ref t, .ty "tuple", _, .type "tuple", true, rfl, .ty _, ty_tup hs, kitTT, _, rfl, iteF ?_⟩
      refine ⟨_, rfl, t, rfl, ⟨_, hs⟩, for_tup (xs := zs) (fun j σ H2 => ∃ (st : Nat) (q : Pl) (rest : List (Str × V)) (x4 x5 x6 x7 : Option V), H2 = H ∧ σ = [some (.ref p), some (.ref t), some (.ref kp), some (.int (st : Int)), x4, x5, x6, x7] ∧ (nodesOf pl).drop st = nodesOf q ++ rest ∧ plOk q = true ∧ walkV ks pl zs = (walkV ks q (zs.drop j)).map fun y => (st + y.1, y.2)) ?_ (fun j σ H2 _ h => ?_) ?_ ?_⟩
      · refine ⟨0, pl, [], none, none, none, none, rfl, rfl, by rw [List.append_nil]; rfl, hok, ?_⟩
        rw [List.drop_zero]
        cases walkV ks pl zs with
        | none => rfl
        | some y => rw [Option.map_some, Nat.zero_add]
      · obtain ⟨st, q, rest, x4, x5, x6, x7, rfl, _⟩ := h
        exact hs
      · rintro j x σ H2 hx ⟨st, t1, rest, x4, x5, x6, x7, rfl, rfl, hd, hok1, hw⟩
        obtain ⟨a, k, u, hxa, hna, ha, more, hmore⟩ := head_at hN hd
        have hkx := hkI x (List.mem_of_getElem? hx)
        have hdz := drop_at hx
        refine ⟨_, rfl, _, rfl, p, xs, _, .ref a, rfl, rfl, hS, atI_nat hxa, ?_⟩
        refine ⟨a, _, rfl, ha, rfl, _, _, rfl, _, _, rfl, rfl, ?_⟩
        refine ⟨_, rfl, _, rfl, kp, _, rfl, .inr hK, rfl, flat_strs _, fun b eb => ⟨_, rfl, ?_⟩⟩
        rw [inV_strs] at eb
        cases t1 with
        | leaf k1 u1 =>
          rw [nodesOf] at hmore
          cases hmore
          have hkn : nodeKinds.contains k = false := by
            rw [plOk] at hok1
            simpa using hok1
          have eb' : b = false := by
            cases b with
            | false => rfl
            | true => exact absurd (hks k eb) (by rw [hkn]; exact Bool.false_ne_true)
          subst eb'
          rw [hdz, walkV] at hw
          rw [startV_none hw] at q
          exact iteT (iteT q)
        | node k1 ps =>
          rw [nodesOf] at hmore
          cases hmore
          cases b with
          | false =>
            rw [hdz, walkV, eb, Bool.false_and, if_neg Bool.false_ne_true] at hw
            rw [startV_none hw] at q
            exact iteT (iteT q)
          | true =>
            refine iteF ?_
            refine ⟨_, rfl, _, rfl, x, _, rfl, hkx, ⟨_, rfl, ?_⟩⟩
            cases ei : idxV x (ps.length : Int) with
            | false =>
              rw [hdz, walkV, eb, ei, Bool.and_false, if_neg Bool.false_ne_true] at hw
              rw [startV_none hw] at q
              exact iteT q
            | true =>
              refine iteF ?_
              obtain ⟨i, rfl, hi⟩ := idxV_nat ei
              have hq := List.getElem?_eq_getElem hi
              rw [hdz, walkV_node eb ei hq] at hw
              rw [plOk, Bool.and_eq_true] at hok1
              have hokq := plsOk_get hok1.2 hq
              rw [nodesOf] at hd
              have hps : ps.length < 1000 := by
                have h1 := congrArg List.length hd
                rw [List.length_drop, List.length_append, List.length_cons] at h1
                have := hN.length
                have := nodes_ge ps
                omega
              refine ⟨_, rfl, _, _, rfl, rfl, _, rfl, _, rfl, by omega, by omega, ?_⟩
              refine for_range (lo := 0) (n := i) (fun m σ H3 => ∃ (y7 : Option V), H3 = H2 ∧ σ = [some (.ref p), some (.ref t), some (.ref kp), some (.int ((st + 1 + (nodesAll (ps.take m)).length : Nat) : Int)), some (.int (i : Int)), some (.str k), some (.int (ps.length : Int)), y7]) ?_ ?_ ?_
              · refine ⟨x7, rfl, ?_⟩
                rw [List.take_zero, nodesAll]
                rfl
              · rintro m σ H3 hm ⟨y7, rfl, rfl⟩
                have hm' : m < ps.length := by omega
                have hqm := List.getElem?_eq_getElem hm'
                refine ⟨_, rfl, _, rfl, p, xs, nodesOf pl, st + 1 + (nodesAll (ps.take m)).length, ps[m], nodesAll (ps.drop (m + 1)) ++ rest, rfl, hS, hN, hlen, ?_, plsOk_get hok1.2 hqm, ?_⟩
                · have h2 := congrArg (List.drop (1 + (nodesAll (ps.take m)).length)) hd
                  rw [List.drop_drop, nodesAll_split hqm, List.cons_append, Nat.add_comm 1, List.drop_succ_cons, List.append_assoc, List.drop_left, List.append_assoc] at h2
                  rw [← h2]
                  exact congrArg (fun n => (nodesOf pl).drop n) (by omega)
                · refine ⟨some (.int (0 + ((m : Nat) : Int))), rfl, ?_⟩
                  rw [nodesAll_take hqm, List.length_append, Nat.add_assoc (st + 1)]
                  rfl
              · rintro σ H3 ⟨y7, rfl, rfl⟩
                refine ⟨st + 1 + (nodesAll (ps.take i)).length, ps[i], nodesAll (ps.drop (i + 1)) ++ rest, _, _, _, _, rfl, rfl, ?_, hokq, ?_⟩
                · have h2 := congrArg (List.drop (1 + (nodesAll (ps.take i)).length)) hd
                  rw [List.drop_drop, nodesAll_split hq, List.cons_append, Nat.add_comm 1, List.drop_succ_cons, List.append_assoc, List.drop_left, List.append_assoc] at h2
                  rw [← h2]
                  exact congrArg (fun n => (nodesOf pl).drop n) (by omega)
                · rw [hw, Option.map_map]
                  refine congrArg (fun f => Option.map f _) (funext fun y => ?_)
                  show ((st + (1 + (nodesAll (ps.take i)).length + y.1), y.2) : Nat × Pl) = (st + 1 + (nodesAll (ps.take i)).length + y.1, y.2)
                  rw [show st + (1 + (nodesAll (ps.take i)).length + y.1) = st + 1 + (nodesAll (ps.take i)).length + y.1 by omega]
      · rintro σ H2 ⟨st, t1, rest, x4, x5, x6, x7, rfl, rfl, hd, hok1, hw⟩
        rw [List.drop_length, walkV_nil] at hw
        have e0 : startV ks pl (some zs) = .int (st : Int) := startV_some hw
        rw [e0] at q
        exact ⟨_, rfl, q⟩
end
end Eh
set_option Elab.async false
set_option linter.all false
set_option maxRecDepth 100000
set_option maxHeartbeats 4000000
namespace Eh
open PySem PySem.Spec PyProof.Rows L2
theorem catA {X : Cx} {K : PySem.W.Frag} (h : X.K = K) : OpR X (binaryOp .Add) (rCatA K) := by subst h; exact op_catA
/-- t + u of any tuples, wherever the sum stands -/
theorem cat_anyW {K : PySem.W.Frag} {H : Hp} {a b : Addr} {xs ys : List V} {Q : VK} (ha : SqT K H a xs) (hb : SqT K H b ys) (hl : xs.length + ys.length < 1000000)
    (q : ∀ t H', Same H H' → SqT K H' t (xs ++ ys) → Q (.ref t) H') : rCatA K (.ref a) (.ref b) H Q := by
  refine ⟨a, b, xs, ys, rfl, rfl, ha, hb, Nat.le_of_lt (small hl), fun e => ?_, fun _ e => ?_, fun _ _ p np => ?_⟩
  · subst e
    exact q b H (Same.refl H) hb
  · subst e
    exact q a H (Same.refl H) (by rw [List.append_nil]; exact ha)
  · exact q p _ (same_new np) (SqT.of upd_same)
theorem cutN_to (xs : List V) (b : Nat) : cutV xs none (some (b : Int)) = xs.take b := by
  unfold cutV
  rw [HT.sIx_nat]
  show (xs.drop 0).take (min b xs.length - 0) = _
  rw [List.drop_zero, Nat.sub_zero]
  by_cases h : b ≤ xs.length
  · rw [Nat.min_eq_left h]
  · rw [Nat.min_eq_right (by omega), List.take_of_length_le (Nat.le_refl _), List.take_of_length_le (by omega)]
theorem cutN_from (xs : List V) (a : Nat) (h : a ≤ xs.length) : cutV xs (some (a : Int)) none = xs.drop a := by
  unfold cutV
  rw [HT.sIx_nat, Nat.min_eq_left h]
  show (xs.drop a).take (xs.length - a) = _
  exact List.take_of_length_le (by rw [List.length_drop]; exact Nat.le_refl _)
/-- t[a:b] of any tuple -/
theorem sl_mid {K : PySem.W.Frag} {H : Hp} {p : Addr} {xs : List V} {Q : VK} {a b : Nat} (h : SqT K H p xs) (ha : a ≤ xs.length) (hb : a ≤ b)
    (q : ∀ t H', Same H H' → SqT K H' t ((xs.drop a).take (b - a)) → Q (.ref t) H') : rSlA K (.ref p) (some (a : Int)) (some (b : Int)) H Q := by
  refine ⟨p, xs, rfl, h, fun hw => ?_, fun _ z nz => ?_⟩
  · rw [HT.sIx_nat, HT.sIx_nat] at hw
    refine q p H (Same.refl H) ?_
    by_cases h0 : a = 0
    · subst h0
      rw [List.drop_zero, List.take_of_length_le (by omega)]
      exact h
    · have hx : xs = [] := List.length_eq_zero_iff.mp (by omega)
      subst hx
      rw [List.drop_nil, List.take_nil]
      exact h
  · refine q z _ (same_new nz) (SqT.of ?_)
    rw [upd_same, cutD xs a b ha hb]
theorem sl_to {K : PySem.W.Frag} {H : Hp} {p : Addr} {xs : List V} {Q : VK} {b : Nat} (h : SqT K H p xs)
    (q : ∀ t H', Same H H' → SqT K H' t (xs.take b) → Q (.ref t) H') : rSlA K (.ref p) none (some (b : Int)) H Q := by
  refine ⟨p, xs, rfl, h, fun hw => ?_, fun _ z nz => ?_⟩
  · have hw := hw.2
    rw [HT.sIx_nat] at hw
    refine q p H (Same.refl H) ?_
    rw [List.take_of_length_le (by omega)]
    exact h
  · refine q z _ (same_new nz) (SqT.of ?_)
    rw [upd_same, cutN_to]
theorem sl_from {K : PySem.W.Frag} {H : Hp} {p : Addr} {xs : List V} {Q : VK} {a : Nat} (h : SqT K H p xs) (ha : a ≤ xs.length)
    (q : ∀ t H', Same H H' → SqT K H' t (xs.drop a) → Q (.ref t) H') : rSlA K (.ref p) (some (a : Int)) none H Q := by
  refine ⟨p, xs, rfl, h, fun hw => ?_, fun _ z nz => ?_⟩
  · have hw := hw.1
    rw [HT.sIx_nat] at hw
    refine q p H (Same.refl H) ?_
    by_cases h0 : a = 0
    · subst h0
      rw [List.drop_zero]
      exact h
    · have hx : xs = [] := List.length_eq_zero_iff.mp (by omega)
      subst hx
      rw [List.drop_nil]
      exact h
  · refine q z _ (same_new nz) (SqT.of ?_)
    rw [upd_same, cutN_from xs a ha]
theorem drop_len {α : Type} {ns qs rest : List α} {st : Nat} (h : ns.drop st = qs ++ rest) (hq : 0 < qs.length) : st + qs.length + rest.length = ns.length ∧ ns.drop (st + qs.length) = rest := by
  have h1 := congrArg List.length h
  rw [List.length_drop, List.length_append] at h1
  refine ⟨by omega, ?_⟩
  have h2 := congrArg (List.drop qs.length) h
  rw [List.drop_drop, List.drop_left] at h2
  exact h2
section
variable {P : Program} {w : World} {K : PySem.W.Frag} {mg : Str → Option Value} {base : Heap}
def spPartFrom (K : PySem.W.Frag) : Sp := fun vs H Q _ => ∃ p xs ns st q rest, vs = [.ref p, .int (st : Nat)] ∧ SqT K H p xs ∧ NdsAt K H xs ns ∧ xs.length < 1000 ∧ ns.drop st = nodesOf q ++ rest ∧ plOk q = true ∧
  ∀ r ys H', Same H H' → SqT K H' r ys → NdsAt K H' ys (nodesOf q) → Q (.ref r) H'
theorem ok_part_from {fE f : Addr} {fdE fd : FuncData} (F : Fun K "part_from" "part_from" s_part_from f fd) (C_end_of : Cal P w K mg base 1 "end_of" fE fdE ["nodes", "start"] (spEnd K)) :
    FnOk P w K mg base CX0 2 f fd ["nodes", "start"] (spPartFrom K) := by
  refine F.ok sc_part_from (fun vs H Q E h => ?_) (fun cdv A outer s H vs Q E hr h => ?_)
  · obtain ⟨p, xs, ns, st, q, rest, rfl, _⟩ := h
    rfl
  · obtain ⟨p, xs, ns, st, t, rest, rfl, hS, hN, hlen, hd, hok, q⟩ := h
    refine ⟨_, (pss_one (ps_ret (pe_slice (slA (K := K) rfl) (pv 0) (po_some (pv 1)) (po_some (pe_call C_end_of.G hr (by rfl) C_end_of.m C_end_of.k C_end_of.b .nil pass0 (pa_cons (pv 0) (pa_cons (pv 1) pa_nil))))))), ?_⟩
    have hl := drop_len hd (nodesOf_pos t)
    have hx := hN.length
    refine ⟨_, rfl, _, rfl, _, rfl, _, rfl, _, rfl, p, xs, ns, st, t, rest, rfl, hS, hN, hlen, hd, hok, _, rfl, ?_⟩
    refine sl_mid (a := st) (b := st + (nodesOf t).length) hS (by omega) (by omega) fun r H' s hr2 => q r _ H' s hr2 ?_
    have h2 := ((hN.tk (stk s)).drop st).take (st + (nodesOf t).length - st)
    rw [Nat.add_sub_cancel_left] at h2 ⊢
    rw [hd, List.take_left] at h2
    exact h2
def spExFrom (K : PySem.W.Frag) : Sp := fun vs H Q _ => ∃ p r xs ys ns ms st q rest, vs = [.ref p, .int (st : Nat), .ref r] ∧ SqT K H p xs ∧ NdsAt K H xs ns ∧ xs.length < 1000 ∧ SqT K H r ys ∧ NdsAt K H ys ms ∧ ys.length < 1000 ∧ ns.drop st = nodesOf q ++ rest ∧ plOk q = true ∧
  ∀ t us H', Same H H' → SqT K H' t us → NdsAt K H' us (ns.take st ++ (ms ++ rest)) → Q (.ref t) H'
theorem ok_exchanged_from {fE f : Addr} {fdE fd : FuncData} (F : Fun K "exchanged_from" "exchanged_from" s_exchanged_from f fd) (C_end_of : Cal P w K mg base 1 "end_of" fE fdE ["nodes", "start"] (spEnd K)) :
    FnOk P w K mg base CX0 2 f fd ["nodes", "start", "other"] (spExFrom K) := by
  refine F.ok sc_exchanged_from (fun vs H Q E h => ?_) (fun cdv A outer s H vs Q E hr h => ?_)
  · obtain ⟨p, r, xs, ys, ns, ms, st, q, rest, rfl, _⟩ := h
    rfl
  · obtain ⟨p, r, xs, ys, ns, ms, st, t, rest, rfl, hS, hN, hlen, hS2, hM, hlen2, hd, hok, q⟩ := h
    refine ⟨_, (pss_one (ps_ret (pe_op (catA (K := K) rfl) (pe_op (catA (K := K) rfl) (pe_slice (slA (K := K) rfl) (pv 0) po_none (po_some (pv 1))) (pv 2)) (pe_slice (slA (K := K) rfl) (pv 0) (po_some (pe_call C_end_of.G hr (by rfl) C_end_of.m C_end_of.k C_end_of.b .nil pass0 (pa_cons (pv 0) (pa_cons (pv 1) pa_nil)))) po_none)))), ?_⟩
    have hl := drop_len hd (nodesOf_pos t)
    have hx := hN.length
    have hy := hM.length
    refine ⟨_, rfl, _, rfl, _, rfl, ?_⟩
    refine sl_to hS fun a H1 s1 h1 => ?_
    have n1 := (hN.tk (stk s1)).take st
    refine ⟨_, rfl, ?_⟩
    refine cat_anyW h1 ((stk s1).seq hS2) (by rw [List.length_take]; omega) fun b H2 s2 h2 => ?_
    have s12 := s1.trans s2
    have n2 := (n1.tk (stk s2)).app (hM.tk (stk s12))
    refine ⟨_, rfl, _, rfl, _, rfl, p, xs, ns, st, t, rest, rfl, (stk s12).seq hS, hN.tk (stk s12), hlen, hd, hok, _, rfl, ?_⟩
    dsimp only [tNoPart]
    refine sl_from (a := st + (nodesOf t).length) ((stk s12).seq hS) (by omega) fun c H3 s3 h3 => ?_
    have z1 : (xs.take st).length ≤ xs.length := by rw [List.length_take]; exact Nat.min_le_right _ _
    have z2 : (xs.drop (st + (nodesOf t).length)).length ≤ xs.length := by rw [List.length_drop]; exact Nat.sub_le _ _
    refine cat_anyW ((stk s3).seq h2) h3 (by rw [List.length_append]; omega) fun d H4 s4 h4 => ?_
    refine q d _ H4 (s12.trans (s3.trans s4)) h4 ?_
    have n3 := (hN.tk (stk (s12.trans (s3.trans s4)))).drop (st + (nodesOf t).length)
    rw [hl.2] at n3
    have n5 := (n2.tk (stk (s3.trans s4))).app n3
    rw [List.append_assoc (ns.take st)] at n5
    exact n5
end
mutual
/-- the paths of a plain promise through nodes of some kinds, in order, and where they lead -/
def pathsK (ks : List Str) : Pl → List (List Nat × Nat)
  | .leaf _ _ => [([], 0)]
  | .node k ps => ([], 0) :: (if ks.contains k = true then pathsAll ks 0 1 ps else [])
def pathsAll (ks : List Str) (i off : Nat) : List Pl → List (List Nat × Nat)
  | [] => []
  | p :: ps => (pathsK ks p).map (fun y => (i :: y.1, off + y.2)) ++ pathsAll ks (i + 1) (off + (nodesOf p).length) ps
end
/-- what is still to come -/
def outP (ks : List Str) : Nat → List (List Nat × Pl) → List (List Nat × Nat)
  | _, [] => []
  | off, (pa, p) :: r => (pathsK ks p).map (fun y => (pa ++ y.1, off + y.2)) ++ outP ks (off + (nodesOf p).length) r
/-- the parts of a node as what is to come -/
def kids (pa : List Nat) (i : Nat) : List Pl → List (List Nat × Pl)
  | [] => []
  | p :: ps => (pa ++ [i], p) :: kids pa (i + 1) ps
theorem kids_snd (pa : List Nat) : ∀ (i : Nat) (ps : List Pl), (kids pa i ps).map (·.2) = ps
  | _, [] => rfl
  | i, p :: ps => by rw [kids, List.map_cons, kids_snd pa (i + 1) ps]
theorem kids_len (pa : List Nat) : ∀ (i : Nat) (ps : List Pl), (kids pa i ps).length = ps.length
  | _, [] => rfl
  | i, p :: ps => by rw [kids, List.length_cons, List.length_cons, kids_len pa (i + 1) ps]
theorem kids_fst (pa : List Nat) : ∀ (i : Nat) (ps : List Pl), (kids pa i ps).map (·.1) = (List.range' i ps.length).map fun j => pa ++ [j]
  | _, [] => rfl
  | i, p :: ps => by rw [kids, List.map_cons, List.length_cons, List.range'_succ, List.map_cons, kids_fst pa (i + 1) ps]
theorem outP_kids (ks : List Str) (pa : List Nat) : ∀ (ps : List Pl) (i off : Nat) (r : List (List Nat × Pl)) (o0 : Nat),
    outP ks (o0 + off) (kids pa i ps ++ r) = (pathsAll ks i off ps).map (fun y => (pa ++ y.1, o0 + y.2)) ++ outP ks (o0 + off + (nodesAll ps).length) r
  | [], i, off, r, o0 => by
    rw [kids, pathsAll, nodesAll]
    rfl
  | p :: ps, i, off, r, o0 => by
    have ih := outP_kids ks pa ps (i + 1) (off + (nodesOf p).length) r o0
    rw [kids, List.cons_append, outP, Nat.add_assoc o0, ih, pathsAll, nodesAll, List.map_append, List.map_map, List.length_append, List.append_assoc, show o0 + (off + (nodesOf p).length) + (nodesAll ps).length = o0 + off + ((nodesOf p).length + (nodesAll ps).length) by omega]
    have e : (pathsK ks p).map (fun y => (pa ++ [i] ++ y.1, o0 + off + y.2)) = (pathsK ks p).map ((fun y : List Nat × Nat => (pa ++ y.1, o0 + y.2)) ∘ fun y : List Nat × Nat => (i :: y.1, off + y.2)) := List.map_congr_left fun y _ => Prod.ext (by simp) (by simp only [Function.comp]; omega)
    rw [e]
theorem outP_node {ks : List Str} {pa : List Nat} {k : Str} {ps : List Pl} {r : List (List Nat × Pl)} {st : Nat} (h : ks.contains k = true) :
    outP ks st ((pa, .node k ps) :: r) = (pa, st) :: outP ks (st + 1) (kids pa 0 ps ++ r) := by
  rw [outP, pathsK, if_pos h, outP_kids ks pa ps 0 1 r st, nodesOf, List.length_cons, List.map_cons, List.append_nil, Nat.add_zero, List.cons_append, show st + ((nodesAll ps).length + 1) = st + 1 + (nodesAll ps).length by omega]
theorem outP_other {ks : List Str} {pa : List Nat} {p : Pl} {r : List (List Nat × Pl)} {st : Nat} (h : pathsK ks p = [([], 0)]) :
    outP ks st ((pa, p) :: r) = (pa, st) :: outP ks (st + (nodesOf p).length) r := by
  rw [outP, h]
  show (pa ++ [], st + 0) :: _ = _
  rw [List.append_nil]
  rfl
theorem outP_all (ks : List Str) (p : Pl) : outP ks 0 [([], p)] = pathsK ks p := by
  rw [outP, outP, List.append_nil]
  have : (fun y : List Nat × Nat => (([] : List Nat) ++ y.1, 0 + y.2)) = id := by
    funext y
    rw [Nat.zero_add]
    rfl
  rw [this, List.map_id]
/-- how paths stand -/
inductive PthsAt (K : PySem.W.Frag) (H : Hp) : List V → List (List Nat) → Prop
  | nil : PthsAt K H [] []
  | cons {a : Addr} {ns : List Nat} {us : List V} {ps : List (List Nat)} : SqT K H a (ns.map natV) → PthsAt K H us ps → PthsAt K H (.ref a :: us) (ns :: ps)
theorem PthsAt.tk {K : PySem.W.Frag} {H H' : Hp} (t : Tk H H') : ∀ {us : List V} {ps : List (List Nat)}, PthsAt K H us ps → PthsAt K H' us ps
  | _, _, .nil => .nil
  | _, _, .cons h r => .cons (t.seq h) (r.tk t)
theorem PthsAt.length {K : PySem.W.Frag} {H : Hp} : ∀ {us : List V} {ps : List (List Nat)}, PthsAt K H us ps → us.length = ps.length
  | _, _, .nil => rfl
  | _, _, .cons _ r => by rw [List.length_cons, List.length_cons, r.length]
theorem PthsAt.app {K : PySem.W.Frag} {H : Hp} : ∀ {us vs : List V} {ps qs : List (List Nat)}, PthsAt K H us ps → PthsAt K H vs qs → PthsAt K H (us ++ vs) (ps ++ qs)
  | _, _, _, _, .nil, h => h
  | _, _, _, _, .cons a r, h => .cons a (r.app h)
theorem PthsAt.snoc {K : PySem.W.Frag} {H : Hp} {a : Addr} {ns : List Nat} {us : List V} {ps : List (List Nat)} (h : PthsAt K H us ps) (x : SqT K H a (ns.map natV)) : PthsAt K H (us ++ [.ref a]) (ps ++ [ns]) := h.app (.cons x .nil)
theorem PthsAt.last' {K : PySem.W.Frag} {H : Hp} : ∀ {us : List V} {qs : List (List Nat)}, PthsAt K H us qs → ∀ {ps : List (List Nat)} {ns : List Nat}, qs = ps ++ [ns] → ∃ us' a, us = us' ++ [.ref a] ∧ PthsAt K H us' ps ∧ SqT K H a (ns.map natV)
  | _, _, .nil, ps, ns, e => by
    have := congrArg List.length e
    simp at this
  | _, _, .cons (a := a) (us := us) h r, [], ns, e => by
    injection e with e1 e2
    subst e1 e2
    cases r
    exact ⟨[], a, rfl, .nil, h⟩
  | _, _, .cons (a := a) (us := us) h r, p :: ps, ns, e => by
    injection e with e1 e2
    subst e1
    obtain ⟨us', b, e3, h1, h2⟩ := r.last' e2
    exact ⟨.ref a :: us', b, by rw [e3]; rfl, .cons h h1, h2⟩
theorem PthsAt.last {K : PySem.W.Frag} {H : Hp} {ps : List (List Nat)} {us : List V} {ns : List Nat} (h : PthsAt K H us (ps ++ [ns])) : ∃ us' a, us = us' ++ [.ref a] ∧ PthsAt K H us' ps ∧ SqT K H a (ns.map natV) := h.last' rfl
theorem PthsAt.get {K : PySem.W.Frag} {H : Hp} : ∀ {us : List V} {ps : List (List Nat)}, PthsAt K H us ps → ∀ {i : Nat} {v : V}, us[i]? = some v → ∃ a ns, v = .ref a ∧ ps[i]? = some ns ∧ SqT K H a (ns.map natV)
  | _, _, .nil, i, v, h => by simp at h
  | _, _, .cons a _, 0, v, h => by
    cases (show some _ = some v from h)
    exact ⟨_, _, rfl, rfl, a⟩
  | _, _, .cons _ r, i + 1, v, h => r.get (i := i) h
/-- how pairs of a path and an index stand -/
inductive FndAt (K : PySem.W.Frag) (H : Hp) : List V → List (List Nat × Nat) → Prop
  | nil : FndAt K H [] []
  | cons {a b : Addr} {ns : List Nat} {o : Nat} {us : List V} {r : List (List Nat × Nat)} : SqT K H a [.ref b, natV o] → SqT K H b (ns.map natV) → FndAt K H us r → FndAt K H (.ref a :: us) ((ns, o) :: r)
theorem FndAt.tk {K : PySem.W.Frag} {H H' : Hp} (t : Tk H H') : ∀ {us : List V} {ps : List (List Nat × Nat)}, FndAt K H us ps → FndAt K H' us ps
  | _, _, .nil => .nil
  | _, _, .cons h h2 r => .cons (t.seq h) (t.seq h2) (r.tk t)
theorem FndAt.length {K : PySem.W.Frag} {H : Hp} : ∀ {us : List V} {ps : List (List Nat × Nat)}, FndAt K H us ps → us.length = ps.length
  | _, _, .nil => rfl
  | _, _, .cons _ _ r => by rw [List.length_cons, List.length_cons, r.length]
theorem FndAt.snoc {K : PySem.W.Frag} {H : Hp} {a b : Addr} {ns : List Nat} {o : Nat} (h1 : SqT K H a [.ref b, natV o]) (h2 : SqT K H b (ns.map natV)) : ∀ {us : List V} {ps : List (List Nat × Nat)}, FndAt K H us ps → FndAt K H (us ++ [.ref a]) (ps ++ [(ns, o)])
  | _, _, .nil => .cons h1 h2 .nil
  | _, _, .cons a b r => .cons a b (r.snoc h1 h2)
theorem FndAt.get {K : PySem.W.Frag} {H : Hp} : ∀ {us : List V} {ps : List (List Nat × Nat)}, FndAt K H us ps → ∀ {i : Nat} {v : V}, us[i]? = some v → ∃ a b ns o, v = .ref a ∧ ps[i]? = some (ns, o) ∧ SqT K H a [.ref b, natV o] ∧ SqT K H b (ns.map natV)
  | _, _, .nil, i, v, h => by simp at h
  | _, _, .cons a b _, 0, v, h => by
    cases (show some _ = some v from h)
    exact ⟨_, _, _, _, rfl, rfl, a, b⟩
  | _, _, .cons _ _ r, i + 1, v, h => r.get (i := i) h
end Eh
set_option Elab.async false
set_option linter.all false
set_option maxRecDepth 100000
set_option maxHeartbeats 4000000
namespace HSP
open PySem PySem.Spec PyProof.Rows PySem.SeqAt
section
variable {A : Around} {s : Shared}
theorem call_tuple_lt {prog : Program} {w : World} {E : Value → Shared → Prop} {Q : Value → Shared → Prop} {l b : Addr} {items items2 : Array Value} {e r : Nat → Bool} (hl : s.heap.IsTuple l items) (hb : s.heap.IsTuple b items2)
    (he : ∀ j (h1 : j < items.size) (h2 : j < items2.size), EqAt A.in1 s items[j] items2[j] (e j)) (hr : ∀ j (h1 : j < items.size) (h2 : j < items2.size), e j = false → RcLt A.in1 s items[j] items2[j] (r j))
    (h : Q (.bool (firstLt e r (decide (items.size < items2.size)) (List.range (min items.size items2.size)))) s) : wpAny (model prog w) A (call (.builtin "tuple.__lt__") [.ref l, .ref b]) Q E s := by
  obtain ⟨⟨cls, dd, data, sl⟩, ho, hc, n, hd⟩ := id hl
  obtain ⟨⟨cls2, dd2, data2, sl2⟩, ho2, hc2, n2, hd2⟩ := id hb
  simp only at hc hd hc2 hd2
  subst hc hd hc2 hd2
  exact call_meets F.slot_tuple_lt ⟨_, ho, rfl⟩ F.entry_tuple_lt (F.args_tuple_lt_2 _ _) (tuple_ltAt l b items items2 n n2 dd dd2 sl sl2 e r) ⟨ho, ho2, he, hr, h⟩
end
/-- the order of paths -/
def lexN : List Nat → List Nat → Bool
  | [], [] => false
  | [], _ :: _ => true
  | _ :: _, [] => false
  | a :: as, b :: bs => if a = b then lexN as bs else decide (a < b)
theorem lexN_irr : ∀ a : List Nat, lexN a a = false
  | [] => rfl
  | x :: a => by rw [lexN, if_pos rfl, lexN_irr a]
theorem lexN_asym : ∀ a b : List Nat, lexN a b = true → lexN b a = false
  | [], [], h => rfl
  | [], _ :: _, h => rfl
  | _ :: _, [], h => by cases h
  | x :: a, y :: b, h => by
    rw [lexN] at h ⊢
    by_cases e : x = y
    · subst e
      rw [if_pos rfl] at h ⊢
      exact lexN_asym a b h
    · rw [if_neg e] at h
      rw [if_neg (Ne.symm e)]
      exact decide_eq_false (by have := of_decide_eq_true h; omega)
theorem lexN_tr : ∀ a b c : List Nat, lexN b a = false → lexN c b = false → lexN c a = false
  | [], b, c, h1, h2 => by
    cases c with
    | nil => rfl
    | cons z c => rfl
  | x :: a, [], c, h1, h2 => by cases h1
  | x :: a, y :: b, [], h1, h2 => by cases h2
  | x :: a, y :: b, z :: c, h1, h2 => by
    rw [lexN] at h1 h2 ⊢
    by_cases e1 : y = x
    · subst e1
      rw [if_pos rfl] at h1
      by_cases e2 : z = y
      · subst e2
        rw [if_pos rfl] at h2 ⊢
        exact lexN_tr a b c h1 h2
      · rw [if_neg e2] at h2 ⊢
        exact h2
    · rw [if_neg e1] at h1
      have h1 := of_decide_eq_false h1
      by_cases e2 : z = y
      · subst e2
        rw [if_neg e1]
        exact decide_eq_false h1
      · rw [if_neg e2] at h2
        have h2 := of_decide_eq_false h2
        rw [if_neg (by omega)]
        exact decide_eq_false (by omega)
/-- what a value is as a path -/
def pathOf (h : Heap) (v : Value) : List Nat := match v with
  | .ref a => match h.get? a with
    | some o => match o.data with
      | .seq xs _ => xs.toList.map fun u => match u with
        | .int i _ => i.toNat
        | _ => 0
      | _ => []
    | none => []
  | _ => []
structure IsPath (h : Heap) (v : Value) (ns : List Nat) : Prop where
  at_ : ∃ a o xs n, v = .ref a ∧ h.get? a = some o ∧ o.cls = .type "tuple" ∧ o.data = .seq xs n ∧ IntsAre xs.toList (ns.map fun (i : Nat) => (i : Int))
theorem IsPath.keeps {h h' : Heap} {v : Value} {ns : List Nat} (p : IsPath h v ns) (k : ∀ b o, h.get? b = some o → o.cls = .type "tuple" → h'.get? b = some o) : IsPath h' v ns := by
  obtain ⟨a, o, xs, n, e, ho, hc, hd, hi⟩ := p.at_
  exact ⟨a, o, xs, n, e, k _ _ ho hc, hc, hd, hi⟩
theorem path_ints : ∀ {us : List Value} {ns : List Nat}, IntsAre us (ns.map fun (i : Nat) => (i : Int)) → us.map (fun u => match u with | .int i _ => i.toNat | _ => 0) = ns
  | [], [], _ => rfl
  | [], _ :: _, h => by cases h
  | _ :: _, [], h => by cases h
  | u :: us, n :: ns, h => by
    cases h with
    | cons _ _ h2 =>
      rw [List.map_cons, path_ints h2]
      rfl
theorem IsPath.path {h : Heap} {v : Value} {ns : List Nat} (p : IsPath h v ns) : pathOf h v = ns := by
  obtain ⟨a, o, xs, n, rfl, ho, hc, hd, hi⟩ := p.at_
  unfold pathOf
  simp only [ho, hd]
  exact path_ints hi
theorem firstLt_succ (e r : Nat → Bool) (fin : Bool) : ∀ l : List Nat, firstLt e r fin (l.map Nat.succ) = firstLt (fun j => e (j + 1)) (fun j => r (j + 1)) fin l
  | [] => rfl
  | j :: l => by
    rw [List.map_cons]
    by_cases h : e (j + 1) = true
    · rw [firstLt_yes h, firstLt_yes (e := fun j => e (j + 1)) h, firstLt_succ e r fin l]
    · have h := eq_false_of_ne_true h
      rw [firstLt_no h, firstLt_no (e := fun j => e (j + 1)) h]
theorem first_lex : ∀ ns ms : List Nat, firstLt (fun j => decide (ns.getD j 0 = ms.getD j 0)) (fun j => decide (ns.getD j 0 < ms.getD j 0)) (decide (ns.length < ms.length)) (List.range (min ns.length ms.length)) = lexN ns ms
  | [], [] => rfl
  | [], _ :: _ => by
    rw [List.length_nil, Nat.zero_min, List.range_zero, lexN, firstLt]
    exact decide_eq_true (Nat.succ_pos _)
  | _ :: _, [] => by
    rw [List.length_nil, Nat.min_zero, List.range_zero, lexN, firstLt]
    exact decide_eq_false (Nat.not_lt_zero _)
  | x :: a, y :: b => by
    have ih := first_lex a b
    rw [List.length_cons, List.length_cons, show min (a.length + 1) (b.length + 1) = min a.length b.length + 1 by omega, List.range_succ_eq_map, lexN]
    by_cases e : x = y
    · rw [if_pos e, firstLt_yes (by exact decide_eq_true e), firstLt_succ, ← ih]
      congr 1
      exact decide_eq_decide.mpr (by omega)
    · rw [if_neg e, firstLt_no (by exact decide_eq_false e)]
      rfl
section
variable {prog : Program} {w : World} {A : Around} {E : Value → Shared → Prop} {s : Shared}
theorem ints_at {us : List Value} {ns : List Nat} (h : IntsAre us (ns.map fun (i : Nat) => (i : Int))) : ∀ (j : Nat) (hj : j < us.length), j < ns.length ∧ ∃ t, us[j] = .int ((ns.getD j 0 : Nat) : Int) t := by
  intro j hj
  have hl : us.length = ns.length := by
    have := h.length
    rw [List.length_map] at this
    exact this
  refine ⟨by omega, ?_⟩
  obtain ⟨t, e⟩ := PyProof.Rows.IntsAre.int_at h j us[j] (List.getElem?_eq_getElem hj)
  refine ⟨t, ?_⟩
  rw [e]
  congr 1
  rw [List.getD_eq_getElem?_getD, List.getD_eq_getElem?_getD, List.getElem?_map, List.getElem?_eq_getElem (show j < ns.length by omega)]
  rfl
theorem lt_paths {u v : Value} {ns ms : List Nat} {Q : Bool → Shared → Prop} (hu : A.units + 1 < cLine) (p : IsPath s.heap u ns) (q : IsPath s.heap v ms) (h : Q (lexN ns ms) s) : wpAny (model prog w) A (keyLt' oneType' u v) Q E s := by
  obtain ⟨a, o, xs, n, rfl, ho, hc, hd, hi⟩ := p.at_
  obtain ⟨b, o2, ys, n2, rfl, ho2, hc2, hd2, hi2⟩ := q.at_
  rw [keyLt'_oneType, oneLt'_eq]
  simp only [if_true]
  have l1 : xs.size = ns.length := by
    have := hi.length
    rw [List.length_map, Array.length_toList] at this
    exact this
  have l2 : ys.size = ms.length := by
    have := hi2.length
    rw [List.length_map, Array.length_toList] at this
    exact this
  refine wpAny_bind (wpAny_cRoomFor (by omega) ?_)
  refine wpAny_bind (wpAny_callSpecialIfBound?_slot (T := "tuple") ⟨_, ho, hc⟩ F.slot_tuple_lt (call_tuple_lt (e := fun j => decide (ns.getD j 0 = ms.getD j 0)) (r := fun j => decide (ns.getD j 0 < ms.getD j 0)) ⟨_, ho, hc, _, hd⟩ ⟨_, ho2, hc2, _, hd2⟩ (fun j j1 j2 => ?_) (fun j j1 j2 hj => ?_) ?_))
  · obtain ⟨_, t, e1⟩ := ints_at hi j (by rw [Array.length_toList]; exact j1)
    obtain ⟨_, t', e2⟩ := ints_at hi2 j (by rw [Array.length_toList]; exact j2)
    rw [Array.getElem_toList] at e1 e2
    rw [e1, e2]
    have z : decide (ns.getD j 0 = ms.getD j 0) = (((ns.getD j 0 : Nat) : Int) == ((ms.getD j 0 : Nat) : Int)) := by
      by_cases q : ns.getD j 0 = ms.getD j 0
      · rw [decide_eq_true q, q]
        exact (beq_self_eq_true _).symm
      · rw [decide_eq_false q]
        exact (beq_eq_false_iff_ne.mpr fun e => q (by omega)).symm
    show EqAt _ _ _ _ (decide (ns.getD j 0 = ms.getD j 0))
    rw [z]
    exact SeqAt.EqAt.int_int _ _ _ _
  · obtain ⟨_, t, e1⟩ := ints_at hi j (by rw [Array.length_toList]; exact j1)
    obtain ⟨_, t', e2⟩ := ints_at hi2 j (by rw [Array.length_toList]; exact j2)
    rw [Array.getElem_toList] at e1 e2
    rw [e1, e2]
    have z : decide (ns.getD j 0 < ms.getD j 0) = decide (((ns.getD j 0 : Nat) : Int) < ((ms.getD j 0 : Nat) : Int)) := decide_eq_decide.mpr (by omega)
    show RcLt _ _ _ _ (decide (ns.getD j 0 < ms.getD j 0))
    rw [z]
    exact fun _ _ _ _ h => PyProof.Rows.lt_int h
  · rw [l1, l2, first_lex]
    exact wpAny_truthy_bool h
/-- the first item of a tuple -/
def firstV (h : Heap) (v : Value) : Option Value := match v with
  | .ref a => match h.get? a with
    | some o => match o.data with
      | .seq xs _ => xs[0]?
      | _ => none
    | none => none
  | _ => none
theorem first_path {M : Model} {v : Value} {ns : List Nat} {Q : Option Value → Shared → Prop} (p : IsPath s.heap v ns) (h : Q (firstV s.heap v) s) : wpAny M A (firstOfTuple' v) Q E s := by
  obtain ⟨a, o, xs, n, rfl, ho, hc, hd, hi⟩ := p.at_
  rw [PySem.W.kas_first_eq]
  refine wpAny_bind (PySem.W.Looks.here (show PySem.W.Looks M s.heap (typeOf (.ref a)) o.cls from (PySem.W.Looks.ld ho).andThen .now) ?_)
  rw [hc, if_neg (by first | decide | simp)]
  refine wpAny_bind (listItems_at ho hd (wpAny_pure ?_))
  unfold firstV at h
  simp only [ho, hd] at h
  exact h
theorem mapM_any {M : Model} {α β : Type} {f : α → Sem β} {g : α → β} : ∀ (l : List α) {Q : List β → Shared → Prop}, (∀ v ∈ l, ∀ (Q' : β → Shared → Prop), Q' (g v) s → wpAny M A (f v) Q' E s) → Q (l.map g) s → wpAny M A (l.mapM f) Q E s
  | [], _, _, h => by rw [List.mapM_nil]; exact wpAny_pure h
  | x :: l, Q, hf, h => by
    rw [List.mapM_cons]
    exact wpAny_bind (hf x (.head _) _ (wpAny_bind (mapM_any l (Q := fun bs s' => wpAny M A (pure (g x :: bs)) Q E s') (fun v hv => hf v (.tail _ hv)) (wpAny_pure h))))
theorem path_nil {h : Heap} {v : Value} (p : IsPath h v []) : firstV h v = none := by
  obtain ⟨a, o, xs, n, rfl, ho, hc, hd, hi⟩ := p.at_
  unfold firstV
  simp only [ho, hd]
  have e : xs.toList = [] := by
    cases hx : xs.toList with
    | nil => rfl
    | cons y ys =>
      rw [hx] at hi
      cases hi
  rw [← Array.getElem?_toList, e]
  rfl
theorem kind_paths {M : Model} {v₀ : Value} {vr : List Value} {Q : SortKind → Shared → Prop} (h0 : IsPath s.heap v₀ []) (hall : ∀ v ∈ v₀ :: vr, ∃ ns, IsPath s.heap v ns) (h : Q oneType' s) :
    wpAny M A (keyKind' (v₀ :: vr).toArray) Q E s := by
  rw [kat_kind_eq, List.mapM_toArray, map_eq_pure_bind]
  refine wpAny_bind (wpAny_bind (mapM_any (g := firstV s.heap) _ (fun v hv Q' hq => ?_) (wpAny_pure ?_)))
  · obtain ⟨ns, p⟩ := hall v hv
    exact first_path p hq
  · have e0 : firstV s.heap v₀ = none := path_nil h0
    rw [if_neg (by rw [List.map_cons, e0]; simp), if_neg (by rw [List.map_cons, e0]; simp)]
    rw [oneTypeOnly'_eq, List.mapM_toArray, map_eq_pure_bind]
    refine wpAny_bind (wpAny_bind (wpAny_bind (PySem.W.kas_mapM (r := Value.type "tuple") _ (fun v hv Q' hq => ?_) (wpAny_pure ?_))))
    · obtain ⟨ns, p⟩ := hall v hv
      obtain ⟨a, o, xs, n, rfl, ho, hc, hd, hi⟩ := p.at_
      refine PySem.W.Looks.here (show PySem.W.Looks M s.heap (typeOf (.ref a)) o.cls from (PySem.W.Looks.ld ho).andThen .now) ?_
      rw [hc]
      exact hq
    · have hall2 : ((List.map (fun _ => Value.type "tuple") (v₀ :: vr)).toArray.all fun x => x == Value.type "tuple") = true := by
        simp only [List.all_toArray, List.all_map, List.all_eq_true]
        intro _ _
        simp
      have hz : (List.map (fun _ => Value.type "tuple") (v₀ :: vr)).toArray[0]? = some (Value.type "tuple") := by simp
      rw [hz]
      simp only [hall2, if_true]
      exact wpAny_pure (wpAny_pure h)
end
end HSP
namespace Eh
open PySem PySem.Spec PyProof.Rows L2
section
variable {X : Cx}
inductive PthVals (h : Heap) : List Value → List (List Nat) → Prop
  | nil : PthVals h [] []
  | cons {v : Value} {ns : List Nat} {vs : List Value} {ps : List (List Nat)} : HSP.IsPath h v ns → PthVals h vs ps → PthVals h (v :: vs) (ns :: ps)
theorem PthVals.mem {h : Heap} : ∀ {vs : List Value} {ps : List (List Nat)}, PthVals h vs ps → ∀ v ∈ vs, ∃ ns ∈ ps, HSP.IsPath h v ns
  | _, _, .nil, v, hv => by cases hv
  | _, _, .cons p r, v, hv => by
    rcases List.mem_cons.mp hv with e | hv
    · subst e
      exact ⟨_, List.mem_cons_self, p⟩
    · obtain ⟨ns, m, q⟩ := r.mem v hv
      exact ⟨ns, List.mem_cons_of_mem _ m, q⟩
theorem PthVals.srt {h : Heap} : ∀ {vs : List Value} {ps : List (List Nat)}, PthVals h vs ps → ps.Pairwise (fun a b => HSP.lexN a b = true) → SrtO.Srtd (fun v u => HSP.lexN (HSP.pathOf h v) (HSP.pathOf h u)) vs
  | _, _, .nil, _ => List.Pairwise.nil
  | _, _, .cons (v := v) (ns := ns) p r, hp => by
    rw [List.pairwise_cons] at hp
    refine List.pairwise_cons.mpr ⟨fun u hu => ?_, r.srt hp.2⟩
    obtain ⟨ms, m, q⟩ := r.mem u hu
    show HSP.lexN (HSP.pathOf h u) (HSP.pathOf h v) = false
    rw [p.path, q.path]
    exact HSP.lexN_asym _ _ (hp.1 ms m)
theorem pths_back {X : Cx} {pins : List (Addr × Obj)} {σ : L2.St} {H : Hp} {s : Shared} (I : Inv X pins σ H s) : ∀ {us : List V} {ps : List (List Nat)} {its : List Value}, PthsAt X.K H us ps → Vals us its → PthVals s.heap its ps
  | _, _, _, .nil, r => by
    cases r
    exact .nil
  | _, _, _, .cons (a := a) (ns := ns) h t, r => by
    cases r with
    | cons ru rr =>
      rename_i u us'
      obtain rfl : u = Value.ref a := ru
      refine .cons ?_ (pths_back I t rr)
      obtain ⟨its, rv, ht, _⟩ := I.tuple h
      obtain ⟨o, ho, hc, n, hd⟩ := ht
      refine ⟨a, o, _, n, rfl, ho, hc, hd, ?_⟩
      have e2 : ns.map natV = (ns.map fun (i : Nat) => (i : Int)).map V.int := by
        rw [List.map_map]
        rfl
      rw [e2] at rv
      exact Vals.ints rv
end
end Eh
set_option Elab.async false
set_option linter.all false
set_option maxRecDepth 100000
set_option maxHeartbeats 4000000
namespace Eh
open PySem PySem.Spec PyProof.Rows L2
/-- a path as a key -/
def keyP (ns : List Nat) : List Key := ns.map fun (n : Nat) => (.inl (n : Int) : Key)
theorem keyP_inj : ∀ {a b : List Nat}, keyP a = keyP b → a = b
  | [], [], _ => rfl
  | [], _ :: _, h => by cases h
  | _ :: _, [], h => by cases h
  | x :: a, y :: b, h => by
    injection h with h1 h2
    have := Sum.inl.inj h1
    rw [keyP_inj h2, show x = y by omega]
theorem keyP_vals (ns : List Nat) : (keyP ns).map kV = ns.map natV := by
  unfold keyP
  rw [List.map_map]
  rfl
theorem isKeys_paths {K : PySem.W.Frag} {H : Hp} : ∀ {kvs : List (List Key × V)} {bs : List Addr} {ps : List (List Nat)}, IsKeys H kvs bs → kvs.map (·.1) = ps.map keyP → PthsAt K H (bs.map V.ref) ps
  | [], _, ps, h, e => by
    cases h
    cases ps with
    | nil => exact .nil
    | cons p ps => cases e
  | kv :: kvs, _, ps, h, e => by
    cases h with
    | cons a t =>
      cases ps with
      | nil => cases e
      | cons p ps =>
        injection e with e1 e2
        refine .cons (SqT.of ?_) (isKeys_paths t e2)
        rw [← keyP_vals, ← e1]
        exact a
section
variable {X : Cx}
def rSortD : List V → Hp → VK → Prop := fun vs H Q => ∃ (d : Addr) (kvs : List (List Key × V)) (ps : List (List Nat)), vs = [.ref d] ∧ Rd H d (.dT kvs) ∧ kvs.map (·.1) = ps.map keyP ∧ (kvs.length < 2 ∨ ps.head? = some []) ∧ ps.Pairwise (fun a b => HSP.lexN a b = true) ∧ kvs.length < 1000000 ∧
  ∀ p bs, H p = none → IsKeys H kvs bs → Q (.ref p) (upd H p (.lst (bs.map V.ref)))
theorem sortD (hc : X.calm = true) (hu : X.A.units + 64 < cLine) : CallR X (.builtin "sorted") rSortD := by
  intro pins s σ H vs us0 Q I r h
  obtain ⟨d, kvs, ps, rfl, hd, hks, h0, hsrt, hlen, q⟩ := h
  obtain ⟨u, rfl, ru⟩ := vals1 r
  cases ru
  obtain ⟨z, hs, ks, pr, o, es, ep, ho, hx, hdt, he, hn⟩ := (show ObjOk X.prog X.w H s.heap d (.dT kvs) from hd.ok I.hok)
  have l1 : es.size = ks.length := size_of_entries he
  have l2 : kvs.length = ks.length := Paired.length pr
  have hsz : es.size ≤ sizeLine := by rw [l1, ← l2]; exact z
  refine Calls.call_function_entry PyProof.Rows.kind_sorted PyProof.Rows.plain_sorted PyProof.Rows.entry_sorted (PyProof.Rows.args_sorted1 _) ?_
  unfold Builtin.«sorted»
  refine wpAny_bind (m := checkCount "sorted" 1 1 _) (wpAny_pure (wpAny_bind (PySem.W.kdu_collect (A := X.A.in1) (kdl_raw hs hx hdt) (I.ok.hd hc) ho hsz fun h' tk acc hk hacc => ?_)))
  have ea : acc.toList = (ks.map fun x => x.2.1).map Value.ref := by
    rw [List.map_map]
    have hl : acc.toList.length = ks.length := by rw [Array.length_toList, hacc.1]; exact l1
    apply List.ext_getElem?
    intro j
    rw [List.getElem?_map]
    cases hj : acc.toList[j]? with
    | none =>
      have h1 := List.getElem?_eq_none_iff.mp hj
      rw [List.getElem?_eq_none (by omega)]
      all_goals rfl
    | some v =>
      obtain ⟨en, hen, hv⟩ := hacc.2 j v (by rw [← Array.getElem?_toList]; exact hj)
      have qe := entry_at he j
      rw [hen] at qe
      cases hb : ks[j]? with
      | none =>
        rw [hb] at qe
        exact nomatch (show some en = none from qe)
      | some b =>
        rw [hb] at qe
        have e2 : en = entryOfKey (tupleKind (mixKind X.prog X.w)) b := Option.some.inj qe
        rw [hv, e2]
        all_goals rfl
  have I1 : Inv X pins σ H { s with heap := h', toks := tk } := I.kept hk
  have keys := isKeys_of pr
  have lks : (ks.map fun x => x.2.1).length = ks.length := List.length_map _
  generalize hbs : (ks.map fun x => x.2.1) = bs at keys ea lks
  have rv : Vals (bs.map V.ref) acc.toList := by rw [ea]; exact L2.vals_refs bs
  have hP : PthsAt X.K H (bs.map V.ref) ps := isKeys_paths keys hks
  have hf := pths_back I1 hP rv
  have hal : acc.toList.length = ks.length := by rw [ea, List.length_map, lks]
  generalize hits : acc.toList = its at hf rv hal ea ⊢
  have hitz : its.length ≤ sizeLine := by omega
  refine wpAny_bind (wpAny_newList ?_ hitz)
  have hoL : (h'.push (seqObj "list" its.toArray 0)).get? h'.objs.size = some (seqObj "list" its.toArray 0) := Heap.get?_push_size _ rfl
  show wpAny _ _ _ _ _ { s with heap := h'.push (seqObj "list" its.toArray 0), toks := tk }
  have O : SrtO.Swo (fun v u => HSP.lexN (HSP.pathOf h' v) (HSP.pathOf h' u)) := ⟨fun a b h => HSP.lexN_asym _ _ h, fun a b c h1 h2 => HSP.lexN_tr _ _ _ h1 h2⟩
  refine wpAny_bind (wpAny_holding (wpAny_call_entry PyProof.Rows.slot_list_sort ⟨_, hoL, rfl⟩ PyProof.Rows.entry_list_sort (SrtO.list_sort_ord (s := { s with heap := h'.push (seqObj "list" its.toArray 0), toks := tk }) (n := 0) O hoL hitz (fun h2 => ?_) fun out g1 g2 => ⟨_, rfl, ?_⟩) (PyProof.Rows.args_list_sort _)))
  · intro hp keep
    have k2 : ∀ b o, h'.get? b = some o → o.cls = .type "tuple" → hp.get? b = some o := fun b o e _ => keep b o (Nat.ne_of_lt (Heap.lt_size e)) (Heap.get?_push_of_some _ e)
    have hp' : ∀ v ∈ its, ∃ ns, HSP.IsPath hp v ns ∧ HSP.pathOf h' v = ns := fun v hv => by
      obtain ⟨ns, _, p⟩ := hf.mem v hv
      exact ⟨ns, p.keeps k2, p.path⟩
    refine ⟨oneType', fun Q E hq => ?_, fun u v hu hv => ?_⟩
    · cases hf with
      | nil => exact absurd h2 (by decide)
      | cons p r =>
        rename_i v0 ns0 vr pr2
        rcases h0 with h0 | h0
        · rw [l2, ← hal] at h0
          exact absurd h2 (by omega)
        · have e0 : ns0 = [] := Option.some.inj h0
          subst e0
          exact HSP.kind_paths (s := { s with heap := hp, toks := tk }) (p.keeps k2) (fun v hv => by
            obtain ⟨ns, p, _⟩ := hp' v hv
            exact ⟨ns, p⟩) hq
    · obtain ⟨ns, p, e1⟩ := hp' _ hu
      obtain ⟨ms, p2, e2⟩ := hp' _ hv
      refine HSP.lt_paths (s := { s with heap := hp, toks := tk }) (by show X.A.units + 1 + 1 + 1 < cLine; omega) p p2 ⟨rfl, ?_⟩
      show HSP.lexN ns ms = HSP.lexN (HSP.pathOf h' u.1) (HSP.pathOf h' v.1)
      rw [e1, e2]
  · have eo : out = its := SrtO.stb_uniq O g1 (hf.srt hsrt) g2
    subst eo
    obtain ⟨e', he'⟩ := PyProof.Rows.sortedHeap_at (vs := out) (out := out.toArray) hoL
    have hlen2 : (bs.map V.ref).length ≤ sizeLine := by rw [List.length_map, lks, ← l2]; exact z
    refine wpAny_pure ⟨_, rfl, .ref h'.objs.size, upd H h'.objs.size (.lst (bs.map V.ref)), I1.laid (t' := tk) (fun b u e => ?_) (Nat.le_refl _) (show ObjOk X.prog X.w _ _ _ (.lst (bs.map V.ref)) from ⟨hlen2, out, e', rv, he'⟩), rfl, q _ bs (I1.hok.fresh (Nat.le_refl _)) keys⟩
    have hb : b < h'.objs.size := Heap.lt_size e
    rw [PyProof.Rows.sortedHeap_old (Nat.ne_of_lt hb) (by rw [size_push']; exact Nat.lt_succ_of_lt hb)]
    exact Heap.get?_push_of_some _ e
end
end Eh
set_option Elab.async false
set_option linter.all false
set_option maxRecDepth 100000
set_option maxHeartbeats 8000000
namespace Eh
open PySem PySem.Spec PyProof.Rows L2
mutual
theorem pathsK_len {ks : List Str} : ∀ p : Pl, (pathsK ks p).length ≤ (nodesOf p).length
  | .leaf k t => by
    rw [pathsK, nodesOf]
    exact Nat.le_refl _
  | .node k ps => by
    rw [pathsK, nodesOf, List.length_cons, List.length_cons]
    split
    · have := pathsAll_len (ks := ks) ps 0 1
      omega
    · exact Nat.succ_le_succ (Nat.zero_le _)
theorem pathsAll_len {ks : List Str} : ∀ (ps : List Pl) (i off : Nat), (pathsAll ks i off ps).length ≤ (nodesAll ps).length
  | [], i, off => by
    rw [pathsAll]
    exact Nat.zero_le _
  | p :: ps, i, off => by
    rw [pathsAll, nodesAll, List.length_append, List.length_append, List.length_map]
    have := pathsK_len (ks := ks) p
    have := pathsAll_len (ks := ks) ps (i + 1) (off + (nodesOf p).length)
    omega
end
theorem pathsK_closed {ks : List Str} {k : Str} {ps : List Pl} (h : ks.contains k = false) : pathsK ks (.node k ps) = [([], 0)] := by
  rw [pathsK, if_neg (by rw [h]; exact Bool.false_ne_true)]
theorem pathsK_leaf {ks : List Str} {k : Str} {t : V} : pathsK ks (.leaf k t) = [([], 0)] := by rw [pathsK]
theorem kids_mem {pa : List Nat} {y : List Nat × Pl} : ∀ {i : Nat} {ps : List Pl}, y ∈ kids pa i ps → y.1.length = pa.length + 1 ∧ (nodesOf y.2).length ≤ (nodesAll ps).length
  | _, [], h => by
    rw [kids] at h
    cases h
  | i, p :: ps, h => by
    rw [kids] at h
    rw [nodesAll, List.length_append]
    rcases List.mem_cons.mp h with e | h
    · subst e
      refine ⟨?_, ?_⟩
      · show (pa ++ [i]).length = _
        rw [List.length_append]
        rfl
      · exact Nat.le_add_right _ _
    · have := kids_mem h
      omega
section
variable {P : Program} {w : World} {K : PySem.W.Frag} {mg : Str → Option Value} {base : Heap}
def spPathsAlong (K : PySem.W.Frag) : Sp := fun vs H Q _ => ∃ p xs pl kp ks, vs = [.ref p, .ref kp] ∧ SqT K H p xs ∧ NdsAt K H xs (nodesOf pl) ∧ plOk pl = true ∧ xs.length < 1000 ∧ SqT K H kp (ks.map V.str) ∧ (∀ k : Str, ks.contains k = true → nodeKinds.contains k = true) ∧
  ∀ l us H', Same H H' → H l = none → H' l = some (.lst us) → FndAt K H' us (pathsK ks pl) → Q (.ref l) H'
theorem ok_paths_along {fE f : Addr} {fdE fd : FuncData} (F : Fun K "_paths_along" "_paths_along" s__paths_along f fd) (T : Txt mg) (C_end_of : Cal P w K mg base 1 "end_of" fE fdE ["nodes", "start"] (spEnd K)) :
    FnOk P w K mg base CX0 2 f fd ["nodes", "kinds"] (spPathsAlong K) := by
  refine F.ok sc__paths_along (fun vs H Q E h => ?_) (fun cdv A outer s H vs Q E hr h => ?_)
  · obtain ⟨p, xs, pl, kp, ks, rfl, _⟩ := h
    rfl
  · obtain ⟨p, xs, pl, kp, ks, rfl, hS, hN, hok, hlen, hK, hks, q⟩ := h
    refine ⟨_, (pss_cons (ps_set (i := 2) sc__paths_along.nd rfl (.inl rfl) (pe_lst pa_nil))
  (pss_cons (ps_set (i := 3) sc__paths_along.nd rfl (.inl rfl) (pe_lst (pa_cons (pe_tup pa_nil) pa_nil)))
  (pss_cons (ps_set (i := 4) sc__paths_along.nd rfl (.inl rfl) pe_int)
  (pss_cons (ps_while PassesOwn.never (pt_truth (pv 3) (by intro _; rfl))
  (pss_cons (ps_set (i := 5) sc__paths_along.nd rfl (.inl rfl) (bm0K (K := K) rfl (pe_bm0 PySem.F.plainAttrs_list PySem.F.slot_list_pop PySem.F.type_list_pop mt_pop (pv 3))))
  (pss_cons (ps_asg (pe_ix (ixT (K := K) rfl) (pv 0) (pv 4) (fun _ _ => rfl)) (pg_tup (by rfl) (pgs_cons (pg_name (i := 6) sc__paths_along.nd rfl (.inl rfl)) (pgs_cons (pg_name (i := 7) sc__paths_along.nd rfl (.inl rfl)) pgs_nil))))
  (pss_cons (ps_expr (bmK (K := K) rfl (pe_bm PySem.F.plainAttrs_list PySem.F.slot_list_append PySem.F.type_list_append mt_append (pv 2) (pa_cons (pe_tup (pa_cons (pv 5) (pa_cons (pv 4) pa_nil))) pa_nil))))
  (pss_one (ps_if (pt_cmpR (inQ (K := K) rfl) (pv 6) (pv 1) (by rfl))
  (pss_cons (ps_set (i := 4) sc__paths_along.nd rfl (.inl rfl) (pe_op op_add (pv 4) pe_int))
  (pss_one (ps_for PassesOwn.never (by rfl) (pi_revR (by rfl) T.reversed_ (prg_1 (by rfl) T.range_ (pv 7))) (pg_name (i := 8) sc__paths_along.nd rfl (.inl rfl))
  (pss_one (ps_expr (bmK (K := K) rfl (pe_bm PySem.F.plainAttrs_list PySem.F.slot_list_append PySem.F.type_list_append mt_append (pv 3) (pa_cons (pe_op (catA (K := K) rfl) (pv 5) (pe_tup (pa_cons (pv 8) pa_nil))) pa_nil))))))))
  (pss_one (ps_set (i := 4) sc__paths_along.nd rfl (.inl rfl) (pe_call C_end_of.G hr (by rfl) C_end_of.m C_end_of.k C_end_of.b .nil pass0 (pa_cons (pv 0) (pa_cons (pv 4) pa_nil)))))))))))
  (pss_one (ps_ret (pv 2))))))), ?_⟩
    have hx := hN.length
    have hpl := pathsK_len (ks := ks) pl
    refine ⟨Nat.zero_le _, fun lf nf => ?_⟩
    have nfH : H lf = none := nf
    have s1 : Same H (upd H lf (.lst [])) := same_new nf
    refine ⟨Nat.zero_le _, fun t0 nt0 => ⟨lenOk 1, fun lp np => ?_⟩⟩
    have s2 := s1.trans (same_new (o := .tup []) nt0)
    have npH : H lp = none := s2.free np
    have nlp : lf ≠ lp := fun e => by
      subst e
      rw [upd_ne (fun e => by subst e; rw [upd_same] at nt0; cases nt0), upd_same] at np
      cases np
    have nft : lf ≠ t0 := fun e => by
      subst e
      rw [upd_same] at nt0
      cases nt0
    have ntp : t0 ≠ lp := fun e => by
      subst e
      rw [upd_same] at np
      cases np
    have keep : ∀ {a : Addr} {H' : Hp} {o : HO}, H a = none → Same H H' → Same H (upd H' a o) := fun {a H' o} na s b u eb => by
      rw [upd_ne (ne_of_none eb na)]
      exact s b u eb
    refine ⟨fun m σ H2 => ∃ (dn : List (List Nat × Nat)) (pend : List (List Nat × Pl)) (fs us : List V) (st : Nat) (x5 x6 x7 x8 : Option V), m = (nodesAll (pend.map (·.2))).length ∧ σ = [some (.ref p), some (.ref kp), some (.ref lf), some (.ref lp), some (.int (st : Int)), x5, x6, x7, x8] ∧ Same H H2 ∧ H2 lf = some (.lst fs) ∧ FndAt K H2 fs dn ∧ H2 lp = some (.lst us) ∧ PthsAt K H2 us (pend.map (·.1)).reverse ∧ (nodesOf pl).drop st = nodesAll (pend.map (·.2)) ∧ plsOk (pend.map (·.2)) = true ∧ dn ++ outP ks st pend = pathsK ks pl ∧ (∀ y ∈ pend, y.1.length + (nodesOf y.2).length ≤ xs.length),
      ⟨_, [], [([], pl)], [], [.ref t0], 0, none, none, none, none, rfl, rfl, keep npH s2, ?_, .nil, upd_same, ?_, ?_, ?_, ?_⟩, ?_⟩
    · rw [upd_ne nlp, upd_ne nft]
      exact upd_same
    · refine .cons (ns := []) (SqT.of ?_) .nil
      rw [upd_ne ntp]
      exact upd_same
    · show (nodesOf pl).drop 0 = nodesAll [pl]
      rw [List.drop_zero, nodesAll, nodesAll, List.append_nil]
    · show plsOk [pl] = true
      rw [plsOk, plsOk, hok]
      rfl
    · refine ⟨outP_all ks pl, fun y hy => ?_⟩
      rw [List.mem_singleton.mp hy]
      show 0 + (nodesOf pl).length ≤ _
      omega
    · rintro m σ H2 ⟨dn, pend, fs, us, st, x5, x6, x7, x8, rfl, rfl, s3, ef, hF, ep, hPt, hd, hpk, hout, hdep⟩
      refine ⟨_, rfl, _, .inl ⟨us, SqL.of ep, rfl⟩, ?_⟩
      cases pend with
      | nil =>
        rw [List.map_nil, List.reverse_nil] at hPt
        cases hPt
        rw [outP, List.append_nil] at hout
        rw [hout] at hF
        exact iteF ⟨_, rfl, q lf fs H2 s3 nfH ef hF⟩
      | cons y r =>
        obtain ⟨pa, t1⟩ := y
        rw [List.map_cons, List.reverse_cons] at hPt
        obtain ⟨us', a, rfl, hPt', haP⟩ := hPt.last
        have hd' : (nodesOf pl).drop st = nodesOf t1 ++ nodesAll (r.map (·.2)) := by
          rw [hd, List.map_cons, nodesAll]
        obtain ⟨b, k, u, hxa, hna, hb, more, hmore⟩ := head_at hN hd'
        rw [List.map_cons, plsOk, Bool.and_eq_true] at hpk
        refine iteT' (by cases us' <;> rfl) ⟨_, fun σ' H' h => h, ?_⟩
        -- the path is taken
        refine ⟨_, rfl, .inl ⟨rfl, _, SqL.of ep⟩, lp, _, .ref a, rfl, rfl, ep, ?_, ?_⟩
        · rw [List.length_append, List.length_singleton, Nat.add_sub_cancel]
          exact List.getElem?_concat_length
        rw [List.dropLast_concat]
        have k1 := Tk.put (ys := us') ep
        have ep1 : upd H2 lp (.lst us') lp = some (.lst us') := upd_same
        have ef1 : upd H2 lp (.lst us') lf = some (.lst fs) := by rw [upd_ne nlp]; exact ef
        have s4 : Same H (upd H2 lp (.lst us')) := keep npH s3
        have hF1 := hF.tk k1
        have hPt1 := hPt'.tk k1
        have haP1 := k1.seq haP
        have hb1 := (stk s4).seq hb
        have hS1 := (stk s4).seq hS
        have hK1 := (stk s4).seq hK
        generalize upd H2 lp (.lst us') = H3 at ep1 ef1 s4 hF1 hPt1 haP1 hb1 hS1 hK1 ⊢
        clear hF hPt hPt' haP hb ef ep s3 k1
        refine ⟨_, rfl, _, rfl, p, xs, _, .ref b, rfl, rfl, hS1, atI_nat hxa, ?_⟩
        refine ⟨b, _, rfl, hb1, rfl, _, _, rfl, _, _, rfl, rfl, ?_⟩
        refine ⟨_, rfl, .inl ⟨rfl, _, SqL.of ef1⟩, _, rfl, _, rfl, lenOk 2, fun t2 nt2 => ?_⟩
        have nl2 : lf ≠ t2 := ne_of_none ef1 nt2
        have np2 : lp ≠ t2 := ne_of_none ep1 nt2
        have hdn : dn.length < 1000 := by
          have h1 := congrArg List.length hout
          rw [List.length_append] at h1
          omega
        have ef2 := same_new (o := .tup [.ref a, .int (st : Int)]) nt2 _ _ ef1
        have hfl := hF1.length
        refine ⟨lf, fs, .ref t2, rfl, rfl, ef2, small (by omega), ?_⟩
        have k2 := Tk.new (o := .tup [.ref a, .int (st : Int)]) nt2
        have k3 := Tk.put (ys := fs ++ [V.ref t2]) ef2
        have ef3 : upd (upd H3 t2 (.tup [.ref a, .int (st : Int)])) lf (.lst (fs ++ [.ref t2])) lf = some (.lst (fs ++ [.ref t2])) := upd_same
        have ep3 : upd (upd H3 t2 (.tup [.ref a, .int (st : Int)])) lf (.lst (fs ++ [.ref t2])) lp = some (.lst us') := by rw [upd_ne nlp.symm, upd_ne np2]; exact ep1
        have s5 : Same H (upd (upd H3 t2 (.tup [.ref a, .int (st : Int)])) lf (.lst (fs ++ [.ref t2]))) := keep nfH (s4.trans (same_new nt2))
        have hF3 := FndAt.snoc (K := K) (H := upd (upd H3 t2 (.tup [.ref a, .int (st : Int)])) lf (.lst (fs ++ [.ref t2]))) (a := t2) (b := a) (ns := pa) (o := st) (k3.seq (SqT.of upd_same)) (k3.seq (k2.seq haP1)) ((hF1.tk k2).tk k3)
        have hPt3 := (hPt1.tk k2).tk k3
        have haP3 := k3.seq (k2.seq haP1)
        have hS3 := (stk s5).seq hS
        have hK3 := (stk s5).seq hK
        generalize upd (upd H3 t2 (.tup [.ref a, .int (st : Int)])) lf (.lst (fs ++ [.ref t2])) = H4 at ef3 ep3 s5 hF3 hPt3 haP3 hS3 hK3 ⊢
        clear ef1 ef2 hF1 hPt1 haP1 hS1 hK1 s4 ep1 hb1 k2 k3
        have hsum : (nodesAll ((pa, t1) :: r |>.map (·.2))).length = (nodesOf t1).length + (nodesAll (r.map (·.2))).length := by
          rw [List.map_cons, nodesAll, List.length_append]
        refine ⟨_, rfl, _, rfl, kp, _, rfl, .inr hK3, rfl, flat_strs _, _, rfl, ?_⟩
        rw [inV_strs]
        cases ek : ks.contains k with
        | false =>
          refine iteF ?_
          have ho : pathsK ks t1 = [([], 0)] := by
            cases t1 with
            | leaf k1 u1 => exact pathsK_leaf
            | node k1 ps =>
              rw [nodesOf] at hmore
              cases hmore
              exact pathsK_closed ek
          rw [outP_other ho] at hout
          refine ⟨_, rfl, _, rfl, p, xs, nodesOf pl, st, t1, nodesAll (r.map (·.2)), rfl, hS3, hN.tk (stk s5), hlen, hd', hpk.1, ?_⟩
          refine ⟨_, ?_, dn ++ [(pa, st)], r, _, us', st + (nodesOf t1).length, _, _, _, _, rfl, rfl, s5, ef3, hF3, ep3, hPt3, (drop_len hd' (nodesOf_pos t1)).2, hpk.2, ?_, fun y hy => hdep y (List.mem_cons_of_mem _ hy)⟩
          · rw [hsum]
            have := nodesOf_pos t1
            omega
          · rw [List.append_assoc]
            exact hout
        | true =>
          refine iteT ?_
          cases t1 with
          | leaf k1 u1 =>
            rw [nodesOf] at hmore
            cases hmore
            have h1 := hks k ek
            have h2 := hpk.1
            rw [plOk, h1] at h2
            cases h2
          | node k1 ps =>
          rw [nodesOf] at hmore
          cases hmore
          rw [outP_node ek] at hout
          have hokp := hpk.1
          rw [plOk, Bool.and_eq_true] at hokp
          rw [nodesOf] at hd'
          have hps : ps.length < 1000 := by
            have h1 := congrArg List.length hd'
            rw [List.length_drop, List.length_append, List.length_cons] at h1
            have := nodes_ge ps
            omega
          have hul := hPt3.length
          have hr1000 : us'.length < 1000 := by
            have h1 := congrArg List.length hd'
            rw [List.length_drop, List.length_append] at h1
            have := nodes_ge (r.map (·.2))
            rw [List.length_map] at this
            rw [hul, List.length_reverse, List.length_map]
            omega
          refine ⟨_, rfl, _, _, rfl, rfl, _, rfl, ?_⟩
          refine ⟨_, rfl, by omega, by omega, by omega, by omega, ?_⟩
          have e0 : ((ps.length : Int) - 0).toNat = ps.length := by omega
          rw [e0]
          refine for_rangeC (lo := 0 + (ps.length : Int) - 1) (c := -1) (n := ps.length) (fun i σ H5 => ∃ (vs5 : List V) (y8 : Option V), σ = [some (.ref p), some (.ref kp), some (.ref lf), some (.ref lp), some (.int ((st + 1 : Nat) : Int)), some (.ref a), some (.str k), some (.int (ps.length : Int)), y8] ∧ Same H H5 ∧ H5 lf = some (.lst (fs ++ [.ref t2])) ∧ FndAt K H5 (fs ++ [.ref t2]) (dn ++ [(pa, st)]) ∧ SqT K H5 a (pa.map natV) ∧ H5 lp = some (.lst vs5) ∧ PthsAt K H5 vs5 ((r.map (·.1)).reverse ++ (((kids pa 0 ps).map (·.1)).reverse.take i))) ?_ ?_ ?_
          · refine ⟨us', _, rfl, s5, ef3, hF3, haP3, ep3, ?_⟩
            rw [List.take_zero, List.append_nil]
            exact hPt3
          · rintro i σ H5 hi ⟨vs5, y8, rfl, s6, ef6, hF6, ha6, ep6, hP6⟩
            have ei : (0 + (ps.length : Int) - 1 + (i : Nat) * (-1) : Int) = ((ps.length - 1 - i : Nat) : Int) := by omega
            rw [ei]
            have hke : ((kids pa 0 ps).map (·.1)).reverse[i]? = some (pa ++ [ps.length - 1 - i]) := by
              rw [List.getElem?_reverse (by rw [List.length_map, kids_len]; exact hi), List.length_map, kids_len, kids_fst, List.getElem?_map, List.getElem?_range' (by omega)]
              simp
            have hvl := hP6.length
            rw [List.length_append, List.length_take, List.length_reverse, List.length_reverse, List.length_map, List.length_map, kids_len] at hvl
            have hul2 := hul
            rw [List.length_reverse, List.length_map] at hul2
            refine ⟨_, rfl, .inl ⟨rfl, _, SqL.of ep6⟩, _, rfl, _, rfl, lenOk 1, fun t3 nt3 => ?_⟩
            have k6 := Tk.new (o := .tup [natV (ps.length - 1 - i)]) nt3
            have hpal : pa.length < 1000 := by
              have := hdep _ List.mem_cons_self
              have h2 : pa.length + (nodesOf (.node k ps)).length ≤ xs.length := this
              omega
            refine cat_anyW (k6.seq ha6) (SqT.of upd_same) (by rw [List.length_map]; show _ + 1 < _; omega) fun t4 H6 s7 h7 => ?_
            have s8 := (same_new (o := .tup [natV (ps.length - 1 - i)]) nt3).trans s7
            have ep7 := s8 _ _ ep6
            have ef7 := s8 _ _ ef6
            refine ⟨lp, vs5, .ref t4, rfl, rfl, ep7, small (by omega), ?_⟩
            have k7 := Tk.put (ys := vs5 ++ [V.ref t4]) ep7
            refine ⟨vs5 ++ [.ref t4], _, rfl, keep npH (s6.trans s8), by rw [upd_ne nlp]; exact ef7, (hF6.tk (stk s8)).tk k7, k7.seq ((stk s8).seq ha6), upd_same, ?_⟩
            rw [take_succ' hke, ← List.append_assoc]
            refine PthsAt.snoc ((hP6.tk (stk s8)).tk k7) (k7.seq ?_)
            rw [List.map_append]
            exact h7
          · rintro σ H5 ⟨vs5, y8, rfl, s6, ef6, hF6, ha6, ep6, hP6⟩
            rw [List.take_of_length_le (by rw [List.length_reverse, List.length_map, kids_len]; exact Nat.le_refl _)] at hP6
            refine ⟨_, ?_, dn ++ [(pa, st)], kids pa 0 ps ++ r, _, vs5, st + 1, _, _, _, _, rfl, rfl, s6, ef6, hF6, ep6, ?_, ?_, ?_, ?_, ?_⟩
            · rw [hsum, List.map_append, kids_snd, nodesAll_append, List.length_append, nodesOf, List.length_cons]
              omega
            · rw [List.map_append, List.reverse_append]
              exact hP6
            · rw [List.map_append, kids_snd, nodesAll_append]
              have h2 := congrArg (List.drop 1) hd'
              rw [List.drop_drop] at h2
              exact h2
            · rw [List.map_append, kids_snd, plsOk_app, hokp.2, hpk.2]
              rfl
            · rw [List.append_assoc]
              exact hout
            · intro y hy
              rcases List.mem_append.mp hy with hy | hy
              · have h1 := hdep _ List.mem_cons_self
                have h2 : pa.length + (nodesOf (.node k ps)).length ≤ xs.length := h1
                rw [nodesOf, List.length_cons] at h2
                have h3 := kids_mem hy
                omega
              · exact hdep y (List.mem_cons_of_mem _ hy)
end
end Eh
set_option Elab.async false
set_option linter.all false
set_option maxRecDepth 100000
set_option maxHeartbeats 4000000
namespace Eh
open PySem PySem.Spec PyProof.Rows L2
/-- a tuple of texts of the module's top -/
def TupAt (K : PySem.W.Frag) (mg : Str → Option Value) (x : Str) (p : Addr) (ws : List Str) : Prop := mg x = some (.ref p) ∧ ∀ H, SqT K H p (ws.map V.str)
theorem has_of {ws : List Str} {k : Str} (h : ws.contains k = true) : k ∈ ws := by
  simpa using h
section
variable {P : Program} {w : World} {K : PySem.W.Frag} {mg : Str → Option Value} {base : Heap}
/-- a promise passes, another value is refused -/
def spCheckP (K : PySem.W.Frag) (C CE : Addr) : Sp := fun vs H Q E => ∃ v, vs = [v] ∧ ((∃ a dx fs, v = .ref a ∧ H a = some (.ins C dx fs) ∧ Q .non H) ∨ ∃ t, TyX K H v t ∧ PySem.W.kitOne K t (.ref C) = some false ∧ E (.ref CE) none H)
theorem ok_check_promise {C fI fL CE f : Addr} {fd : FuncData} (F : Fun K "check_promise" "check_promise" s_check_promise f fd) (T : Txt mg) (PC : PromC K mg C fI fL) (IC : IsC K C) (R : ErrC K mg "InvalidPromise" CE) :
    FnOk P w K mg base (L2.CX P w) 1 f fd ["value"] (spCheckP K C CE) := by
  refine F.okX sc_check_promise (fun vs H Q E h => ?_) (fun cdv A outer s H vs Q E hr h => ?_)
  · obtain ⟨v, rfl, _⟩ := h
    rfl
  · obtain ⟨v, rfl, h⟩ := h
    refine ⟨_, (pss_one (ps_if (pt_not (pt_val (pe_callB (isiQ (K := K) rfl) (by rfl) T.isinstance_ (by decide +kernel) (pa_cons (pv 0) (pa_cons (pe_glob (v := .ref C) rfl PC.g rfl) pa_nil)))))
      (pss_one (ps_raise rfl (takes_of rfl rfl rfl rfl) (pmk_own PySem.F.excBase_ValueError R.q R.g R.k (raises_own R.b R.t) rfl))) pss_nil)), ?_⟩
    rcases h with ⟨a, dx, fs, rfl, ea, q⟩ | ⟨t, ht, hk, q⟩
    · exact ⟨_, rfl, .ref a, .ref C, .ref C, .ref C, true, rfl, .own _, .base (.ins ea PC.cl IC.cls IC.sp IC.tk IC.mro), IC.self, _, rfl, iteF q⟩
    · exact ⟨_, rfl, v, .ref C, t, .ref C, false, rfl, .own _, ht, hk, _, rfl, iteT q⟩
end
end Eh
set_option Elab.async false
set_option linter.all false
set_option maxRecDepth 100000
set_option maxHeartbeats 4000000
namespace Eh
open PySem PySem.Spec PyProof.Rows L2
theorem PrG.sm {K : PySem.W.Frag} {C a : Addr} {H H' : Hp} {ns : List (Str × V)} (h : PrG K C H a ns) (s : Same H H') : PrG K C H' a ns := by
  obtain ⟨dx, p, xs, e, hs, hN, g⟩ := h
  exact ⟨dx, p, xs, s _ _ e, (stk s).seq hs, hN.tk (stk s), g⟩
theorem PathV.sm {K : PySem.W.Frag} {H H' : Hp} {v : V} {ws : Option (List V)} (h : PathV K H v ws) (hk : ∀ z, KindI K H z → KindI K H' z) (s : Same H H') : PathV K H' v ws := by
  cases h with
  | other hn => exact .other (hn.ku (ku_same s))
  | tup ht hz => exact .tup ((stk s).seq ht) fun z m => hk z (hz z m)
theorem good_sub {a b : List (Str × V)} (h : GoodN b) (s : ∀ n ∈ a, n ∈ b) : GoodN a := fun n m => h n (s n m)
theorem good_ex {ns ms rest : List (Str × V)} {st : Nat} {q : Pl} (h : GoodN ns) (g : GoodN ms) (d : ns.drop st = nodesOf q ++ rest) : GoodN (ns.take st ++ (ms ++ rest)) := by
  intro n hn
  rcases List.mem_append.mp hn with hn | hn
  · exact h n (List.mem_of_mem_take hn)
  rcases List.mem_append.mp hn with hn | hn
  · exact g n hn
  · exact h n (List.mem_of_mem_drop (i := st) (by rw [d]; exact List.mem_append_right _ hn))
section
variable {P : Program} {w : World} {K : PySem.W.Frag} {mg : Str → Option Value} {base : Heap}
/-- a comprehension over a list, any target -/
theorem lcLg {K : PySem.W.Frag} {a : Addr} {xs : List V} {g : TG} {tt : TT} {te : TE} {vs : List Nat} {σ : L2.St} {H1 : Hp} {D : Addr} {Qd : Hp → Prop} (R : Nat → List V → Hp → Prop) (h0 : R 0 [] (upd H1 D (.lst []))) (hl : ∀ j acc H, R j acc H → SqL K H a xs)
    (hs : ∀ j x acc H, xs[j]? = some x → acc.length ≤ j → H D = some (.lst acc) → R j acc H →
      g x (wipe σ vs) H fun σ2 H2 => wipe σ2 vs = wipe σ vs ∧ tt σ2 H2 fun b H3 => if b = true then te σ2 H3 (LcK R D j) else LcP R D (j + 1) H3)
    (hd : ∀ acc H, acc.length ≤ xs.length → H D = some (.lst acc) → R xs.length acc H → Qd H) : LcGoal (Itl K a) g tt te vs σ H1 D Qd := by
  refine ⟨fun j m H => m = xs.length - j ∧ j ≤ xs.length ∧ LcP R D j H, ⟨xs.length, by omega, Nat.zero_le _, [], Nat.le_refl _, upd_same, h0⟩, ?_⟩
  rintro j m H ⟨rfl, hj, acc, hlen, e, r⟩
  have q := hl _ _ _ r
  by_cases hlt : j < xs.length
  · refine .inr ⟨⟨xs, xs[j], q, List.getElem?_eq_getElem hlt⟩, LcP R D (j + 1), fun H' p => ⟨xs.length - (j + 1), by omega, rfl, hlt, p⟩, fun x H' y => ?_⟩
    obtain ⟨rfl, y⟩ := y
    exact hs j x acc _ (y xs q) hlen e r
  · have ej : j = xs.length := by omega
    subst ej
    exact .inl ⟨⟨xs, q, Nat.le_refl _⟩, hd acc H hlen e r⟩
theorem startV_cases (ks : List Str) (pl : Pl) (ws : Option (List V)) : (startV ks pl ws = .non) ∨ ∃ zs o q, ws = some zs ∧ walkV ks pl zs = some (o, q) ∧ startV ks pl ws = .int (o : Int) := by
  cases ws with
  | none => exact .inl rfl
  | some zs =>
    cases h : walkV ks pl zs with
    | none => exact .inl (startV_none h)
    | some y => exact .inr ⟨zs, y.1, y.2, rfl, h, startV_some h⟩
end
end Eh
set_option Elab.async false
set_option linter.all false
set_option maxRecDepth 100000
set_option maxHeartbeats 4000000
namespace Eh
open PySem PySem.Spec PyProof.Rows L2
section
variable {P : Program} {w : World} {K : PySem.W.Frag} {mg : Str → Option Value} {base : Heap}
inductive PgsAt (K : PySem.W.Frag) (C : Addr) (H : Hp) : List V → List Pl → Prop
  | nil : PgsAt K C H [] []
  | cons {a : Addr} {vs : List V} {p : Pl} {ps : List Pl} : PrG K C H a (nodesOf p) → PgsAt K C H vs ps → PgsAt K C H (.ref a :: vs) (p :: ps)
theorem PgsAt.sm {K : PySem.W.Frag} {C : Addr} {H H' : Hp} (s : Same H H') : ∀ {vs : List V} {ps : List Pl}, PgsAt K C H vs ps → PgsAt K C H' vs ps
  | _, _, .nil => .nil
  | _, _, .cons h r => .cons (h.sm s) (r.sm s)
theorem PgsAt.length {K : PySem.W.Frag} {C : Addr} {H : Hp} : ∀ {vs : List V} {ps : List Pl}, PgsAt K C H vs ps → vs.length = ps.length
  | _, _, .nil => rfl
  | _, _, .cons _ r => by rw [List.length_cons, List.length_cons, r.length]
theorem PgsAt.get {K : PySem.W.Frag} {C : Addr} {H : Hp} : ∀ {vs : List V} {ps : List Pl}, PgsAt K C H vs ps → ∀ {i : Nat} {v : V}, vs[i]? = some v → ∃ a p, v = .ref a ∧ ps[i]? = some p ∧ PrG K C H a (nodesOf p)
  | _, _, .nil, i, v, h => by simp at h
  | _, _, .cons a _, 0, v, h => by
    cases (show some _ = some v from h)
    exact ⟨_, _, rfl, rfl, a⟩
  | _, _, .cons _ r, i + 1, v, h => r.get (i := i) h
theorem PgsAt.good {K : PySem.W.Frag} {C : Addr} {H : Hp} : ∀ {vs : List V} {ps : List Pl}, PgsAt K C H vs ps → GoodN (nodesAll ps)
  | _, _, .nil => fun n hn => by
    rw [nodesAll] at hn
    cases hn
  | _, _, .cons h r => by
    rw [nodesAll]
    obtain ⟨_, _, _, _, _, _, g⟩ := h
    exact goodAll_app g r.good
theorem walk_drop {ks : List Str} {zs : List V} {pl : Pl} {o : Nat} {q : Pl} (h : plOk pl = true) (e : walkV ks pl zs = some (o, q)) : ∃ rest, (nodesOf pl).drop o = nodesOf q ++ rest ∧ plOk q = true := by
  obtain ⟨pre, post, e1, e2, e3⟩ := walkV_split h e
  refine ⟨post, ?_, e3⟩
  rw [e1, ← e2, List.drop_left]
theorem drop_pre {ns qs rest : List (Str × V)} {o : Nat} (h : ns.drop o = qs ++ rest) : ∀ n ∈ qs, n ∈ ns := fun n hn => List.mem_of_mem_drop (i := o) (by rw [h]; exact List.mem_append_left _ hn)
end
end Eh
set_option Elab.async false
set_option linter.all false
set_option maxRecDepth 100000
set_option maxHeartbeats 4000000
namespace Eh
open PySem PySem.Spec PyProof.Rows L2
/-- the part at a path -/
def subN : Pl → List Nat → Option Pl
  | p, [] => some p
  | .leaf _ _, _ :: _ => none
  | .node _ ps, i :: r => match ps[i]? with
    | some q => subN q r
    | none => none
theorem subN_nil {p : Pl} : subN p [] = some p := by cases p <;> rw [subN]
theorem subN_node {k : Str} {ps : List Pl} {i : Nat} {r : List Nat} {q : Pl} (h : ps[i]? = some q) : subN (.node k ps) (i :: r) = subN q r := by
  rw [subN, h]
theorem subN_cons {pl : Pl} {i : Nat} {r : List Nat} {q : Pl} (h : subN pl (i :: r) = some q) : ∃ k ps p, pl = .node k ps ∧ ps[i]? = some p ∧ subN p r = some q := by
  cases pl with
  | leaf k t =>
    rw [subN] at h
    cases h
  | node k ps =>
    rw [subN] at h
    split at h
    · rename_i p hp
      exact ⟨k, ps, p, rfl, hp, h⟩
    · cases h
/-- with another part at a path -/
def putP : Pl → List Nat → Pl → Pl
  | _, [], x => x
  | .leaf k t, _ :: _, _ => .leaf k t
  | .node k ps, i :: r, x => match ps[i]? with
    | some q => .node k (ps.set i (putP q r x))
    | none => .node k ps
theorem putP_nil {p x : Pl} : putP p [] x = x := by cases p <;> rw [putP]
theorem putP_node {k : Str} {ps : List Pl} {i : Nat} {r : List Nat} {q x : Pl} (h : ps[i]? = some q) : putP (.node k ps) (i :: r) x = .node k (ps.set i (putP q r x)) := by
  rw [putP, h]
theorem set_get {α : Type} {ps : List α} {i : Nat} {q y : α} (h : ps[i]? = some q) : (ps.set i y)[i]? = some y := List.getElem?_set_self (List.getElem?_eq_some_iff.mp h).1
theorem nodesAll_put {ps : List Pl} {i : Nat} {q y : Pl} (h : ps[i]? = some q) : nodesAll (ps.set i y) = nodesAll (ps.take i) ++ (nodesOf y ++ nodesAll (ps.drop (i + 1))) := by
  have e := nodesAll_split (set_get (y := y) h)
  rw [List.take_set_of_le (Nat.le_refl i), List.drop_set_of_lt (Nat.lt_succ_self i)] at e
  exact e
theorem intV_small {i : Nat} (h : i < 1000) : intV (.int (i : Int)) = true := by
  show decide ((if (i : Int) < 0 then -(i : Int) else (i : Int)) < 10 ^ (60 : Int).toNat) = true
  rw [if_neg (by omega)]
  refine decide_eq_true ?_
  have h1 : (1000 : Int) ≤ 10 ^ (60 : Int).toNat := by decide
  omega
theorem idxV_small {i n : Nat} (h : i < n) (hn : n < 1000) : idxV (.int (i : Int)) (n : Int) = true := by
  unfold idxV
  rw [intV_small (by omega)]
  show (true && (decide (0 ≤ (i : Int)) && decide ((i : Int) < (n : Int)))) = true
  rw [decide_eq_true (by omega), decide_eq_true (by omega)]
  rfl
mutual
/-- all paths, in order -/
def pL : Pl → List (List Nat)
  | .leaf _ _ => [[]]
  | .node _ ps => [] :: pLs 0 ps
def pLs (i : Nat) : List Pl → List (List Nat)
  | [] => []
  | p :: ps => (pL p).map (i :: ·) ++ pLs (i + 1) ps
end
theorem lexN_cons {i : Nat} {a b : List Nat} : HSP.lexN (i :: a) (i :: b) = HSP.lexN a b := by
  rw [HSP.lexN, if_pos rfl]
end Eh
set_option Elab.async false
set_option linter.all false
set_option maxRecDepth 100000
set_option maxHeartbeats 4000000
namespace Eh
open PySem PySem.Spec PyProof.Rows L2
def open2 : List Str := ["all", "some"]
theorem open2_node {k : Str} (h : open2.contains k = true) : nodeKinds.contains k = true := by
  have h1 := has_of h
  unfold open2 at h1
  simp only [List.mem_cons, List.not_mem_nil, or_false] at h1
  rcases h1 with rfl | rfl <;> rfl
mutual
/-- all places, in order, and what stands there -/
def subsP : Pl → List (List Nat × Pl)
  | .leaf k t => [([], .leaf k t)]
  | .node k ps => ([], .node k ps) :: (if open2.contains k = true then subsAll 0 ps else [])
def subsAll (i : Nat) : List Pl → List (List Nat × Pl)
  | [] => []
  | p :: ps => (subsP p).map (fun y => (i :: y.1, y.2)) ++ subsAll (i + 1) ps
end
theorem subs_head (p : Pl) : ∃ r, subsP p = ([], p) :: r := by
  cases p with
  | leaf k t => exact ⟨[], by rw [subsP]⟩
  | node k ps => exact ⟨_, by rw [subsP]⟩
theorem subs_nil (p : Pl) : ([], p) ∈ subsP p := by
  obtain ⟨r, e⟩ := subs_head p
  rw [e]
  exact List.mem_cons_self
theorem mem_all : ∀ {ps : List Pl} {i : Nat} {pa : List Nat} {q : Pl}, (pa, q) ∈ subsAll i ps ↔ ∃ j r p, pa = (i + j) :: r ∧ ps[j]? = some p ∧ (r, q) ∈ subsP p
  | [], i, pa, q => by
    rw [subsAll]
    exact ⟨fun h => (nomatch h), fun ⟨j, r, p, _, h, _⟩ => by simp at h⟩
  | p :: ps, i, pa, q => by
    rw [subsAll, List.mem_append]
    constructor
    · rintro (h | h)
      · obtain ⟨y, hy, e⟩ := List.mem_map.mp h
        obtain ⟨e1, e2⟩ := Prod.mk.inj e
        exact ⟨0, y.1, p, e1.symm, rfl, by rw [← e2]; exact hy⟩
      · obtain ⟨j, r, p', e, hp, hq⟩ := mem_all.mp h
        exact ⟨j + 1, r, p', by rw [e]; congr 1; omega, hp, hq⟩
    · rintro ⟨j, r, p', e, hp, hq⟩
      cases j with
      | zero =>
        cases (show some p = some p' from hp)
        exact .inl (List.mem_map.mpr ⟨(r, q), hq, by rw [e]; rfl⟩)
      | succ j => exact .inr (mem_all.mpr ⟨j, r, p', by rw [e]; congr 1; omega, hp, hq⟩)
theorem mem_node {k : Str} {ps : List Pl} {pa : List Nat} {q : Pl} : (pa, q) ∈ subsP (.node k ps) ↔ (pa = [] ∧ q = .node k ps) ∨ (open2.contains k = true ∧ ∃ j r p, pa = j :: r ∧ ps[j]? = some p ∧ (r, q) ∈ subsP p) := by
  rw [subsP, List.mem_cons]
  constructor
  · rintro (h | h)
    · obtain ⟨e1, e2⟩ := Prod.mk.inj h
      exact .inl ⟨e1, e2⟩
    · split at h
      · rename_i ho
        obtain ⟨j, r, p, e, hp, hq⟩ := mem_all.mp h
        exact .inr ⟨ho, j, r, p, by rw [e, Nat.zero_add], hp, hq⟩
      · cases h
  · rintro (⟨rfl, rfl⟩ | ⟨ho, j, r, p, e, hp, hq⟩)
    · exact .inl rfl
    · rw [if_pos ho]
      exact .inr (mem_all.mpr ⟨j, r, p, by rw [e, Nat.zero_add], hp, hq⟩)
mutual
theorem subs_srt : ∀ p : Pl, ((subsP p).map (·.1)).Pairwise (fun a b => HSP.lexN a b = true)
  | .leaf k t => by
    rw [subsP]
    exact List.pairwise_singleton _ _
  | .node k ps => by
    rw [subsP, List.map_cons]
    refine List.pairwise_cons.mpr ⟨fun b hb => ?_, ?_⟩
    · obtain ⟨⟨pa, q⟩, hm, e⟩ := List.mem_map.mp hb
      split at hm
      · obtain ⟨j, r, _, e2, _⟩ := mem_all.mp hm
        rw [← e, e2]
        rfl
      · cases hm
    · split
      · exact all_srt 0 ps
      · exact List.Pairwise.nil
theorem all_srt : ∀ (i : Nat) (ps : List Pl), ((subsAll i ps).map (·.1)).Pairwise (fun a b => HSP.lexN a b = true)
  | i, [] => by
    rw [subsAll]
    exact List.Pairwise.nil
  | i, p :: ps => by
    rw [subsAll, List.map_append, List.map_map]
    refine List.pairwise_append.mpr ⟨?_, all_srt (i + 1) ps, fun a ha b hb => ?_⟩
    · have h := subs_srt p
      rw [List.pairwise_map] at h ⊢
      exact h.imp fun {a b} h => by show HSP.lexN (i :: a.1) (i :: b.1) = true; rw [lexN_cons]; exact h
    · obtain ⟨y, _, e⟩ := List.mem_map.mp ha
      obtain ⟨⟨pa, q⟩, hm, e2⟩ := List.mem_map.mp hb
      obtain ⟨j, r, _, e3, _⟩ := mem_all.mp hm
      rw [← e, ← e2, e3]
      show HSP.lexN (i :: y.1) ((i + 1 + j) :: r) = true
      rw [HSP.lexN, if_neg (by omega)]
      exact decide_eq_true (by omega)
end
theorem lexN_ne {a b : List Nat} (h : HSP.lexN a b = true) : a ≠ b := fun e => by
  rw [e, HSP.lexN_irr] at h
  cases h
theorem subs_nodup (p : Pl) : ((subsP p).map (·.1)).Nodup := (subs_srt p).imp fun h => lexN_ne h
mutual
theorem subs_len : ∀ p : Pl, (subsP p).length ≤ (nodesOf p).length
  | .leaf k t => by rw [subsP, nodesOf]; exact Nat.le_refl _
  | .node k ps => by
    rw [subsP, nodesOf, List.length_cons, List.length_cons]
    split
    · have := all_len 0 ps; omega
    · exact Nat.succ_le_succ (Nat.zero_le _)
theorem all_len : ∀ (i : Nat) (ps : List Pl), (subsAll i ps).length ≤ (nodesAll ps).length
  | i, [] => by rw [subsAll]; exact Nat.zero_le _
  | i, p :: ps => by
    rw [subsAll, nodesAll, List.length_append, List.length_append, List.length_map]
    have := subs_len p
    have := all_len (i + 1) ps
    omega
end
/-- a place leads to what stands there -/
theorem walk_place : ∀ {pa : List Nat} {pl q : Pl}, plOk pl = true → (nodesOf pl).length < 1000 → (pa, q) ∈ subsP pl →
    ∃ o rest, walkV open2 pl (pa.map natV) = some (o, q) ∧ (nodesOf pl).drop o = nodesOf q ++ rest ∧ ∀ x, nodesOf (putP pl pa x) = (nodesOf pl).take o ++ (nodesOf x ++ rest)
  | [], pl, q, hk, hl, h => by
    have : q = pl := by
      cases pl with
      | leaf k t => rw [subsP] at h; exact (Prod.mk.inj (List.mem_singleton.mp h)).2
      | node k ps =>
        rcases mem_node.mp h with ⟨_, e⟩ | ⟨_, j, r, p, e, _⟩
        · exact e
        · cases e
    subst this
    exact ⟨0, [], walkV_nil, by rw [List.append_nil]; rfl, fun x => by rw [putP_nil, List.append_nil]; rfl⟩
  | i :: r, pl, q, hk, hl, h => by
    cases pl with
    | leaf k t => rw [subsP] at h; cases (Prod.mk.inj (List.mem_singleton.mp h)).1
    | node k ps =>
      rcases mem_node.mp h with ⟨e, _⟩ | ⟨ho2, j, r', p, e, hp, hq⟩
      · cases e
      · cases e
        rw [plOk, Bool.and_eq_true] at hk
        have hi := (List.getElem?_eq_some_iff.mp hp).1
        rw [nodesOf, List.length_cons] at hl
        have hg := nodes_ge ps
        have hpl : (nodesOf p).length ≤ (nodesAll ps).length := nodesOf_get hp
        obtain ⟨o, rest, e1, e2, e3⟩ := walk_place (plsOk_get hk.2 hp) (by omega) hq
        have ho : o ≤ (nodesOf p).length := by
          have h1 := congrArg List.length e2
          rw [List.length_drop, List.length_append] at h1
          have := nodesOf_pos q
          omega
        refine ⟨1 + (nodesAll (ps.take i)).length + o, rest ++ nodesAll (ps.drop (i + 1)), ?_, ?_, fun x => ?_⟩
        · rw [List.map_cons]
          show walkV open2 (.node k ps) (.int (i : Int) :: r.map natV) = _
          rw [walkV_node ho2 (idxV_small hi (by omega)) hp, e1]
          rfl
        · rw [nodesOf, nodesAll_split hp, show 1 + (nodesAll (ps.take i)).length + o = ((nodesAll (ps.take i)).length + o) + 1 by omega, List.drop_succ_cons, ← List.drop_drop, List.drop_left, List.drop_append_of_le_length ho, e2, List.append_assoc]
        · rw [putP_node hp, nodesOf, nodesAll_put hp, e3 x, nodesOf, nodesAll_split hp, List.length_set, show 1 + (nodesAll (ps.take i)).length + o = ((nodesAll (ps.take i)).length + o) + 1 by omega, List.take_succ_cons, List.take_length_add_append, List.take_append_of_le_length ho]
          simp only [List.append_assoc, List.cons_append]
/-- what leads anywhere is a place -/
theorem place_walk : ∀ {zs : List V} {pl q : Pl} {o : Nat}, walkV open2 pl zs = some (o, q) → ∃ pa : List Nat, zs = pa.map natV ∧ (pa, q) ∈ subsP pl
  | [], pl, q, o, e => by
    rw [walkV_nil] at e
    cases e
    exact ⟨[], rfl, subs_nil _⟩
  | v :: r, .leaf k t, q, o, e => by
    rw [walkV] at e
    cases e
  | v :: r, .node k ps, q, o, e => by
    rw [walkV] at e
    split at e
    · rename_i hc
      rw [Bool.and_eq_true] at hc
      obtain ⟨i, rfl, hi⟩ := idxV_nat hc.2
      split at e
      · rename_i q1 hq
        cases hw : walkV open2 q1 r with
        | none => rw [hw] at e; cases e
        | some y =>
          obtain ⟨o1, q2⟩ := y
          rw [hw] at e
          cases e
          obtain ⟨pa, e1, hm⟩ := place_walk hw
          have hq' : ps[i]? = some q1 := hq
          exact ⟨i :: pa, by rw [List.map_cons, ← e1]; rfl, mem_node.mpr (.inr ⟨hc.1, i, pa, q1, rfl, hq', hm⟩)⟩
      · cases e
    · cases e
/-- where the paths that the program finds lead -/
def PtRel (ns : List (Str × V)) (y : List Nat × Nat) (z : List Nat × Pl) : Prop := y.1 = z.1 ∧ plOk z.2 = true ∧ ∃ rest, ns.drop y.2 = nodesOf z.2 ++ rest
theorem PtRel.into {ns ms post : List (Str × V)} {off i : Nat} {y : List Nat × Nat} {z : List Nat × Pl} (h : PtRel ns y z) (d : ms.drop off = ns ++ post) : PtRel ms (i :: y.1, off + y.2) (i :: z.1, z.2) := by
  obtain ⟨e1, e2, rest, e3⟩ := h
  have hy : y.2 ≤ ns.length := by
    have h1 := congrArg List.length e3
    rw [List.length_drop, List.length_append] at h1
    have := nodesOf_pos z.2
    omega
  refine ⟨by rw [e1], e2, rest ++ post, ?_⟩
  show ms.drop (off + y.2) = nodesOf z.2 ++ (rest ++ post)
  rw [← List.drop_drop, d, List.drop_append_of_le_length hy, e3, List.append_assoc]
mutual
theorem paths_subs : ∀ {pl : Pl}, plOk pl = true → Paired (PtRel (nodesOf pl)) (pathsK open2 pl) (subsP pl)
  | .leaf k t, h => by
    rw [pathsK, subsP]
    exact .cons ⟨rfl, h, [], by rw [List.append_nil]; rfl⟩ .nil
  | .node k ps, h => by
    have h' := h
    rw [plOk, Bool.and_eq_true] at h'
    rw [pathsK, subsP]
    refine .cons ⟨rfl, h, [], by rw [List.append_nil]; rfl⟩ ?_
    split
    · refine all_subs (post := []) h'.2 ?_
      rw [nodesOf, List.append_nil]
      rfl
    · exact .nil
theorem all_subs : ∀ {ps : List Pl} {i off : Nat} {ms post : List (Str × V)}, plsOk ps = true → ms.drop off = nodesAll ps ++ post → Paired (PtRel ms) (pathsAll open2 i off ps) (subsAll i ps)
  | [], i, off, ms, post, _, _ => by rw [pathsAll, subsAll]; exact .nil
  | p :: ps, i, off, ms, post, h, d => by
    rw [plsOk, Bool.and_eq_true] at h
    rw [nodesAll, List.append_assoc] at d
    rw [pathsAll, subsAll]
    have d2 : ms.drop (off + (nodesOf p).length) = nodesAll ps ++ post := by rw [← List.drop_drop, d, List.drop_left]
    have one := paths_subs h.1
    have up : ∀ {l : List (List Nat × Nat)} {m : List (List Nat × Pl)}, Paired (PtRel (nodesOf p)) l m → Paired (PtRel ms) (l.map fun y => (i :: y.1, off + y.2)) (m.map fun y => (i :: y.1, y.2)) := by
      intro l m hp
      induction hp with
      | nil => exact .nil
      | cons a t ih => exact .cons (a.into d) ih
    have app : ∀ {l : List (List Nat × Nat)} {m : List (List Nat × Pl)} {l2 : List (List Nat × Nat)} {m2 : List (List Nat × Pl)}, Paired (PtRel ms) l m → Paired (PtRel ms) l2 m2 → Paired (PtRel ms) (l ++ l2) (m ++ m2) := by
      intro l m l2 m2 a b
      induction a with
      | nil => exact b
      | cons x t ih => exact .cons x ih
    exact app (up one) (all_subs h.2 d2)
end
theorem paths_fst {pl : Pl} (h : plOk pl = true) : (pathsK open2 pl).map (·.1) = (subsP pl).map (·.1) := by
  have : ∀ {l : List (List Nat × Nat)} {m : List (List Nat × Pl)}, Paired (PtRel (nodesOf pl)) l m → l.map (·.1) = m.map (·.1) := by
    intro l m p
    induction p with
    | nil => rfl
    | cons a t ih => rw [List.map_cons, List.map_cons, ih, a.1]
  exact this (paths_subs h)
/-- the kind of a plain promise -/
def kindPl : Pl → Str
  | .leaf k _ => k
  | .node k _ => k
theorem kind_head {pl : Pl} {n : Str × V} {more : List (Str × V)} (h : nodesOf pl = n :: more) : n.1 = kindPl pl := by
  cases pl <;> rw [nodesOf] at h <;> cases h <;> rfl
/-- the places of nodes of some kinds -/
def inK (ks : List Str) (pl : Pl) : List (List Nat) := ((subsP pl).filter fun y => ks.contains (kindPl y.2)).map (·.1)
end Eh
set_option Elab.async false
set_option linter.all false
set_option maxRecDepth 100000
namespace Eh
open PySem PySem.Spec PyProof.Rows L2
theorem kit_self {K : PySem.W.Frag} {C : Addr} : PySem.W.kitOne K (.ref C) (.ref C) = some true := by
  unfold PySem.W.kitOne
  rw [if_pos (beq_self_eq_true (Value.ref C))]
theorem kit_off {K : PySem.W.Frag} {C : Addr} {T : String} (i : PySem.W.isClsIn K C = true) (t : PySem.W.typeIn K (.ref C) = some (.type "type")) (h : (PySem.fastBuiltinMro T).map (·.contains (.ref C)) = some false) : PySem.W.kitOne K (.type T) (.ref C) = some false := by
  unfold PySem.W.kitOne
  rw [if_neg (by show ¬ (false = true); decide)]
  have j : ((PySem.W.clsIn K C).isSome && PySem.W.typeIn K (.ref C) == some (.type "type")) = true := by
    rw [show (PySem.W.clsIn K C).isSome = true from i, t]
    decide
  exact (if_pos j).trans h
end Eh
set_option Elab.async false
set_option linter.all false
set_option maxRecDepth 100000
set_option maxHeartbeats 4000000
namespace Eh
open PySem PySem.Spec PyProof.Rows L2
theorem paired_at {α β : Type} {F : α → β → Prop} : ∀ {xs : List α} {ys : List β}, Paired F xs ys → ∀ {i : Nat} {x : α}, xs[i]? = some x → ∃ y, ys[i]? = some y ∧ F x y
  | _, _, .nil, i, x, h => by simp at h
  | _, _, .cons r t, 0, x, h => by
    cases (show some _ = some x from h)
    exact ⟨_, rfl, r⟩
  | _, _, .cons r t, i + 1, x, h => paired_at t (i := i) (by simpa using h)
theorem filter_snoc {α : Type} (p : α → Bool) {l : List α} {j : Nat} {x : α} (h : l[j]? = some x) : (l.take (j + 1)).filter p = (l.take j).filter p ++ (if p x = true then [x] else []) := by
  rw [List.take_add_one, h, List.filter_append]
  congr 1
  show [x].filter p = _
  by_cases e : p x = true
  · rw [if_pos e, List.filter_cons, if_pos e]; rfl
  · rw [if_neg e, List.filter_cons, if_neg e]; rfl
section
variable {P : Program} {w : World} {K : PySem.W.Frag} {mg : Str → Option Value} {base : Heap}
def spStartAt (K : PySem.W.Frag) : Sp := fun vs H Q _ => ∃ p xs pl v ws, vs = [.ref p, v] ∧ SqT K H p xs ∧ NdsAt K H xs (nodesOf pl) ∧ plOk pl = true ∧ xs.length < 1000 ∧ PathV K H v ws ∧ Q (startV open2 pl ws) H
theorem ok_start_at {pW fA f : Addr} {fdA fd : FuncData} (F : Fun K "start_at" "start_at" s_start_at f fd) (WA : TupAt K mg "OPEN" pW open2) (C__start_along : Cal P w K mg base 3 "_start_along" fA fdA ["nodes", "path", "kinds"] (spAlong K)) :
    FnOk P w K mg base CX0 4 f fd ["nodes", "place"] (spStartAt K) := by
  refine F.ok sc_start_at (fun vs H Q E h => ?_) (fun cdv A outer s H vs Q E hr h => ?_)
  · obtain ⟨p, xs, pl, v, ws, rfl, _⟩ := h
    rfl
  · obtain ⟨p, xs, pl, v, ws, rfl, hS, hN, hok, hl, hP, q⟩ := h
    refine ⟨_, (pss_one (ps_ret (pe_call C__start_along.G hr (by rfl) C__start_along.m C__start_along.k C__start_along.b .nil pass0 (pa_cons (pv 0) (pa_cons (pv 1) (pa_cons (pe_glob (v := .ref pW) rfl WA.1 rfl) pa_nil)))))), ?_⟩
    exact ⟨_, rfl, _, rfl, p, xs, pl, v, ws, pW, open2, rfl, hS, hN, hok, hl, hP, WA.2 H, fun k hk => open2_node hk, q⟩
def spSurfOf (K : PySem.W.Frag) : Sp := fun vs H Q _ => ∃ p xs pl, vs = [.ref p] ∧ SqT K H p xs ∧ NdsAt K H xs (nodesOf pl) ∧ plOk pl = true ∧ xs.length < 1000 ∧ ∀ l us H', Same H H' → H l = none → H' l = some (.lst us) → FndAt K H' us (pathsK open2 pl) → Q (.ref l) H'
theorem ok_surface_of {pW fA f : Addr} {fdA fd : FuncData} (F : Fun K "surface_of" "surface_of" s_surface_of f fd) (WA : TupAt K mg "OPEN" pW open2) (C__paths_along : Cal P w K mg base 2 "_paths_along" fA fdA ["nodes", "kinds"] (spPathsAlong K)) :
    FnOk P w K mg base CX0 3 f fd ["nodes"] (spSurfOf K) := by
  refine F.ok sc_surface_of (fun vs H Q E h => ?_) (fun cdv A outer s H vs Q E hr h => ?_)
  · obtain ⟨p, xs, pl, rfl, _⟩ := h
    rfl
  · obtain ⟨p, xs, pl, rfl, hS, hN, hok, hl, q⟩ := h
    refine ⟨_, (pss_one (ps_ret (pe_call C__paths_along.G hr (by rfl) C__paths_along.m C__paths_along.k C__paths_along.b .nil pass0 (pa_cons (pv 0) (pa_cons (pe_glob (v := .ref pW) rfl WA.1 rfl) pa_nil))))), ?_⟩
    exact ⟨_, rfl, p, xs, pl, pW, open2, rfl, hS, hN, hok, hl, WA.2 H, fun k hk => open2_node hk, q⟩
/-- a tuple of the places of nodes of some kinds -/
def spPlacesIn (K : PySem.W.Frag) : Sp := fun vs H Q _ => ∃ p xs pl kp ks, vs = [.ref p, .ref kp] ∧ SqT K H p xs ∧ NdsAt K H xs (nodesOf pl) ∧ plOk pl = true ∧ xs.length < 1000 ∧ (∀ H', Same H H' → SqT K H' kp (ks.map V.str)) ∧
  ∀ r us H', Same H H' → H r = none → H' r = some (.tup us) → PthsAt K H' us (inK ks pl) → Q (.ref r) H'
theorem ok_places_in {fA f : Addr} {fdA fd : FuncData} (F : Fun K "places_in" "places_in" s_places_in f fd) (T : Txt mg) (C_surface_of : Cal P w K mg base 3 "surface_of" fA fdA ["nodes"] (spSurfOf K)) : FnOk P w K mg base CX0 4 f fd ["nodes", "kinds"] (spPlacesIn K) := by
  refine F.ok sc_places_in (fun vs H Q E h => ?_) (fun cdv A outer s H vs Q E hr h => ?_)
  · obtain ⟨p, xs, pl, kp, ks, rfl, _⟩ := h
    rfl
  · obtain ⟨p, xs, pl, kp, ks, rfl, hS, hN, hok, hl, hK, q⟩ := h
    refine ⟨_, (pss_one (ps_ret (pe_callTy call_tuple_of (by rfl) T.tuple_ (by decide +kernel) (pa_cons (pe_lc (own := [("place", 2), ("start", 3)]) (g := gTup K 2 (gCons (gName 2) (gCons (gName 3) gNil))) (by rfl) sc_places_in.nd (piL (K := K) rfl (pe_call C_surface_of.G hr (by rfl) C_surface_of.m C_surface_of.k C_surface_of.b .nil pass0 (pa_cons (pv 0) pa_nil))) (blkOk_by (by kernel_rfl))
      (fun _ _ _ _ _ => (pgT (K := K) rfl (by rfl) (pgs_cons (pg_name (i := 2) sc_places_in.nd rfl (.inl rfl)) (pgs_cons (pg_name (i := 3) sc_places_in.nd rfl (.inl rfl)) pgs_nil)))) (fun _ _ _ _ _ => (pts_one (pt_cmpR (inQ (K := K) rfl) (pe_ix (ixT (K := K) rfl) (pe_ix (ixT (K := K) rfl) (pv 0) (pv 3) (fun _ _ => rfl)) pe_int (fun _ _ => rfl)) (pv 1) (by rfl)))) (fun _ _ _ _ _ => (pv 2))) pa_nil)))), ?_⟩
    refine ⟨_, rfl, p, xs, pl, rfl, hS, hN, hok, hl, fun l us H1 s1 n1 e1 F1 => ?_⟩
    refine ⟨l, rfl, ⟨us, SqL.of e1⟩, fun D nD => ?_⟩
    have nDH : H D = none := s1.free nD
    have hul := F1.length
    have hpl := pathsK_len (ks := open2) pl
    have hx := hN.length
    have nlD : l ≠ D := ne_of_none e1 nD
    have hps := paths_subs hok
    have hlen := Paired.length hps
    refine lcLg (K := K) (a := l) (xs := us) (fun j acc H2 => Tk H1 H2 ∧ H2 l = some (.lst us) ∧ Same H H2 ∧ PthsAt K H2 acc ((((subsP pl).take j).filter fun y => ks.contains (kindPl y.2)).map (·.1))) ⟨Tk.new nD, by rw [upd_ne nlD]; exact e1, s1.trans (same_new nD), .nil⟩ (fun j acc H2 h => SqL.of h.2.1) ?_ ?_
    · rintro j x acc H2 hx2 hl2 e ⟨t2, el, s2, hP⟩
      obtain ⟨a, b, ns, o, rfl, hk, ha, hb⟩ := F1.get hx2
      have hj := (List.getElem?_eq_some_iff.mp hx2).1
      obtain ⟨⟨pa, z⟩, hz, e1', e2', rest, e3'⟩ := paired_at hps hk
      obtain ⟨c, k, u, hxa, hna, hc, more, hmore⟩ := head_at hN e3'
      have hS2 := (stk s2).seq hS
      have hc2 := (stk s2).seq hc
      have hkk : k = kindPl z := kind_head hmore
      refine ⟨a, _, rfl, t2.seq ha, rfl, _, _, rfl, _, _, rfl, rfl, rfl, ?_⟩
      refine ⟨_, rfl, _, rfl, p, xs, _, .ref c, rfl, rfl, hS2, atI_nat hxa, c, _, 0, .str k, rfl, rfl, hc2, rfl, _, rfl, kp, _, rfl, .inr (hK H2 s2), rfl, flat_strs _, _, rfl, ?_⟩
      rw [inV_strs, hkk]
      have stp := filter_snoc (fun y : List Nat × Pl => ks.contains (kindPl y.2)) hz
      cases ec : ks.contains (kindPl z) with
      | false =>
        rw [if_neg (by decide)]
        refine ⟨acc, by omega, e, t2, el, s2, ?_⟩
        rw [stp, if_neg (by rw [ec]; decide), List.append_nil]
        exact hP
      | true =>
        rw [if_neg (by decide)]
        refine iteT ⟨_, rfl, ?_⟩
        have kp := Tk.put (ys := acc ++ [V.ref b]) e
        refine LcK.mk hl2 (by omega) e ⟨t2.trans kp, by rw [upd_ne nlD]; exact el, fun b' o' eb => ?_, ?_⟩
        · rw [upd_ne (ne_of_none eb nDH)]
          exact s2 b' o' eb
        · rw [stp, if_pos ec, List.map_append]
          have e4 : ns = pa := e1'
          have := (hP.tk kp).snoc (kp.seq (t2.seq hb))
          rw [e4] at this
          exact this
    · rintro acc H2 hl2 e ⟨t2, el, s2, hP⟩
      rw [List.take_of_length_le (by omega)] at hP
      refine ⟨D, acc, rfl, .inl ⟨SqL.of e, fun r nr => ?_⟩⟩
      exact q r acc _ (s2.trans (same_new nr)) (s2.free nr) upd_same (hP.tk (Tk.new nr))
def spStartOfP (K : PySem.W.Frag) (CI : Addr) : Sp := fun vs H Q E => ∃ p xs pl v ws, vs = [.ref p, v] ∧ SqT K H p xs ∧ NdsAt K H xs (nodesOf pl) ∧ plOk pl = true ∧ xs.length < 1000 ∧ PathV K H v ws ∧
  (∀ o : Int, startV open2 pl ws = .int o → Q (.int o) H) ∧ (startV open2 pl ws = .non → E (.ref CI) none H)
theorem ok_start_ofP {CI fB f : Addr} {fdB fd : FuncData} (F : Fun K "_start_of" "_start_of" s__start_of f fd) (RI : ErrC K mg "InvalidPlace" CI) (C_start_at : Cal P w K mg base 4 "start_at" fB fdB ["nodes", "place"] (spStartAt K)) :
    FnOk P w K mg base (L2.CX P w) 5 f fd ["nodes", "place"] (spStartOfP K CI) := by
  refine F.okX sc__start_of (fun vs H Q E h => ?_) (fun cdv A outer s H vs Q E hr h => ?_)
  · obtain ⟨p, xs, pl, v, ws, rfl, _⟩ := h
    rfl
  · obtain ⟨p, xs, pl, v, ws, rfl, hS, hN, hok, hl, hP, q1, q2⟩ := h
    refine ⟨_, (pss_cons (ps_set (i := 2) sc__start_of.nd rfl (.inl rfl) (pe_call C_start_at.G hr (by rfl) C_start_at.m C_start_at.k C_start_at.b .nil pass0 (pa_cons (pv 0) (pa_cons (pv 1) pa_nil))))
      (pss_cons (ps_if (pt_cmpR op_isN (pv 2) pe_non (nomark _))
        (pss_one (ps_raise rfl (takes_of rfl rfl rfl rfl) (pmk_own PySem.F.excBase_ValueError RI.q RI.g RI.k (raises_own RI.b RI.t) rfl))) pss_nil)
      (pss_one (ps_ret (pv 2))))), ?_⟩
    refine ⟨_, rfl, _, rfl, p, xs, pl, v, ws, rfl, hS, hN, hok, hl, hP, ?_⟩
    refine ⟨_, rfl, rfl, _, rfl, ?_⟩
    rcases startV_cases open2 pl ws with h | ⟨zs, o, t, _, _, h⟩
    · rw [h]
      exact iteT' (decide_eq_true rfl) (q2 h)
    · rw [h]
      exact iteF' (decide_eq_false (fun z => nomatch z)) ⟨_, rfl, q1 _ h⟩
/-- the tuple of all places -/
def spSurface (K : PySem.W.Frag) (C CE : Addr) : Sp := fun vs H Q E => ∃ v, vs = [v] ∧ ((∃ a pl, v = .ref a ∧ PrG K C H a (nodesOf pl) ∧ plOk pl = true ∧ (nodesOf pl).length < 1000 ∧ ∀ r us H', Same H H' → H r = none → H' r = some (.tup us) → PthsAt K H' us ((subsP pl).map (·.1)) → Q (.ref r) H') ∨
  ∃ t, TyX K H v t ∧ PySem.W.kitOne K t (.ref C) = some false ∧ E (.ref CE) none H)
theorem ok_surface {C CE fI fL fC fS pN fN f : Addr} {fdC fdS fdN fd : FuncData} (F : Fun K "surface" "surface" s_surface f fd) (T : Txt mg) (PC : PromC K mg C fI fL)
    (GC : FnOk P w K mg base (L2.CX P w) 1 fC fdC ["value"] (spCheckP K C CE)) (mC : mg "check_promise" = some (.ref fC)) (kC : PySem.W.keepIn K (.ref fC) = true) (bC : Binds K fdC ["value"] [])
    (C_surface_of : Cal P w K mg base 3 "surface_of" fS fdS ["nodes"] (spSurfOf K)) (PN : PropC P w K mg base C "nodes" 1 (spNodesP K C) pN fN fdN) : FnOk P w K mg base (L2.CX P w) 4 f fd ["promise"] (spSurface K C CE) := by
  refine F.okX sc_surface (fun vs H Q E h => ?_) (fun cdv A outer s H vs Q E hr h => ?_)
  · obtain ⟨v, rfl, _⟩ := h
    rfl
  · obtain ⟨v, rfl, h⟩ := h
    have hr1 := hr.mono (j := 1) (by omega)
    have hr2 := hr.mono (j := 2) (by omega)
    refine ⟨_, (pss_cons (ps_expr (pe_callS GC hr1 (by rfl) mC kC bC (fun σ => passAt (takes_of rfl rfl rfl rfl) σ) (pa_cons (pv 0) pa_nil)))
      (pss_one (ps_ret (pe_callTy call_tuple_of (by rfl) T.tuple_ (by decide +kernel) (pa_cons (pe_lc (own := [("place", 1), ("_", 2)]) (g := gTup K 2 (gCons (gName 1) (gCons (gName 2) gNil))) (by rfl) sc_surface.nd (piL (K := K) rfl (pe_call C_surface_of.G hr (by rfl) C_surface_of.m C_surface_of.k C_surface_of.b .nil pass0 (pa_cons (pe_prop (pv 0) PC.cl PN.p PN.ok hr2 PN.b .nil pass0 rfl) pa_nil))) (blkOk_by (by kernel_rfl))
      (fun _ _ _ _ _ => (pgT (K := K) rfl (by rfl) (pgs_cons (pg_name (i := 1) sc_surface.nd rfl (.inl rfl)) (pgs_cons (pg_name (i := 2) sc_surface.nd rfl (.inl rfl)) pgs_nil)))) (fun _ _ _ _ _ => pts_nil) (fun _ _ _ _ _ => (pv 1))) pa_nil))))), ?_⟩
    rcases h with ⟨a, pl, rfl, pr, hok, hl, q⟩ | ⟨t, ht, hk, q⟩
    · obtain ⟨dx, p, xs, ea, hs, hN, g⟩ := id pr
      refine ⟨_, rfl, .ref a, rfl, .inl ⟨a, dx, _, rfl, ea, ?_⟩⟩
      refine ⟨_, rfl, a, dx, _, rfl, ea, a, dx, _, p, rfl, ea, rfl, ?_⟩
      refine ⟨p, xs, pl, rfl, hs, hN, hok, by rw [hN.length]; exact hl, fun l us H1 s1 n1 e1 F1 => ?_⟩
      refine ⟨l, rfl, ⟨us, SqL.of e1⟩, fun D nD => ?_⟩
      have nDH : H D = none := s1.free nD
      have hul := F1.length
      have hpl := pathsK_len (ks := open2) pl
      have nlD : l ≠ D := ne_of_none e1 nD
      refine lcLg (K := K) (a := l) (xs := us) (fun j acc H2 => Tk H1 H2 ∧ H2 l = some (.lst us) ∧ Same H H2 ∧ PthsAt K H2 acc (((pathsK open2 pl).map (·.1)).take j)) ⟨Tk.new nD, by rw [upd_ne nlD]; exact e1, s1.trans (same_new nD), .nil⟩ (fun j acc H2 h => SqL.of h.2.1) ?_ ?_
      · rintro j x acc H2 hx2 hl2 e ⟨t2, el, s2, hP⟩
        obtain ⟨a, b, ns, o, rfl, hk, ha, hb⟩ := F1.get hx2
        have hj := (List.getElem?_eq_some_iff.mp hx2).1
        refine ⟨a, _, rfl, t2.seq ha, rfl, _, _, rfl, _, _, rfl, rfl, rfl, yesT ⟨_, rfl, ?_⟩⟩
        have kp := Tk.put (ys := acc ++ [V.ref b]) e
        refine LcK.mk hl2 (by omega) e ⟨t2.trans kp, by rw [upd_ne nlD]; exact el, fun b' o' eb => ?_, ?_⟩
        · rw [upd_ne (ne_of_none eb nDH)]
          exact s2 b' o' eb
        · have hk2 : ((pathsK open2 pl).map (·.1))[j]? = some ns := by rw [List.getElem?_map, hk]; rfl
          rw [take_succ' hk2]
          exact (hP.tk kp).snoc (kp.seq (t2.seq hb))
      · rintro acc H2 hl2 e ⟨t2, el, s2, hP⟩
        rw [List.take_of_length_le (by rw [List.length_map]; omega), paths_fst hok] at hP
        refine ⟨D, acc, rfl, .inl ⟨SqL.of e, fun r nr => ?_⟩⟩
        exact q r acc _ (s2.trans (same_new nr)) (s2.free nr) upd_same (hP.tk (Tk.new nr))
    · exact ⟨_, rfl, v, rfl, .inr ⟨t, ht, hk, q⟩⟩
end
end Eh
set_option Elab.async false
set_option linter.all false
set_option maxRecDepth 100000
set_option maxHeartbeats 4000000
namespace Eh
open PySem PySem.Spec PyProof.Rows L2
section
variable {P : Program} {w : World} {K : PySem.W.Frag} {mg : Str → Option Value} {base : Heap}
def spPartAt (K : PySem.W.Frag) (C CI : Addr) : Sp := fun vs H Q E => ∃ a pl v ws, vs = [.ref a, v] ∧ PrG K C H a (nodesOf pl) ∧ plOk pl = true ∧ (nodesOf pl).length < 1000 ∧ PathV K H v ws ∧
  (∀ zs o q, ws = some zs → walkV open2 pl zs = some (o, q) → okB (nodesOf q) = true ∧ ∀ x H', Same H H' → H x = none → PrG K C H' x (nodesOf q) → Q (.ref x) H') ∧ (startV open2 pl ws = .non → E (.ref CI) none H)
theorem ok_part_at {C CE CI fI fL fK fS fP pN fN f : Addr} {fdK fdI fdS fdP fdN fd : FuncData} (F : Fun K "part_at" "part_at" s_part_at f fd) (PC : PromC K mg C fI fL)
    (GK : FnOk P w K mg base (L2.CX P w) 1 fK fdK ["value"] (spCheckP K C CE)) (mK : mg "check_promise" = some (.ref fK)) (kK : PySem.W.keepIn K (.ref fK) = true) (bK : Binds K fdK ["value"] [])
    (GS : FnOk P w K mg base (L2.CX P w) 5 fS fdS ["nodes", "place"] (spStartOfP K CI)) (mS : mg "_start_of" = some (.ref fS)) (kS : PySem.W.keepIn K (.ref fS) = true) (bS : Binds K fdS ["nodes", "place"] [])
    (C_part_from : Cal P w K mg base 2 "part_from" fP fdP ["nodes", "start"] (spPartFrom K)) (PN : PropC P w K mg base C "nodes" 1 (spNodesP K C) pN fN fdN)
    (GI : FnOk P w K mg base (L2.CX P w) 4 fI fdI ["self", "nodes"] (spInitE K C CE)) (bI : Binds K fdI ["self", "nodes"] []) : FnOk P w K mg base (L2.CX P w) 6 f fd ["promise", "place"] (spPartAt K C CI) := by
  refine F.okX sc_part_at (fun vs H Q E h => ?_) (fun cdv A outer s H vs Q E hr h => ?_)
  · obtain ⟨a, pl, v, ws, rfl, _⟩ := h
    rfl
  · obtain ⟨a, pl, v, ws, rfl, pr, hok, hl, hP, q1, q2⟩ := h
    obtain ⟨dx, p, xs, ea, hs, hN, g⟩ := id pr
    have hr2 := hr.mono (j := 2) (by omega)
    have hr1 := hr.mono (j := 1) (by omega)
    refine ⟨_, (pss_cons (ps_expr (pe_callS GK hr1 (by rfl) mK kK bK (fun σ => passAt (takes_of rfl rfl rfl rfl) σ) (pa_cons (pv 0) pa_nil)))
      (pss_one (ps_ret (pe_makeS PC.mkC GI hr (by rfl) PC.g bI (fun σ => passAt (takes_of rfl rfl rfl rfl) σ) (pa_cons (pe_call C_part_from.G hr2 (by rfl) C_part_from.m C_part_from.k C_part_from.b .nil pass0 (pa_cons (pe_prop (pv 0) PC.cl PN.p PN.ok hr2 PN.b .nil pass0 rfl) (pa_cons (pe_callS GS hr (by rfl) mS kS bS (fun σ => passAt (takes_of rfl rfl rfl rfl) σ) (pa_cons (pe_prop (pv 0) PC.cl PN.p PN.ok hr2 PN.b .nil pass0 rfl) (pa_cons (pv 1) pa_nil))) pa_nil))) pa_nil))))), ?_⟩
    refine ⟨_, rfl, .ref a, rfl, .inl ⟨a, dx, _, rfl, ea, ?_⟩⟩
    refine ⟨_, rfl, a, dx, _, rfl, ea, a, dx, _, p, rfl, ea, rfl, ?_⟩
    refine ⟨_, rfl, a, dx, _, rfl, ea, a, dx, _, p, rfl, ea, rfl, _, rfl, ?_⟩
    refine ⟨p, xs, pl, v, ws, rfl, hs, hN, hok, by rw [hN.length]; exact hl, hP, fun o eo => ?_, q2⟩
    rcases startV_cases open2 pl ws with h | ⟨zs, o', t, ews, ewk, h⟩
    · rw [eo] at h
      cases h
    rw [eo] at h
    cases h
    obtain ⟨rest, hd, hokt⟩ := walk_drop hok ewk
    obtain ⟨okt, q⟩ := q1 zs o' t ews ewk
    have gt : GoodN (nodesOf t) := good_sub g (drop_pre hd)
    refine ⟨p, xs, nodesOf pl, o', t, rest, rfl, hs, hN, by rw [hN.length]; exact hl, hd, hokt, fun r ys H1 s1 hr1 N1 => ?_⟩
    refine fun x dx nx nd ne => ?_
    exact makeS_steps nx nd hr1 N1 gt (fun _ H4 s4 pr4 => q x H4 (s1.trans s4) (s1.free nx) pr4) fun z => by rw [okt] at z; cases z
def spReplaced (K : PySem.W.Frag) (C CE CI : Addr) : Sp := fun vs H Q E => ∃ a b pl ms v ws, vs = [.ref a, v, .ref b] ∧ PrG K C H a (nodesOf pl) ∧ plOk pl = true ∧ (nodesOf pl).length < 1000 ∧ PrG K C H b ms ∧ ms.length < 1000 ∧ PathV K H v ws ∧
  (∀ zs o q rest, ws = some zs → walkV open2 pl zs = some (o, q) → (nodesOf pl).drop o = nodesOf q ++ rest →
    (okB ((nodesOf pl).take o ++ (ms ++ rest)) = true → ∀ x H', Same H H' → H x = none → PrG K C H' x ((nodesOf pl).take o ++ (ms ++ rest)) → Q (.ref x) H') ∧ (okB ((nodesOf pl).take o ++ (ms ++ rest)) = false → ∀ H', Same H H' → E (.ref CE) none H')) ∧
  (startV open2 pl ws = .non → E (.ref CI) none H)
theorem ok_replaced {C CE CI fI fL fK fS fX pN fN f : Addr} {fdK fdI fdS fdX fdN fd : FuncData} (F : Fun K "replaced" "replaced" s_replaced f fd) (T : Txt mg) (PC : PromC K mg C fI fL) (IC : IsC K C)
    (GK : FnOk P w K mg base (L2.CX P w) 1 fK fdK ["value"] (spCheckP K C CE)) (mK : mg "check_promise" = some (.ref fK)) (kK : PySem.W.keepIn K (.ref fK) = true) (bK : Binds K fdK ["value"] [])
    (GS : FnOk P w K mg base (L2.CX P w) 5 fS fdS ["nodes", "place"] (spStartOfP K CI)) (mS : mg "_start_of" = some (.ref fS)) (kS : PySem.W.keepIn K (.ref fS) = true) (bS : Binds K fdS ["nodes", "place"] [])
    (C_exchanged_from : Cal P w K mg base 2 "exchanged_from" fX fdX ["nodes", "start", "other"] (spExFrom K)) (PN : PropC P w K mg base C "nodes" 1 (spNodesP K C) pN fN fdN)
    (GI : FnOk P w K mg base (L2.CX P w) 4 fI fdI ["self", "nodes"] (spInitE K C CE)) (bI : Binds K fdI ["self", "nodes"] []) : FnOk P w K mg base (L2.CX P w) 6 f fd ["promise", "place", "other"] (spReplaced K C CE CI) := by
  refine F.okX sc_replaced (fun vs H Q E h => ?_) (fun cdv A outer s H vs Q E hr h => ?_)
  · obtain ⟨a, b, pl, ms, v, ws, rfl, _⟩ := h
    rfl
  · obtain ⟨a, b, pl, ms, v, ws, rfl, pr, hok, hl, pr2, hl2, hP, q1, q2⟩ := h
    obtain ⟨dx, p, xs, ea, hs, hN, g⟩ := id pr
    obtain ⟨dx2, p2, xs2, eb, hs2, hN2, g2⟩ := id pr2
    have hr2 := hr.mono (j := 2) (by omega)
    have hr1 := hr.mono (j := 1) (by omega)
    refine ⟨_, (pss_cons (ps_expr (pe_callS GK hr1 (by rfl) mK kK bK (fun σ => passAt (takes_of rfl rfl rfl rfl) σ) (pa_cons (pv 0) pa_nil)))
      (pss_cons (ps_set (i := 3) sc_replaced.nd rfl (.inl rfl) (pe_callS GS hr (by rfl) mS kS bS (fun σ => passAt (takes_of rfl rfl rfl rfl) σ) (pa_cons (pe_prop (pv 0) PC.cl PN.p PN.ok hr2 PN.b .nil pass0 rfl) (pa_cons (pv 1) pa_nil))))
      (pss_cons (ps_if (pt_not (pt_val (pe_callB (isiQ (K := K) rfl) (by rfl) T.isinstance_ (by decide +kernel) (pa_cons (pv 2) (pa_cons (pe_glob (v := .ref C) rfl PC.g rfl) pa_nil)))))
        (pss_one ps_never) pss_nil)
      (pss_one (ps_ret (pe_makeS PC.mkC GI hr (by rfl) PC.g bI (fun σ => passAt (takes_of rfl rfl rfl rfl) σ) (pa_cons (pe_call C_exchanged_from.G hr2 (by rfl) C_exchanged_from.m C_exchanged_from.k C_exchanged_from.b .nil pass0 (pa_cons (pe_prop (pv 0) PC.cl PN.p PN.ok hr2 PN.b .nil pass0 rfl) (pa_cons (pv 3) (pa_cons (pe_prop (pv 2) PC.cl PN.p PN.ok hr2 PN.b .nil pass0 rfl) pa_nil)))) pa_nil))))))), ?_⟩
    refine ⟨_, rfl, .ref a, rfl, .inl ⟨a, dx, _, rfl, ea, ?_⟩⟩
    refine ⟨_, rfl, a, dx, _, rfl, ea, a, dx, _, p, rfl, ea, rfl, _, rfl, ?_⟩
    refine ⟨p, xs, pl, v, ws, rfl, hs, hN, hok, by rw [hN.length]; exact hl, hP, fun o eo => ?_, q2⟩
    rcases startV_cases open2 pl ws with h | ⟨zs, o', t, ews, ewk, h⟩
    · rw [eo] at h
      cases h
    rw [eo] at h
    cases h
    obtain ⟨rest, hd, hokt⟩ := walk_drop hok ewk
    obtain ⟨q3, q4⟩ := q1 zs o' t rest ews ewk hd
    refine ⟨_, rfl, .ref b, .ref C, .ref C, .ref C, true, rfl, .own _, .base (.ins eb PC.cl IC.cls IC.sp IC.tk IC.mro), IC.self, _, rfl, iteF ?_⟩
    refine ⟨_, rfl, a, dx, _, rfl, ea, a, dx, _, p, rfl, ea, rfl, _, rfl, _, rfl, b, dx2, _, rfl, eb, b, dx2, _, p2, rfl, eb, rfl, ?_⟩
    refine ⟨p, p2, xs, xs2, nodesOf pl, ms, o', t, rest, rfl, hs, hN, by rw [hN.length]; exact hl, hs2, hN2, by rw [hN2.length]; exact hl2, hd, hokt, fun r us H1 s1 h1 N1 => ?_⟩
    refine fun x dx nx nd ne => ?_
    exact makeS_steps nx nd h1 N1 (good_ex g g2 hd) (fun ek H4 s4 pr4 => q3 ek x H4 (s1.trans s4) (s1.free nx) pr4) fun z H4 s4 => q4 z H4 (s1.trans s4)
end
end Eh
set_option Elab.async false
set_option linter.all false
set_option maxRecDepth 100000
set_option maxHeartbeats 4000000
namespace Eh
open PySem PySem.Spec PyProof.Rows L2
/-- the class Surface -/
structure SurC (K : PySem.W.Frag) (mg : Str → Option Value) (C fI : Addr) : Prop where
  g : mg "Surface" = some (.ref C)
  mkC : Mk K C fI
  cl : Cls K C
  np : NoAttr K C "_places"
  nq : NoAttr K C "_promise"
/-- a surface of a promise -/
def SfAt (K : PySem.W.Frag) (C CS : Addr) (H : Hp) (a b : Addr) (pl : Pl) : Prop := ∃ dx t us, H a = some (.ins CS dx [(("_places" : Str), .ref t), (("_promise" : Str), .ref b)]) ∧ SqT K H t us ∧ PthsAt K H us ((subsP pl).map (·.1)) ∧ PrG K C H b (nodesOf pl)
theorem SfAt.sm {K : PySem.W.Frag} {C CS a b : Addr} {H H' : Hp} {pl : Pl} (h : SfAt K C CS H a b pl) (s : Same H H') : SfAt K C CS H' a b pl := by
  obtain ⟨dx, t, us, e, hs, hP, pr⟩ := h
  exact ⟨dx, t, us, s _ _ e, (stk s).seq hs, hP.tk (stk s), pr.sm s⟩
section
variable {P : Program} {w : World} {K : PySem.W.Frag} {mg : Str → Option Value} {base : Heap}
def spSInit (K : PySem.W.Frag) (C CS : Addr) : Sp := fun vs H Q _ => ∃ x dx b pl, vs = [.ref x, .ref b] ∧ H x = some (.ins CS dx []) ∧ PrG K C H b (nodesOf pl) ∧ plOk pl = true ∧ (nodesOf pl).length < 1000 ∧
  ∀ H', But x H H' → SfAt K C CS H' x b pl → Q .non H'
theorem ok_sInit {C CE CS fI fL fS f : Addr} {fdS fd : FuncData} (F : Fun K "__init__" "Surface.__init__" s_Surface___init__ f fd) (SC : SurC K mg CS f)
    (GS : FnOk P w K mg base (L2.CX P w) 4 fS fdS ["promise"] (spSurface K C CE)) (mS : mg "surface" = some (.ref fS)) (kS : PySem.W.keepIn K (.ref fS) = true) (bS : Binds K fdS ["promise"] []) :
    FnOk P w K mg base (L2.CX P w) 5 f fd ["self", "promise"] (spSInit K C CS) := by
  refine F.okX sc_Surface___init__ (fun vs H Q E h => ?_) (fun cdv A outer s H vs Q E hr h => ?_)
  · obtain ⟨x, dx, b, pl, rfl, _⟩ := h
    rfl
  · obtain ⟨x, dx, b, pl, rfl, ex, pr, hok, hl, q⟩ := h
    refine ⟨_, (pss_cons (ps_fld (pv 0) (pe_callS GS hr (by rfl) mS kS bS (fun σ => passAt (takes_of rfl rfl rfl rfl) σ) (pa_cons (pv 1) pa_nil)) rfl)
      (pss_one (ps_fld (pv 0) (pv 1) rfl))), ?_⟩
    refine ⟨_, rfl, .ref b, rfl, .inl ⟨b, pl, rfl, pr, hok, hl, fun r us H1 s1 nr e1 hP => ?_⟩⟩
    have ex1 := s1 _ _ ex
    have pr1 := pr.sm s1
    have bt1 : But x H H1 := fun c o _ e => s1 c o e
    have nrx : r ≠ x := ne_of_none (o := .ins CS dx []) ex nr |>.symm
    refine ⟨_, rfl, x, CS, dx, [], rfl, ex1, SC.cl, SC.np, by decide, ?_⟩
    refine ⟨_, rfl, _, rfl, x, CS, dx, [(("_places" : Str), .ref r)], rfl, upd_same, SC.cl, SC.nq, (show (1 : Nat) < 1000 by decide), ?_⟩
    have kp : ∀ c o, c ≠ x → H1 c = some o → (upd (upd H1 x (.ins CS dx [(("_places" : Str), .ref r)])) x (.ins CS dx [(("_places" : Str), .ref r), (("_promise" : Str), .ref b)])) c = some o := fun c o n e => by
      rw [upd_ne n, upd_ne n]
      exact e
    have tk : Tk H1 (upd (upd H1 x (.ins CS dx [(("_places" : Str), .ref r)])) x (.ins CS dx [(("_places" : Str), .ref r), (("_promise" : Str), .ref b)])) := fun c ys h => by
      have n : c ≠ x := fun z => by
        rw [z] at h
        rcases h with h | ⟨o, h⟩
        · rw [ex1] at h; cases h
        · rw [ex1] at h; cases h
      rcases h with h | ⟨o, h⟩
      · exact .inl (kp c _ n h)
      · exact .inr ⟨o, kp c _ n h⟩
    refine q (upd (upd H1 x (.ins CS dx [(("_places" : Str), .ref r)])) x (.ins CS dx [(("_places" : Str), .ref r), (("_promise" : Str), .ref b)])) (fun c o n e => kp c o n (s1 _ _ e)) ⟨dx, r, us, upd_same, tk.seq (SqT.of e1), hP.tk tk, ?_⟩
    obtain ⟨dy, p, xs, eb, hs, hN, g⟩ := pr1
    have nbx : b ≠ x := fun z => by
      rw [z, ex1] at eb
      cases eb
    exact ⟨dy, p, xs, kp _ _ nbx eb, tk.seq hs, hN.tk tk, g⟩
def spSProm (K : PySem.W.Frag) (C CS : Addr) : Sp := fun vs H Q _ => ∃ a b pl, vs = [.ref a] ∧ SfAt K C CS H a b pl ∧ Q (.ref b) H
theorem ok_sProm {C CS fI f : Addr} {fd : FuncData} (F : Fun K "promise" "Surface.promise" s_Surface_promise f fd) (SC : SurC K mg CS fI) : FnOk P w K mg base CX0 1 f fd ["self"] (spSProm K C CS) := by
  refine F.ok sc_Surface_promise (fun vs H Q E h => ?_) (fun cdv A outer s H vs Q E hr h => ?_)
  · obtain ⟨a, b, pl, rfl, _⟩ := h
    rfl
  · obtain ⟨a, b, pl, rfl, ⟨dx, t, us, ea, hs, hP, pr⟩, q⟩ := h
    exact ⟨_, (pss_one (ps_ret (pe_fld (pv 0) rfl))), _, rfl, a, CS, dx, _, .ref b, rfl, ea, SC.cl, SC.nq, rfl, q⟩
def spSPlaces (K : PySem.W.Frag) (C CS : Addr) : Sp := fun vs H Q _ => ∃ a b pl, vs = [.ref a] ∧ SfAt K C CS H a b pl ∧ ∀ t us, SqT K H t us → PthsAt K H us ((subsP pl).map (·.1)) → Q (.ref t) H
theorem ok_sPlaces {C CS fI f : Addr} {fd : FuncData} (F : Fun K "places" "Surface.places" s_Surface_places f fd) (SC : SurC K mg CS fI) : FnOk P w K mg base CX0 1 f fd ["self"] (spSPlaces K C CS) := by
  refine F.ok sc_Surface_places (fun vs H Q E h => ?_) (fun cdv A outer s H vs Q E hr h => ?_)
  · obtain ⟨a, b, pl, rfl, _⟩ := h
    rfl
  · obtain ⟨a, b, pl, rfl, ⟨dx, t, us, ea, hs, hP, pr⟩, q⟩ := h
    exact ⟨_, (pss_one (ps_ret (pe_fld (pv 0) rfl))), _, rfl, a, CS, dx, _, .ref t, rfl, ea, SC.cl, SC.np, rfl, q t us hs hP⟩
def spSOf (K : PySem.W.Frag) (C CS : Addr) (ks : List Str) : Sp := fun vs H Q _ => ∃ a b pl, vs = [.ref a] ∧ SfAt K C CS H a b pl ∧ plOk pl = true ∧ (nodesOf pl).length < 1000 ∧ ∀ r us H', Same H H' → H r = none → H' r = some (.tup us) → PthsAt K H' us (inK ks pl) → Q (.ref r) H'
theorem ok_sMine {C CS fI fL fI2 fP pN fN f : Addr} {fdP fdN fd : FuncData} (F : Fun K "mine" "Surface.mine" s_Surface_mine f fd) (PC : PromC K mg C fI fL) (SC : SurC K mg CS fI2) (C_places_in : Cal P w K mg base 4 "places_in" fP fdP ["nodes", "kinds"] (spPlacesIn K)) (PN : PropC P w K mg base C "nodes" 1 (spNodesP K C) pN fN fdN) :
    FnOk P w K mg base CX0 5 f fd ["self"] (spSOf K C CS ["mine"]) := by
  refine F.ok sc_Surface_mine (fun vs H Q E h => ?_) (fun cdv A outer s H vs Q E hr h => ?_)
  · obtain ⟨a, b, pl, rfl, _⟩ := h
    rfl
  · obtain ⟨a, b, pl, rfl, ⟨dx, t, us, ea, hs, hP, pr⟩, hok, hl, q⟩ := h
    obtain ⟨dy, p, xs, eb, hs2, hN, g⟩ := id pr
    have hr2 := hr.mono (j := 2) (by omega)
    refine ⟨_, (pss_one (ps_ret (pe_call C_places_in.G hr (by rfl) C_places_in.m C_places_in.k C_places_in.b .nil pass0 (pa_cons (pe_prop (pe_fld (pv 0) rfl) PC.cl PN.p PN.ok hr2 PN.b .nil pass0 rfl) (pa_cons (pe_tup (pa_cons pe_str pa_nil)) pa_nil))))), ?_⟩
    refine ⟨_, rfl, a, CS, dx, _, .ref b, rfl, ea, SC.cl, SC.nq, rfl, b, dy, _, rfl, eb, b, dy, _, p, rfl, eb, rfl, lenOk 1, fun kp nk => ?_⟩
    have s1 : Same H (upd H kp (.tup [.str "mine"])) := same_new nk
    refine ⟨p, xs, pl, kp, ["mine"], rfl, (stk s1).seq hs2, hN.tk (stk s1), hok, by rw [hN.length]; exact hl, fun H' s' => (stk s').seq (SqT.of upd_same), fun r us H' s' nr er hu => ?_⟩
    exact q r us H' (s1.trans s') (s1.free nr) er hu
theorem ok_sYours {C CS fI fL fI2 fP pN fN f : Addr} {fdP fdN fd : FuncData} (F : Fun K "yours" "Surface.yours" s_Surface_yours f fd) (PC : PromC K mg C fI fL) (SC : SurC K mg CS fI2) (C_places_in : Cal P w K mg base 4 "places_in" fP fdP ["nodes", "kinds"] (spPlacesIn K)) (PN : PropC P w K mg base C "nodes" 1 (spNodesP K C) pN fN fdN) :
    FnOk P w K mg base CX0 5 f fd ["self"] (spSOf K C CS ["yours"]) := by
  refine F.ok sc_Surface_yours (fun vs H Q E h => ?_) (fun cdv A outer s H vs Q E hr h => ?_)
  · obtain ⟨a, b, pl, rfl, _⟩ := h
    rfl
  · obtain ⟨a, b, pl, rfl, ⟨dx, t, us, ea, hs, hP, pr⟩, hok, hl, q⟩ := h
    obtain ⟨dy, p, xs, eb, hs2, hN, g⟩ := id pr
    have hr2 := hr.mono (j := 2) (by omega)
    refine ⟨_, (pss_one (ps_ret (pe_call C_places_in.G hr (by rfl) C_places_in.m C_places_in.k C_places_in.b .nil pass0 (pa_cons (pe_prop (pe_fld (pv 0) rfl) PC.cl PN.p PN.ok hr2 PN.b .nil pass0 rfl) (pa_cons (pe_tup (pa_cons pe_str pa_nil)) pa_nil))))), ?_⟩
    refine ⟨_, rfl, a, CS, dx, _, .ref b, rfl, ea, SC.cl, SC.nq, rfl, b, dy, _, rfl, eb, b, dy, _, p, rfl, eb, rfl, lenOk 1, fun kp nk => ?_⟩
    have s1 : Same H (upd H kp (.tup [.str "yours"])) := same_new nk
    refine ⟨p, xs, pl, kp, ["yours"], rfl, (stk s1).seq hs2, hN.tk (stk s1), hok, by rw [hN.length]; exact hl, fun H' s' => (stk s').seq (SqT.of upd_same), fun r us H' s' nr er hu => ?_⟩
    exact q r us H' (s1.trans s') (s1.free nr) er hu
def plain4 : List Str := ["fact", "no", "not", "yes"]
theorem ok_sPlain {C CS fI fL fI2 fP pP pN fN f : Addr} {fdP fdN fd : FuncData} (F : Fun K "plain" "Surface.plain" s_Surface_plain f fd) (PC : PromC K mg C fI fL) (SC : SurC K mg CS fI2) (WP : TupAt K mg "PLAIN" pP plain4) (C_places_in : Cal P w K mg base 4 "places_in" fP fdP ["nodes", "kinds"] (spPlacesIn K)) (PN : PropC P w K mg base C "nodes" 1 (spNodesP K C) pN fN fdN) :
    FnOk P w K mg base CX0 5 f fd ["self"] (spSOf K C CS plain4) := by
  refine F.ok sc_Surface_plain (fun vs H Q E h => ?_) (fun cdv A outer s H vs Q E hr h => ?_)
  · obtain ⟨a, b, pl, rfl, _⟩ := h
    rfl
  · obtain ⟨a, b, pl, rfl, ⟨dx, t, us, ea, hs, hP, pr⟩, hok, hl, q⟩ := h
    obtain ⟨dy, p, xs, eb, hs2, hN, g⟩ := id pr
    have hr2 := hr.mono (j := 2) (by omega)
    refine ⟨_, (pss_one (ps_ret (pe_call C_places_in.G hr (by rfl) C_places_in.m C_places_in.k C_places_in.b .nil pass0 (pa_cons (pe_prop (pe_fld (pv 0) rfl) PC.cl PN.p PN.ok hr2 PN.b .nil pass0 rfl) (pa_cons (pe_glob (v := .ref pP) rfl WP.1 rfl) pa_nil))))), ?_⟩
    exact ⟨_, rfl, a, CS, dx, _, .ref b, rfl, ea, SC.cl, SC.nq, rfl, b, dy, _, rfl, eb, b, dy, _, p, rfl, eb, rfl, p, xs, pl, pP, plain4, rfl, hs2, hN, hok, by rw [hN.length]; exact hl, fun H' s' => WP.2 H', fun r us H' s' nr er hu => q r us H' s' nr er hu⟩
def spSOver (K : PySem.W.Frag) (C CS : Addr) : Sp := fun vs H Q _ => ∃ a b pl, vs = [.ref a] ∧ SfAt K C CS H a b pl ∧ plOk pl = true ∧ (nodesOf pl).length < 1000 ∧ ∀ H', Same H H' → Q (.bl (decide ((inK ["mine", "yours"] pl).length = 0))) H'
theorem ok_sOver {C CS fI fL fI2 fP pN fN f : Addr} {fdP fdN fd : FuncData} (F : Fun K "is_over" "Surface.is_over" s_Surface_is_over f fd) (T : Txt mg) (PC : PromC K mg C fI fL) (SC : SurC K mg CS fI2) (C_places_in : Cal P w K mg base 4 "places_in" fP fdP ["nodes", "kinds"] (spPlacesIn K)) (PN : PropC P w K mg base C "nodes" 1 (spNodesP K C) pN fN fdN) :
    FnOk P w K mg base CX0 5 f fd ["self"] (spSOver K C CS) := by
  refine F.ok sc_Surface_is_over (fun vs H Q E h => ?_) (fun cdv A outer s H vs Q E hr h => ?_)
  · obtain ⟨a, b, pl, rfl, _⟩ := h
    rfl
  · obtain ⟨a, b, pl, rfl, ⟨dx, t, us, ea, hs, hP, pr⟩, hok, hl, q⟩ := h
    obtain ⟨dy, p, xs, eb, hs2, hN, g⟩ := id pr
    have hr2 := hr.mono (j := 2) (by omega)
    refine ⟨_, (pss_one (ps_ret (pe_cmpR op_eq (pe_callB (lenQ (K := K) rfl) (by rfl) T.len_ (by decide +kernel) (pa_cons (pe_call C_places_in.G hr (by rfl) C_places_in.m C_places_in.k C_places_in.b .nil pass0 (pa_cons (pe_prop (pe_fld (pv 0) rfl) PC.cl PN.p PN.ok hr2 PN.b .nil pass0 rfl) (pa_cons (pe_tup (pa_cons pe_str (pa_cons pe_str pa_nil))) pa_nil))) pa_nil)) pe_int (nomark _)))), ?_⟩
    refine ⟨_, rfl, a, CS, dx, _, .ref b, rfl, ea, SC.cl, SC.nq, rfl, b, dy, _, rfl, eb, b, dy, _, p, rfl, eb, rfl, lenOk 2, fun kp nk => ?_⟩
    have s1 : Same H (upd H kp (.tup [.str "mine", .str "yours"])) := same_new nk
    refine ⟨p, xs, pl, kp, ["mine", "yours"], rfl, (stk s1).seq hs2, hN.tk (stk s1), hok, by rw [hN.length]; exact hl, fun H' s' => (stk s').seq (SqT.of upd_same), fun r us H' s' nr er hu => ?_⟩
    refine .inl ⟨r, us, rfl, .inr (SqT.of er), rfl, ?_⟩
    have := q H' (s1.trans s')
    show Q (.bl (decide (V.int (us.length : Int) = V.int 0))) H'
    rw [show decide (V.int (us.length : Int) = V.int 0) = decide ((inK ["mine", "yours"] pl).length = 0) from decide_eq_decide.mpr ⟨fun z => by injection z with z; have := hu.length; omega, fun z => by have := hu.length; rw [show us.length = 0 by omega]; rfl⟩]
    exact this
def spSLen (K : PySem.W.Frag) (C CS : Addr) : Sp := fun vs H Q _ => ∃ a b pl, vs = [.ref a] ∧ SfAt K C CS H a b pl ∧ Q (.int ((subsP pl).length : Nat)) H
theorem ok_sLen {C CS fI f : Addr} {fd : FuncData} (F : Fun K "__len__" "Surface.__len__" s_Surface___len__ f fd) (T : Txt mg) (SC : SurC K mg CS fI) : FnOk P w K mg base CX0 1 f fd ["self"] (spSLen K C CS) := by
  refine F.ok sc_Surface___len__ (fun vs H Q E h => ?_) (fun cdv A outer s H vs Q E hr h => ?_)
  · obtain ⟨a, b, pl, rfl, _⟩ := h
    rfl
  · obtain ⟨a, b, pl, rfl, ⟨dx, t, us, ea, hs, hP, pr⟩, q⟩ := h
    have hu := hP.length
    rw [List.length_map] at hu
    rw [← hu] at q
    refine ⟨_, (pss_one (ps_ret (pe_callB (lenQ (K := K) rfl) (by rfl) T.len_ (by decide +kernel) (pa_cons (pe_fld (pv 0) rfl) pa_nil)))), ?_⟩
    exact ⟨_, rfl, a, CS, dx, _, .ref t, rfl, ea, SC.cl, SC.np, rfl, .inl ⟨t, us, rfl, .inr hs, q⟩⟩
def spSIter (K : PySem.W.Frag) (CS : Addr) : Nat → Sp := fun n vs H Q _ => ∃ a dx t xs r, vs = [.ref a] ∧ H a = some (.ins CS dx ((("_places" : Str), .ref t) :: r)) ∧ SqT K H t xs ∧ ∀ it, H it = none → n ≤ it → Q (.ref it) (upd H it (ItT t it))
theorem ok_sIter {CS fI f : Addr} {fd : FuncData} (F : Fun K "__iter__" "Surface.__iter__" s_Surface___iter__ f fd) (T : Txt mg) (SC : SurC K mg CS fI) : FnN P w K mg base 1 f fd ["self"] (spSIter K CS) := by
  refine funN F sc_Surface___iter__ (fun n vs H Q E h => ?_) (fun cdv A outer s H vs Q E hr h => ?_)
  · obtain ⟨a, dx, t, xs, r, rfl, _⟩ := h
    rfl
  · obtain ⟨a, dx, t, xs, r, rfl, ha, hs, q⟩ := h
    refine ⟨_, (pss_one (ps_ret (pe_callB call_iterT (by rfl) T.iter_ (by decide +kernel) (pa_cons (pe_fld (pv 0) rfl) pa_nil)))), ?_⟩
    exact ⟨_, rfl, a, CS, dx, _, .ref t, rfl, ha, SC.cl, SC.np, rfl, t, xs, rfl, hs, q⟩
/-- whether a value is a place -/
def isPl (pl : Pl) (ws : Option (List V)) : Bool := !decide (startV open2 pl ws = .non)
def spSHas (K : PySem.W.Frag) (C CS : Addr) : Sp := fun vs H Q _ => ∃ a b pl v ws, vs = [.ref a, v] ∧ SfAt K C CS H a b pl ∧ plOk pl = true ∧ (nodesOf pl).length < 1000 ∧ PathV K H v ws ∧ Q (.bl (isPl pl ws)) H
theorem ok_sHas {C CS fI fL fI2 fA pN fN f : Addr} {fdA fdN fd : FuncData} (F : Fun K "__contains__" "Surface.__contains__" s_Surface___contains__ f fd) (PC : PromC K mg C fI fL) (SC : SurC K mg CS fI2) (C_start_at : Cal P w K mg base 4 "start_at" fA fdA ["nodes", "place"] (spStartAt K)) (PN : PropC P w K mg base C "nodes" 1 (spNodesP K C) pN fN fdN) :
    FnOk P w K mg base CX0 5 f fd ["self", "value"] (spSHas K C CS) := by
  refine F.ok sc_Surface___contains__ (fun vs H Q E h => ?_) (fun cdv A outer s H vs Q E hr h => ?_)
  · obtain ⟨a, b, pl, v, ws, rfl, _⟩ := h
    rfl
  · obtain ⟨a, b, pl, v, ws, rfl, ⟨dx, t, us, ea, hs, hP, pr⟩, hok, hl, hv, q⟩ := h
    obtain ⟨dy, p, xs, eb, hs2, hN, g⟩ := id pr
    have hr2 := hr.mono (j := 2) (by omega)
    refine ⟨_, (pss_one (ps_ret (pe_cmpR op_notN (pe_call C_start_at.G hr (by rfl) C_start_at.m C_start_at.k C_start_at.b .nil pass0 (pa_cons (pe_prop (pe_fld (pv 0) rfl) PC.cl PN.p PN.ok hr2 PN.b .nil pass0 rfl) (pa_cons (pv 1) pa_nil))) pe_non (nomark _)))), ?_⟩
    refine ⟨_, rfl, a, CS, dx, _, .ref b, rfl, ea, SC.cl, SC.nq, rfl, b, dy, _, rfl, eb, b, dy, _, p, rfl, eb, rfl, _, rfl, p, xs, pl, v, ws, rfl, hs2, hN, hok, by rw [hN.length]; exact hl, hv, ?_⟩
    exact ⟨rfl, q⟩
def spSItem (K : PySem.W.Frag) (C CS CI : Addr) : Sp := fun vs H Q E => ∃ a b pl v ws, vs = [.ref a, v] ∧ SfAt K C CS H a b pl ∧ plOk pl = true ∧ (nodesOf pl).length < 1000 ∧ PathV K H v ws ∧
  (∀ zs o q, ws = some zs → walkV open2 pl zs = some (o, q) → okB (nodesOf q) = true ∧ ∀ x H', Same H H' → H x = none → PrG K C H' x (nodesOf q) → Q (.ref x) H') ∧ (startV open2 pl ws = .non → E (.ref CI) none H)
theorem ok_sItem {C CS CI fI2 fA f : Addr} {fdA fd : FuncData} (F : Fun K "__getitem__" "Surface.__getitem__" s_Surface___getitem__ f fd) (SC : SurC K mg CS fI2)
    (GA : FnOk P w K mg base (L2.CX P w) 6 fA fdA ["promise", "place"] (spPartAt K C CI)) (mA : mg "part_at" = some (.ref fA)) (kA : PySem.W.keepIn K (.ref fA) = true) (bA : Binds K fdA ["promise", "place"] []) :
    FnOk P w K mg base (L2.CX P w) 7 f fd ["self", "place"] (spSItem K C CS CI) := by
  refine F.okX sc_Surface___getitem__ (fun vs H Q E h => ?_) (fun cdv A outer s H vs Q E hr h => ?_)
  · obtain ⟨a, b, pl, v, ws, rfl, _⟩ := h
    rfl
  · obtain ⟨a, b, pl, v, ws, rfl, ⟨dx, t, us, ea, hs, hP, pr⟩, hok, hl, hv, q1, q2⟩ := h
    refine ⟨_, (pss_one (ps_ret (pe_callS GA hr (by rfl) mA kA bA (fun σ => passAt (takes_of rfl rfl rfl rfl) σ) (pa_cons (pe_fld (pv 0) rfl) (pa_cons (pv 1) pa_nil))))), ?_⟩
    exact ⟨_, rfl, a, CS, dx, _, .ref b, rfl, ea, SC.cl, SC.nq, rfl, _, rfl, b, pl, v, ws, rfl, pr, hok, hl, hv, q1, q2⟩
/-- a surface == a surface, or an instance of another class -/
def spSEq (K : PySem.W.Frag) (C CS : Addr) : Sp := fun vs H Q _ => (∃ a b a2 b2 pl pl2, vs = [.ref a, .ref a2] ∧ SfAt K C CS H a b pl ∧ SfAt K C CS H a2 b2 pl2 ∧ Q (.bl (decide (nodesOf pl = nodesOf pl2))) H) ∨
  ∃ a c b pl, vs = [.ref a, .ref c] ∧ SfAt K C CS H a b pl ∧ (∃ dx fs, H c = some (.ins C dx fs)) ∧ Q (.bl false) H
theorem ok_sEq {C CS fI2 fE f : Addr} {fdE fd : FuncData} (F : Fun K "__eq__" "Surface.__eq__" s_Surface___eq__ f fd) (T : Txt mg) (SC : SurC K mg CS fI2) (cl : Cls K C) (IC : IsC K CS) (IP : IsC K C) (no : PySem.W.kitOne K (.ref C) (.ref CS) = some false)
    (GE : FnOk P w K mg base CX0 1 fE fdE ["self", "value"] (spEqG K C)) (sE : PySem.W.findIn K (.ref C) "__eq__" = some (some (.ref fE))) (iE : PySem.W.isFn K (.ref fE) = true) (bE : Binds K fdE ["self", "value"] []) :
    FnOk P w K mg base CX0 3 f fd ["self", "value"] (spSEq K C CS) := by
  refine F.ok sc_Surface___eq__ (fun vs H Q E h => ?_) (fun cdv A outer s H vs Q E hr h => ?_)
  · rcases h with ⟨a, b, a2, b2, pl, pl2, rfl, _⟩ | ⟨a, c, b, pl, rfl, _⟩ <;> rfl
  · have hr1 := hr.mono (j := 1) (by omega)
    refine ⟨_, (pss_one (ps_ret (pe_and (pe_callB (isiQ (K := K) rfl) (by rfl) T.isinstance_ (by decide +kernel) (pa_cons (pv 1) (pa_cons (pe_glob (v := .ref CS) rfl SC.g rfl) pa_nil))) (pe_one (pe_cmpR (eqOwn GE hr1 sE iE bE pass0) (pe_fld (pv 0) rfl) (pe_fld (pv 1) rfl) (nomark _)))))), ?_⟩
    rcases h with ⟨a, b, a2, b2, pl, pl2, rfl, ⟨dx, t, us, ea, hs, hP, pr⟩, ⟨dx2, t2, us2, ea2, hs2, hP2, pr2⟩, q⟩ | ⟨a, c, b, pl, rfl, ⟨dx, t, us, ea, hs, hP, pr⟩, ⟨dc, fs, ec⟩, q⟩
    · refine ⟨_, rfl, .ref a2, .ref CS, .ref CS, .ref CS, true, rfl, .own _, .base (.ins ea2 SC.cl IC.cls IC.sp IC.tk IC.mro), IC.self, true, rfl, iteT ?_⟩
      obtain ⟨dy, p, xs, eb, hs3, hN, g⟩ := id pr
      obtain ⟨dy2, p2, xs2, eb2, hs4, hN2, g2⟩ := id pr2
      refine ⟨_, rfl, a, CS, dx, _, .ref b, rfl, ea, SC.cl, SC.nq, rfl, _, rfl, a2, CS, dx2, _, .ref b2, rfl, ea2, SC.cl, SC.nq, rfl, ?_⟩
      exact ⟨b, b2, dy, dy2, _, _, rfl, rfl, eb, eb2, b, b2, _, _, rfl, pr, pr2, _, rfl, q⟩
    · refine ⟨_, rfl, .ref c, .ref CS, .ref C, .ref CS, false, rfl, .own _, .base (.ins ec cl IP.cls IP.sp IP.tk IP.mro), no, false, rfl, iteF q⟩
end
end Eh
set_option Elab.async false
set_option linter.all false
set_option maxRecDepth 100000
set_option maxHeartbeats 4000000
namespace Eh
open PySem PySem.Spec PyProof.Rows L2
/-- over the keys of a locked dict whose keys are tuples -/
theorem lcKyT {te : TE} {tt : TT} {σ : L2.St} {H1 : Hp} {D : Addr} {Qd : Hp → Prop} {i : Nat} {d : Addr} {o : Obj} {kvs : List (List Key × V)} (R : Nat → List V → Hp → Prop) (h0 : R 0 [] (upd H1 D (.lst []))) (hl : ∀ j acc H, R j acc H → H d = some (.frz o (.dT kvs)))
    (hs : ∀ j k v q acc H, kvs[j]? = some (k, v) → H q = some (.tup (k.map kV)) → acc.length ≤ j → H D = some (.lst acc) → R j acc H →
      tt ((wipe σ [i]).set i (some (.ref q))) H fun b H3 => if b = true then te ((wipe σ [i]).set i (some (.ref q))) H3 (LcK R D j) else LcP R D (j + 1) H3)
    (hd : ∀ acc H, acc.length ≤ kvs.length → H D = some (.lst acc) → R kvs.length acc H → Qd H) : LcGoal (Itkt d o kvs) (gName i) tt te [i] σ H1 D Qd :=
  lc_any R h0 (fun j acc H hj hl' e r => ⟨⟨hl _ _ _ r, hj⟩, fun x H' y => by
    obtain ⟨rfl, k, v, q, hk, rfl, hq⟩ := y
    exact ⟨rfl, hs j k v q acc _ hk hq hl' e r⟩⟩)
    fun acc H hl' e r => ⟨⟨hl _ _ _ r, Nat.le_refl _⟩, hd acc H hl' e r⟩
theorem cat_pl {K : PySem.W.Frag} {H : Hp} {a b : Addr} {xs ys : List V} {Q : VK} (ha : H a = some (.tup xs)) (hb : H b = some (.tup ys)) (hl : xs.length + ys.length < 1000000)
    (q : ∀ t H', Same H H' → H' t = some (.tup (xs ++ ys)) → Q (.ref t) H') : rCatA K (.ref a) (.ref b) H Q := by
  refine ⟨a, b, xs, ys, rfl, rfl, SqT.of ha, SqT.of hb, Nat.le_of_lt (small hl), fun e => ?_, fun _ e => ?_, fun _ _ p np => ?_⟩
  · subst e
    exact q b H (Same.refl H) hb
  · subst e
    exact q a H (Same.refl H) (by rw [List.append_nil]; exact ha)
  · exact q p _ (same_new np) upd_same
theorem same_unl {H H5 : Hp} {d : Addr} {od : Obj} {u : HO} (s : Same (upd H d (.frz od u)) H5) (e : H d = some u) : Same H (upd H5 d u) := fun b o eb => by
  by_cases n : b = d
  · rw [n, e] at eb
    cases eb
    rw [n, upd_same]
  · rw [upd_ne n]
    exact s b o (by rw [upd_ne n]; exact eb)
theorem putK_newT {kvs : List (List Key × V)} {k : List Key} {v : V} (h : k ∉ kvs.map (·.1)) : putK kvs k v = kvs ++ [(k, v)] := by
  unfold putK
  rw [if_neg]
  intro z
  obtain ⟨p, hp, e⟩ := List.any_eq_true.mp z
  exact h (by rw [← of_decide_eq_true e]; exact List.mem_map_of_mem hp)
theorem mergeT_nodup : ∀ (L : List TKey) (acc : List (List Key × V)), (acc.map (·.1) ++ L.map (·.1)).Nodup → mergeT acc L = acc ++ L.map fun x => (x.1, x.2.2)
  | [], acc, _ => by rw [List.map_nil, List.append_nil]; rfl
  | x :: L, acc, h => by
    show mergeT (putK acc x.1 x.2.2) L = _
    have hk : x.1 ∉ acc.map (·.1) := by
      rw [List.map_cons] at h
      intro hm
      exact (List.nodup_append.mp h).2.2 x.1 hm x.1 List.mem_cons_self rfl
    rw [putK_newT hk, mergeT_nodup L (acc ++ [(x.1, x.2.2)]) (by simpa using h)]
    simp
theorem all_append : ∀ (a b : List Pl) (i : Nat), subsAll i (a ++ b) = subsAll i a ++ subsAll (i + a.length) b
  | [], b, i => by rw [List.nil_append, subsAll]; rfl
  | p :: a, b, i => by
    rw [List.cons_append, subsAll, subsAll, all_append a b (i + 1), List.append_assoc, List.length_cons, show i + 1 + a.length = i + (a.length + 1) by omega]
theorem allS_take {ps : List Pl} {j : Nat} {p : Pl} (h : ps[j]? = some p) : subsAll 0 (ps.take (j + 1)) = subsAll 0 (ps.take j) ++ (subsP p).map fun y => (j :: y.1, y.2) := by
  have hj := (List.getElem?_eq_some_iff.mp h).1
  rw [take_succ' h, all_append, List.length_take, Nat.min_eq_left (by omega), subsAll, subsAll, List.append_nil, Nat.zero_add]
theorem all_pre (ps : List Pl) (j : Nat) : ∃ r, subsAll 0 ps = subsAll 0 (ps.take j) ++ r := ⟨_, by conv => lhs; rw [← List.take_append_drop j ps, all_append]⟩
/-- the places as keys, what stands there as values -/
abbrev RowsAt (K : PySem.W.Frag) (H : Hp) (kvs : List (List Key × V)) (xs : List (List Nat × Pl)) : Prop := Paired (fun kv y => kv.1 = keyP y.1 ∧ At K H kv.2 y.2) kvs xs
theorem rows_tk {K : PySem.W.Frag} {H H' : Hp} {kvs : List (List Key × V)} {xs : List (List Nat × Pl)} (t : Tk H H') (r : RowsAt K H kvs xs) : RowsAt K H' kvs xs := Paired.mono (fun kv y e => ⟨e.1, e.2.tk t⟩) r
theorem rows_keys {K : PySem.W.Frag} {H : Hp} {kvs : List (List Key × V)} {xs : List (List Nat × Pl)} (r : RowsAt K H kvs xs) : kvs.map (·.1) = (xs.map (·.1)).map keyP := by
  induction r with
  | nil => rfl
  | cons a t ih => rw [List.map_cons, List.map_cons, List.map_cons, ih, a.1]
theorem keys_nodup {l : List (List Nat)} (h : l.Nodup) : (l.map keyP).Nodup := List.Pairwise.map _ (fun a b n e => n (keyP_inj e)) h
theorem valV_nodup : ∀ {kvs : List (List Key × V)} {j : Nat} {k : List Key} {v : V}, (kvs.map (·.1)).Nodup → kvs[j]? = some (k, v) → valV kvs k = some v
  | [], j, k, v, _, h => by simp at h
  | p :: kvs, 0, k, v, _, h => by
    cases (show some p = some (k, v) from h)
    exact valV_pos rfl
  | p :: kvs, j + 1, k, v, hn, h => by
    rw [List.map_cons] at hn
    have h' : kvs[j]? = some (k, v) := by simpa using h
    have ne : p.1 ≠ k := fun e => (List.nodup_cons.mp hn).1 (by rw [e]; exact List.mem_map.mpr ⟨(k, v), List.mem_of_getElem? h', rfl⟩)
    obtain ⟨p1, p2⟩ := p
    rw [valV_neg ne]
    exact valV_nodup (List.nodup_cons.mp hn).2 h'
theorem subs_closed {pl : Pl} (h : open2.contains (kindPl pl) = false) : subsP pl = [([], pl)] := by
  cases pl with
  | leaf k t => rw [subsP]
  | node k ps => rw [subsP, if_neg (by rw [show open2.contains k = false from h]; decide)]
theorem subs_plen : ∀ {pa : List Nat} {pl q : Pl}, (pa, q) ∈ subsP pl → pa.length < (nodesOf pl).length
  | [], pl, q, _ => nodesOf_pos pl
  | i :: r, .leaf k t, q, h => by
    rw [subsP] at h
    cases (Prod.mk.inj (List.mem_singleton.mp h)).1
  | i :: r, .node k ps, q, h => by
    rcases mem_node.mp h with ⟨e, _⟩ | ⟨_, j, r', p, e, hp, hq⟩
    · cases e
    · cases e
      have := subs_plen hq
      have := nodesOf_get hp
      rw [nodesOf, List.length_cons, List.length_cons]
      omega
theorem paired_app {α β : Type} {F : α → β → Prop} {a : List α} {b : List β} {c : List α} {d : List β} (h : Paired F a b) (k : Paired F c d) : Paired F (a ++ c) (b ++ d) := by
  induction h with
  | nil => exact k
  | cons x t ih => exact .cons x ih
theorem hu2e {A : Around} {k : Nat} (hr : Room k A) : A.units + 2 < cLine := by
  have := hu64e hr
  omega
theorem hu3e {A : Around} {k : Nat} (hr : Room k A) : A.units + 3 < cLine := by
  have := hu64e hr
  omega
/-- the pairs made so far -/
structure PrT (K : PySem.W.Frag) (H0 : Hp) (i : Nat) (ys : List (List Nat × Pl)) (j : Nat) (acc : List V) (H : Hp) : Prop where
  s : Same H0 H
  p : ∃ (ts : List Addr) (L : List TKey), acc = ts.map V.ref ∧ Paired (fun t (x : TKey) => H t = some (.tup [.ref x.2.1, x.2.2])) ts L ∧
    Paired (fun (x : TKey) (y : List Nat × Pl) => x.1 = keyP (i :: y.1) ∧ H x.2.1 = some (.tup (x.1.map kV)) ∧ At K H x.2.2 y.2) L (ys.take j)
theorem tk_tup {H H' : Hp} (kp : ∀ b ys, H b = some (.tup ys) → H' b = some (.tup ys)) (kf : ∀ b o ys, H b = some (.frz o (.tup ys)) → H' b = some (.frz o (.tup ys))) : Tk H H' := fun b ys h => by
  rcases h with h | ⟨o, h⟩
  · exact .inl (kp b ys h)
  · exact .inr ⟨o, kf b o ys h⟩
theorem PrT.step {K : PySem.W.Frag} {H0 H H2 : Hp} {i j : Nat} {ys : List (List Nat × Pl)} {acc : List V} {D T c : Addr} {y : List Nat × Pl} {v : V} (r : PrT K H0 i ys j acc H) (s : Same H H2) (nD : H0 D = none) (eD : H D = some (.lst acc)) (hy : ys[j]? = some y)
    (hc : H2 c = some (.tup ((keyP (i :: y.1)).map kV))) (hv : At K H2 v y.2) (nT : H2 T = none) : PrT K H0 i ys (j + 1) (acc ++ [.ref T]) (upd (upd H2 T (.tup [.ref c, v])) D (.lst (acc ++ [.ref T]))) := by
  obtain ⟨s0, ts, L, ea, hp, hq⟩ := r
  have eD2 := s _ _ eD
  have tk1 := Tk.new (o := .tup [V.ref c, v]) nT
  have nTD : D ≠ T := ne_of_none eD2 nT
  have eD3 : upd H2 T (.tup [.ref c, v]) D = some (.lst acc) := by rw [upd_ne nTD]; exact eD2
  have tk2 := Tk.put (ys := acc ++ [V.ref T]) eD3
  have kp : ∀ b zs, H2 b = some (.tup zs) → upd (upd H2 T (.tup [.ref c, v])) D (.lst (acc ++ [.ref T])) b = some (.tup zs) := fun b zs e => by
    have n1 : b ≠ D := fun z => by rw [z, eD2] at e; cases e
    rw [upd_ne n1, upd_ne (ne_of_none e nT)]
    exact e
  refine ⟨fun b o eb => ?_, ts ++ [T], L ++ [(keyP (i :: y.1), c, v)], by rw [List.map_append, ← ea]; rfl, ?_, ?_⟩
  · have eb2 := s _ _ (s0 _ _ eb)
    rw [upd_ne (ne_of_none eb nD), upd_ne (ne_of_none eb2 nT)]
    exact eb2
  · refine Paired.snoc (Paired.mono (fun t x e => kp _ _ (s _ _ e)) hp) ?_
    show upd (upd H2 T (.tup [.ref c, v])) D (.lst (acc ++ [.ref T])) T = _
    rw [upd_ne nTD.symm, upd_same]
  · rw [take_succ' hy]
    refine Paired.snoc (Paired.mono (fun x z e => ⟨e.1, kp _ _ (s _ _ e.2.1), e.2.2.tk ((stk s).trans (tk1.trans tk2))⟩) hq) ⟨rfl, kp _ _ hc, hv.tk (tk1.trans tk2)⟩
section
variable {P : Program} {w : World} {K : PySem.W.Frag} {mg : Str → Option Value} {base : Heap}
def spLawPlaces (K : PySem.W.Frag) (n : Nat) : Sp := fun vs H Q _ => ∃ v pl, vs = [v] ∧ At K H v pl ∧ (nodesOf pl).length ≤ n ∧ n < 200 ∧ ∀ d kvs H', Same H H' → H d = none → H' d = some (.dT kvs) → RowsAt K H' kvs (subsP pl) → Q (.ref d) H'
theorem ok_places {f : Addr} {fd : FuncData} (F : Fun K "_law_places" "_law_places" s__law_places f fd) (T : Txt mg) (m : mg "_law_places" = some (.ref f)) (kp : PySem.W.keepIn K (.ref f) = true) (b : Binds K fd ["plain"] []) : ∀ n : Nat, FnOk P w K mg base CX0 (n + 1) f fd ["plain"] (spLawPlaces K n)
  | 0 => F.ok sc__law_places (fun vs H Q E h => by
      obtain ⟨v, pl, rfl, _⟩ := h
      rfl) (fun cdv A outer s H vs Q E hr h => by
      obtain ⟨v, pl, rfl, _, h0, _⟩ := h
      have := nodesOf_pos pl
      omega)
  | n + 1 => by
    have G := ok_places F T m kp b n
    refine F.ok sc__law_places (fun vs H Q E h => ?_) (fun cdv A outer s H vs Q E hr h => ?_)
    · obtain ⟨v, pl, rfl, _⟩ := h
      rfl
    · obtain ⟨v, pl, rfl, hA, hn, hn1, q⟩ := h
      refine ⟨_, (pss_cons (ps_set (i := 1) sc__law_places.nd rfl (.inl rfl) (pe_dispT (hu1e hr) (pps_cons (pe_tup pa_nil) (pv 0) pps_nil) (by rfl) (by rfl) (fun z => by cases z) (by decide)))
  (pss_cons (ps_if (pt_cmpR (inQ (K := K) rfl) (pe_ix (ixT (K := K) rfl) (pv 0) pe_int (fun _ _ => rfl)) (pe_lst (pa_cons pe_str (pa_cons pe_str pa_nil))) (by rfl))
  (pss_one (ps_for PassesOwn.never (by rfl) (pi_range1 (by rfl) T.range_ (pa_cons (pe_callB (lenQ (K := K) rfl) (by rfl) T.len_ (by decide +kernel) (pa_cons (pe_ix (ixT (K := K) rfl) (pv 0) pe_int (fun _ _ => rfl)) pa_nil)) pa_nil)) (pg_name (i := 2) sc__law_places.nd rfl (.inr rfl))
  (pss_cons (ps_set (i := 3) sc__law_places.nd rfl (.inr rfl) (pe_call G hr (by rfl) m kp b .nil pass0 (pa_cons (pe_ix (ixT (K := K) rfl) (pe_ix (ixT (K := K) rfl) (pv 0) pe_int (fun _ _ => rfl)) (pv 2) (fun _ _ => rfl)) pa_nil)))
  (pss_one (ps_expr (bmK (K := K) rfl (pe_bm PySem.F.plainAttrs_dict PySem.F.slot_dict_update PySem.F.type_dict_update (mtd_updateT (hu2e hr)) (pv 1) (pa_cons (pe_callTy (call_dictPT (K := K) rfl (by rfl) (hu3e hr)) (by rfl) T.dict_ (by decide +kernel) (pa_cons (pe_lock (pe_lc (own := [("place", 4)]) (g := gName 4) (by rfl) sc__law_places.nd (pi_keys (pv 3)) (blkOk_by (by kernel_rfl)) (fun _ _ _ _ _ => (pg_name (i := 4) sc__law_places.nd rfl (.inl rfl))) (fun _ _ _ _ _ => pts_nil) (fun _ _ _ _ _ => (pe_tup (pa_cons (pe_op (catA (K := K) rfl) (pe_tup (pa_cons (pv 2) pa_nil)) (pv 4)) (pa_cons (pe_dget (hu1e hr) (pv 3) (pv 4) (fun _ _ => rfl)) pa_nil)))))) pa_nil)) pa_nil))))))))
  pss_nil)
  (pss_one (ps_ret (pv 1))))), ?_⟩
      have okk := hA.plOk
      refine fun d nd => ⟨Nat.zero_le _, fun t nt => ?_⟩
      have ndt : d ≠ t := fun z => by rw [z, upd_same] at nt; cases nt
      refine ⟨_, rfl, ?_⟩
      refine ⟨by rw [upd_ne ndt, upd_same], [([], t, v)], rfl, fun x hx => ?_, (show (1 : Nat) ≤ 15 by decide), ?_⟩
      · rw [List.mem_singleton.mp hx, upd_same]
        rfl
      have e1 : upd (upd (upd H d (.dT [])) t (.tup [])) d (.dT (mergeT [] [([], t, v)])) d = some (.dT [([], v)]) := upd_same
      have s1 : Same H (upd (upd (upd H d (.dT [])) t (.tup [])) d (.dT (mergeT [] [([], t, v)]))) := fun b' o eb => by
        have n1 := ne_of_none eb nd
        rw [upd_ne n1]
        exact same_new nt _ _ (same_new nd _ _ eb)
      generalize upd (upd (upd H d (.dT [])) t (.tup [])) d (.dT (mergeT [] [([], t, v)])) = H1 at e1 s1 ⊢
      obtain ⟨a, k, y, rfl, hsa, em⟩ : ∃ a k y, v = .ref a ∧ SqT K H a [.str k, y] ∧ k = kindPl pl := by
        cases hA with
        | leaf h o => exact ⟨_, _, _, rfl, h, rfl⟩
        | node h1 h2 o a1 a2 r => exact ⟨_, _, _, rfl, h1, rfl⟩
      refine ⟨_, rfl, a, _, 0, .str k, rfl, rfl, (stk s1).seq hsa, rfl, lenOk 2, fun l nl => ?_⟩
      refine ⟨l, open2.map V.str, rfl, .inl (SqL.of upd_same), rfl, flat_strs _, _, rfl, ?_⟩
      rw [inV_strs, em]
      have s2 : Same H (upd H1 l (.lst [.str "all", .str "some"])) := s1.trans (same_new nl)
      have e2 : upd H1 l (.lst [.str "all", .str "some"]) d = some (.dT [([], .ref a)]) := by
        rw [upd_ne (ne_of_none e1 nl)]
        exact e1
      have r2 : RowsAt K (upd H1 l (.lst [.str "all", .str "some"])) [([], .ref a)] [([], pl)] := .cons ⟨rfl, hA.tk (stk s2)⟩ .nil
      generalize upd H1 l (.lst [.str "all", .str "some"]) = H2 at s2 e2 r2
      clear s1 e1 nt ndt
      cases eo : open2.contains (kindPl pl) with
      | false =>
        refine iteF ⟨_, rfl, q d _ _ s2 nd e2 ?_⟩
        rw [subs_closed eo]
        exact r2
      | true =>
        refine iteT ?_
        cases hA with
        | leaf h o =>
          rename_i k0 t0
          have h1 : leafKinds.contains k0 = false := node_kind (open2_node eo)
          rw [leaf_kind o] at h1
          cases h1
        | node h1 h2 o a1 a2 r =>
        rename_i c k' vs ps
        have hlen := r.length
        have hl9 : (nodesAll ps).length ≤ n := by
          rw [nodesOf, List.length_cons] at hn
          omega
        have hps : ps.length ≤ (nodesAll ps).length := nodes_ge ps
        have snod := subs_nodup (.node k' ps)
        have eP : subsP (.node k' ps) = ([], .node k' ps) :: subsAll 0 ps := by
          rw [subsP, if_pos (show open2.contains k' = true from eo)]
        rw [eP] at snod
        refine ⟨_, rfl, a, _, 1, .ref c, rfl, rfl, (stk s2).seq h1, rfl, .inl ⟨c, vs, rfl, .inr ((stk s2).seq h2), ?_⟩⟩
        refine ⟨(vs.length : Int), rfl, by omega, by omega, ?_⟩
        refine for_range (lo := 0) (n := (vs.length : Int).toNat) (fun j σ H3 => ∃ kvs x2 x3 x4, σ = [some (.ref a), some (.ref d), x2, x3, x4] ∧ Same H H3 ∧ H3 d = some (.dT kvs) ∧ RowsAt K H3 kvs (([], .node k' ps) :: subsAll 0 (ps.take j))) ?_ ?_ ?_
        · exact ⟨_, none, none, none, rfl, s2, e2, by rw [List.take_zero, subsAll]; exact r2⟩
        · rintro j σ H3 hj ⟨kvs, x2, x3, x4, rfl, s3, e3, r3⟩
          have hj : j < vs.length := by omega
          obtain ⟨p, hp, hA2⟩ := r.get (List.getElem?_eq_getElem hj)
          rw [Int.zero_add]
          refine ⟨_, rfl, a, _, 1, .ref c, rfl, rfl, (stk s3).seq h1, rfl, ?_⟩
          have hpn := nodesOf_get hp
          refine ⟨_, rfl, c, _, (j : Int), vs[j], rfl, rfl, (stk s3).seq h2, atI_nat (List.getElem?_eq_getElem hj), vs[j], p, rfl, hA2.tk (stk s3), by omega, by omega, fun d2 kvs2 H4 s4 nd2 e4 r4 => ?_⟩
          have s14 := s3.trans s4
          have e34 := s4 _ _ e3
          have r34 := rows_tk (stk s4) r3
          have n12 : d ≠ d2 := ne_of_none e3 nd2
          refine ⟨_, rfl, .inr (.inr (.inl ⟨rfl, .inr ⟨_, e34⟩⟩)), d2, .dT kvs2, e4, trivial, fun od => ?_⟩
          have eL : upd H4 d2 (.frz od (.dT kvs2)) d2 = some (.frz od (.dT kvs2)) := upd_same
          refine ⟨_, rfl, d2, od, rfl, .inr ⟨kvs2, eL, fun D nD => ?_⟩⟩
          have nDL : upd H4 d2 (.frz od (.dT kvs2)) D = none := nD
          have kn := rows_keys r4
          have nk : (kvs2.map (·.1)).Nodup := by
            rw [kn]
            exact keys_nodup (subs_nodup p)
          have l4 := Paired.length r4
          have hsp := subs_len p
          have r4' : RowsAt K (upd H4 d2 (.frz od (.dT kvs2))) kvs2 (subsP p) := rows_tk (tk_tup (fun b' zs e => by rw [upd_ne (fun z => by rw [z, e4] at e; cases e)]; exact e) (fun b' o zs e => by rw [upd_ne (fun z => by rw [z, e4] at e; cases e)]; exact e)) r4
          refine lcKyT (PrT K (upd H4 d2 (.frz od (.dT kvs2))) j (subsP p)) ⟨same_new nDL, [], [], rfl, .nil, .nil⟩ (fun i acc H5 r5 => r5.s _ _ eL) ?_ ?_
          · rintro i key val qa acc H5 hk hqa hl5 e5 r5
            obtain ⟨y5, hy5, ek5, hA5⟩ := paired_at r4' hk
            have ek5 : key = keyP y5.1 := ek5
            have hi := (List.getElem?_eq_some_iff.mp hk).1
            refine yesT ⟨_, rfl, lenOk 1, fun t0 nt0 => ⟨_, rfl, ?_⟩⟩
            have s6 : Same H5 (upd H5 t0 (.tup [.int (j : Int)])) := same_new nt0
            have hb := subs_plen (pa := y5.1) (q := y5.2) (List.mem_of_getElem? hy5)
            refine cat_pl (xs := [.int (j : Int)]) (ys := key.map kV) upd_same (s6 _ _ hqa) ?_ fun c6 H6 s7 e7 => ?_
            · rw [ek5, List.length_map, keyP, List.length_map, List.length_singleton]
              omega
            have s8 := s6.trans s7
            refine ⟨_, rfl, _, rfl, d2, val, rfl, .inr ⟨kvs2, key, qa, .inr ⟨od, s8 _ _ (r5.s _ _ eL)⟩, rfl, s8 _ _ hqa, (valV_nodup nk hk).symm⟩, lenOk 2, fun t1 nt1 => ?_⟩
            refine LcK.mk hl5 (by omega) (by rw [upd_ne (ne_of_none (s8 _ _ e5) nt1)]; exact s8 _ _ e5) ?_
            refine r5.step s8 nDL e5 hy5 ?_ (hA5.tk ((stk r5.s).trans (stk s8))) nt1
            rw [e7, ek5]
            rfl
          · rintro acc H5 hl5 e5 r5
            obtain ⟨s5, ts, L, rfl, hp5, hq5⟩ := r5
            rw [List.take_of_length_le (by omega)] at hq5
            have e5d := s5 _ _ eL
            have hDd : D ≠ d2 := fun z => by rw [z, eL] at nDL; cases nDL
            refine ⟨e5d, ?_⟩
            have s6 : Same H4 (upd H5 d2 (.dT kvs2)) := same_unl s5 e4
            have kp6 : ∀ b' zs, H5 b' = some (.tup zs) → upd H5 d2 (.dT kvs2) b' = some (.tup zs) := fun b' zs e => by
              rw [upd_ne (fun z => by rw [z, e5d] at e; cases e)]
              exact e
            have t6 : Tk H5 (upd H5 d2 (.dT kvs2)) := tk_tup kp6 (fun b' o zs e => by rw [upd_ne (fun z => by rw [z, e5d] at e; cases e)]; exact e)
            have eD6 : upd H5 d2 (.dT kvs2) D = some (.lst (ts.map V.ref)) := by rw [upd_ne hDd]; exact e5
            have hp6 : Paired (fun t (x : TKey) => upd H5 d2 (.dT kvs2) t = some (.tup [.ref x.2.1, x.2.2])) ts L := Paired.mono (fun t x e => kp6 _ _ e) hp5
            have hq6 : Paired (fun (x : TKey) (y : List Nat × Pl) => x.1 = keyP (j :: y.1) ∧ upd H5 d2 (.dT kvs2) x.2.1 = some (.tup (x.1.map kV)) ∧ At K (upd H5 d2 (.dT kvs2)) x.2.2 y.2) L (subsP p) := Paired.mono (fun x y e => ⟨e.1, kp6 _ _ e.2.1, e.2.2.tk t6⟩) hq5
            clear hp5 hq5 kp6 t6 e5d hDd s5 e5 hl5
            generalize upd H5 d2 (.dT kvs2) = H6 at s6 eD6 hp6 hq6 ⊢
            have eLk : L.map (·.1) = ((subsP p).map fun y => ((j :: y.1, y.2) : List Nat × Pl)).map fun y => keyP y.1 := by
              have : ∀ {L : List TKey} {ys : List (List Nat × Pl)}, Paired (fun (x : TKey) (y : List Nat × Pl) => x.1 = keyP (j :: y.1) ∧ H6 x.2.1 = some (.tup (x.1.map kV)) ∧ At K H6 x.2.2 y.2) L ys → L.map (·.1) = (ys.map fun y => ((j :: y.1, y.2) : List Nat × Pl)).map fun y => keyP y.1 := by
                intro L ys h
                induction h with
                | nil => rfl
                | cons a t ih => rw [List.map_cons, List.map_cons, List.map_cons, ih, a.1]
              exact this hq6
            have whole : (kvs.map (·.1) ++ L.map (·.1)).Nodup := by
              rw [rows_keys r34, eLk, List.map_map]
              obtain ⟨r0, er⟩ := all_pre ps (j + 1)
              rw [er, allS_take hp, ← List.cons_append, ← List.cons_append, List.map_append, List.map_append] at snod
              have h1 := keys_nodup (List.nodup_append.mp snod).1
              rw [List.map_append, List.map_map, List.map_map] at h1
              rw [List.map_map] at h1 ⊢
              exact h1
            have lkn : (L.map (·.1)).Nodup := (List.nodup_append.mp whole).2.1
            have lL := Paired.length hq6
            have lK := Paired.length r34
            have lS : (subsAll 0 (ps.take j)).length ≤ (nodesAll ps).length := by
              obtain ⟨r0, er⟩ := all_pre ps j
              have h1 := all_len 0 ps
              rw [er, List.length_append] at h1
              omega
            rw [List.length_cons] at lK
            refine ⟨D, ts, L, rfl, SqL.of eD6, Paired.mono (fun t x e => SqT.of e) hp6, fun x hx => ?_, fun p5 np5 => ?_⟩
            · obtain ⟨i, hi⟩ := List.mem_iff_getElem?.mp hx
              obtain ⟨y, _, e⟩ := paired_at hq6 hi
              exact e.2.1
            rw [mergeT_nodup L [] (by rw [List.map_nil, List.nil_append]; exact lkn), List.nil_append]
            have s7 : Same H6 (upd H6 p5 (.dT (L.map fun x => (x.1, x.2.2)))) := same_new np5
            have e37 := s7 _ _ (s6 _ _ e34)
            have ndp : d ≠ p5 := ne_of_none (s6 _ _ e34) np5
            refine ⟨d, p5, kvs, _, rfl, rfl, ndp, e37, upd_same, (fun z => by rw [z] at lK; cases lK), ?_, fun L' eL' => ?_⟩
            · rw [List.length_map, sizeLine_eq]
              omega
            have eK' : L'.map (·.1) = L.map (·.1) := by
              have h1 := congrArg (List.map (·.1)) eL'
              rw [List.map_map, List.map_map] at h1
              exact h1
            rw [mergeT_nodup L' kvs (by rw [eK']; exact whole), eL']
            have t8 : Tk H4 (upd (upd H6 p5 (.dT (L.map fun x => (x.1, x.2.2)))) d (.dT (kvs ++ L.map fun x => (x.1, x.2.2)))) := fun b' zs h => by
              have h2 := (stk (s6.trans s7)) b' zs h
              have n2 : b' ≠ d := fun z => by
                rw [z] at h2
                rcases h2 with h2 | ⟨o, h2⟩
                · rw [e37] at h2; cases h2
                · rw [e37] at h2; cases h2
              rcases h2 with h2 | ⟨o, h2⟩
              · exact .inl (by rw [upd_ne n2]; exact h2)
              · exact .inr ⟨o, by rw [upd_ne n2]; exact h2⟩
            have t9 : Tk H6 (upd (upd H6 p5 (.dT (L.map fun x => (x.1, x.2.2)))) d (.dT (kvs ++ L.map fun x => (x.1, x.2.2)))) := fun b' zs h => by
              have h2 := (stk s7) b' zs h
              have n2 : b' ≠ d := fun z => by
                rw [z] at h2
                rcases h2 with h2 | ⟨o, h2⟩
                · rw [e37] at h2; cases h2
                · rw [e37] at h2; cases h2
              rcases h2 with h2 | ⟨o, h2⟩
              · exact .inl (by rw [upd_ne n2]; exact h2)
              · exact .inr ⟨o, by rw [upd_ne n2]; exact h2⟩
            refine ⟨_, _, _, _, rfl, fun b' o eb => ?_, upd_same, ?_⟩
            · rw [upd_ne (ne_of_none eb nd)]
              exact s7 _ _ (s6 _ _ (s14 _ _ eb))
            · rw [allS_take hp, ← List.cons_append]
              refine paired_app (rows_tk t8 r34) ?_
              have : ∀ {L : List TKey} {ys : List (List Nat × Pl)}, Paired (fun (x : TKey) (y : List Nat × Pl) => x.1 = keyP (j :: y.1) ∧ H6 x.2.1 = some (.tup (x.1.map kV)) ∧ At K H6 x.2.2 y.2) L ys → ∀ {H8 : Hp}, Tk H6 H8 → RowsAt K H8 (L.map fun x => (x.1, x.2.2)) (ys.map fun y => (j :: y.1, y.2)) := by
                intro L ys h H8 t
                induction h with
                | nil => exact .nil
                | cons a _ ih => exact .cons ⟨a.1, a.2.2.tk t⟩ ih
              exact this hq6 t9
        · rintro σ H3 ⟨kvs, x2, x3, x4, rfl, s3, e3, r3⟩
          refine ⟨_, rfl, q d kvs H3 s3 nd e3 ?_⟩
          rw [eP]
          rw [List.take_of_length_le (by omega)] at r3
          exact r3
end
end Eh
set_option Elab.async false
set_option linter.all false
set_option maxRecDepth 100000
set_option maxHeartbeats 4000000
namespace Eh
open PySem PySem.Spec PyProof.Rows L2
theorem At.len {K : PySem.W.Frag} {H : Hp} {v : V} {k : Str} {ps : List Pl} (h : At K H v (.node k ps)) : 2 ≤ ps.length ∧ ps.length ≤ 4 := by
  cases h with
  | node h1 h2 o a1 a2 r => exact ⟨a1, a2⟩
section
variable {P : Program} {w : World} {K : PySem.W.Frag} {mg : Str → Option Value} {base : Heap}
theorem dpl_nats {K : PySem.W.Frag} {H : Hp} : ∀ zs : List Nat, DpAll K H (zs.map natV) (zs.map fun (i : Nat) => PyData.int (i : Int))
  | [] => .nil
  | z :: zs => .cons (.int _) (dpl_nats zs)
theorem nats_shaped (zs : List Nat) : SeqAt.shaped (.tuple (zs.map fun (i : Nat) => PyData.int (i : Int))) = true := by
  have := ints_shaped (zs.map fun (i : Nat) => (i : Int))
  rw [List.map_map] at this
  exact this
theorem At.set {K : PySem.W.Frag} {H : Hp} {u : V} {x : Pl} (hx : At K H u x) : ∀ {us : List V} {ps : List Pl} {i : Nat}, AtAll K H us ps → i < us.length → AtAll K H (us.set i u) (ps.set i x)
  | _, _, 0, .cons h r, _ => .cons hx r
  | _, _, i + 1, .cons h r, hi => .cons h (At.set hx r (Nat.lt_of_succ_lt_succ hi))
  | _, _, i, .nil, hi => absurd hi (Nat.not_lt_zero _)
end
end Eh
set_option Elab.async false
set_option linter.all false
set_option maxRecDepth 100000
set_option maxHeartbeats 4000000
namespace Eh
open PySem PySem.Spec PyProof.Rows L2
theorem subs_subN : ∀ {pa : List Nat} {pl q : Pl}, (pa, q) ∈ subsP pl → subN pl pa = some q
  | [], .leaf k t, q, h => by
    rw [subsP] at h
    rw [(Prod.mk.inj (List.mem_singleton.mp h)).2, subN_nil]
  | [], .node k ps, q, h => by
    rcases mem_node.mp h with ⟨_, e⟩ | ⟨_, j, r, p, e, _⟩
    · rw [e, subN_nil]
    · cases e
  | i :: r, .leaf k t, q, h => by
    rw [subsP] at h
    cases (Prod.mk.inj (List.mem_singleton.mp h)).1
  | i :: r, .node k ps, q, h => by
    rcases mem_node.mp h with ⟨e, _⟩ | ⟨_, j, r', p, e, hp, hq⟩
    · cases e
    · cases e
      rw [subN_node hp]
      exact subs_subN hq
section
variable {P : Program} {w : World} {K : PySem.W.Frag} {mg : Str → Option Value} {base : Heap}
def spLawEx (K : PySem.W.Frag) (n : Nat) : Sp := fun vs H Q _ => ∃ v pl t path q x xl, vs = [v, .ref t, x] ∧ At K H v pl ∧ SqT K H t (path.map natV) ∧ subN pl path = some q ∧ path.length ≤ n ∧ n < 1000 ∧ At K H x xl ∧ ∀ u H', Same H H' → At K H' u (putP pl path xl) → Q u H'
theorem ok_lawEx {f : Addr} {fd : FuncData} (F : Fun K "_law_exchanged" "_law_exchanged" s__law_exchanged f fd) (T : Txt mg)
    (m : mg "_law_exchanged" = some (.ref f)) (kp : PySem.W.keepIn K (.ref f) = true) (b : Binds K fd ["plain", "place", "other"] []) : ∀ n : Nat, FnOk P w K mg base CX0 (n + 1) f fd ["plain", "place", "other"] (spLawEx K n)
  | 0 => by
    refine F.ok sc__law_exchanged (fun vs H Q E h => ?_) (fun cdv A outer s H vs Q E hr h => ?_)
    · obtain ⟨v, pl, t, path, q, x, xl, rfl, _⟩ := h
      rfl
    · obtain ⟨v, pl, t, path, q, x, xl, rfl, hA, hs, hsub, hpn, hn, hX, hq⟩ := h
      obtain rfl : path = [] := List.length_eq_zero_iff.mp (by omega)
      refine ⟨_, (pss_cons (ps_if (pt_cmpR (eqD (K := K) rfl (hu64e hr)) (pv 1) (pe_tup pa_nil) (nomark _)) (pss_one (ps_ret (pv 2))) pss_nil) (pss_cons ps_never (pss_cons ps_never (pss_one ps_never)))), ?_⟩
      refine ⟨_, rfl, Nat.zero_le _, fun t0 n0 => ⟨.tuple [], .tuple [], .tup ((stk (same_new n0)).seq hs) .nil, .tup (SqT.of upd_same) .nil, by decide +kernel, by decide +kernel, _, rfl, ?_⟩⟩
      refine iteT' (by decide +kernel) ⟨_, rfl, ?_⟩
      refine hq x _ (same_new n0) ?_
      rw [putP_nil]
      exact hX.tk (stk (same_new n0))
  | n + 1 => by
    have G := ok_lawEx F T m kp b n
    refine F.ok sc__law_exchanged (fun vs H Q E h => ?_) (fun cdv A outer s H vs Q E hr h => ?_)
    · obtain ⟨v, pl, t, path, q, x, xl, rfl, _⟩ := h
      rfl
    · obtain ⟨v, pl, t, path, q, x, xl, rfl, hA, hs, hsub, hpn, hn, hX, hq⟩ := h
      refine ⟨_, (pss_cons (ps_if (pt_cmpR (eqD (K := K) rfl (hu64e hr)) (pv 1) (pe_tup pa_nil) (nomark _))
  (pss_one (ps_ret (pv 2)))
  pss_nil)
  (pss_cons (ps_set (i := 3) sc__law_exchanged.nd rfl (.inl rfl) (pe_ix (ixT (K := K) rfl) (pv 1) pe_int (fun _ _ => rfl)))
  (pss_cons (ps_set (i := 4) sc__law_exchanged.nd rfl (.inl rfl) (pe_call G hr (by rfl) m kp b .nil pass0 (pa_cons (pe_ix (ixT (K := K) rfl) (pe_ix (ixT (K := K) rfl) (pv 0) pe_int (fun _ _ => rfl)) (pv 3) (fun _ _ => rfl)) (pa_cons (pe_slice (slA (K := K) rfl) (pv 1) (po_some pe_int) po_none) (pa_cons (pv 2) pa_nil)))))
  (pss_one (ps_ret (pe_tup (pa_cons (pe_ix (ixT (K := K) rfl) (pv 0) pe_int (fun _ _ => rfl)) (pa_cons (pe_op (catA (K := K) rfl) (pe_op (catA (K := K) rfl) (pe_slice (slA (K := K) rfl) (pe_ix (ixT (K := K) rfl) (pv 0) pe_int (fun _ _ => rfl)) po_none (po_some (pv 3))) (pe_tup (pa_cons (pv 4) pa_nil))) (pe_slice (slA (K := K) rfl) (pe_ix (ixT (K := K) rfl) (pv 0) pe_int (fun _ _ => rfl)) (po_some (pe_op op_add (pv 3) pe_int)) po_none)) pa_nil)))))))), ?_⟩
      refine ⟨_, rfl, Nat.zero_le _, fun t0 n0 => ⟨.tuple (path.map fun (i : Nat) => PyData.int (i : Int)), .tuple [], .tup ((stk (same_new n0)).seq hs) (dpl_nats path), .tup (SqT.of upd_same) .nil, nats_shaped path, by decide +kernel, _, rfl, ?_⟩⟩
      have s0 : Same H (upd H t0 (.tup [])) := same_new n0
      have hs0 := (stk s0).seq hs
      have hA0 := hA.tk (stk s0)
      have hX0 := hX.tk (stk s0)
      generalize upd H t0 (.tup []) = H0 at s0 hs0 hA0 hX0 ⊢
      cases path with
      | nil =>
        refine iteT' (by decide +kernel) ⟨_, rfl, hq x H0 s0 ?_⟩
        rw [putP_nil]
        exact hX0
      | cons i r =>
        refine iteF' rfl ?_
        obtain ⟨k, ps, p, rfl, hp, hsub2⟩ := subN_cons hsub
        cases hA0 with
        | node h1 h2' o a1 a2 rr =>
          rename_i a c us
          have hul := rr.length
          have hips := (List.getElem?_eq_some_iff.mp hp).1
          have hus : i < us.length := by omega
          obtain ⟨p3, hp3, hA3⟩ := rr.get (List.getElem?_eq_getElem hus)
          rw [hp] at hp3
          cases hp3
          refine ⟨_, rfl, t, _, 0, natV i, rfl, rfl, hs0, atI_nat (j := 0) rfl, ?_⟩
          refine ⟨_, rfl, a, _, 1, .ref c, rfl, rfl, h1, rfl, _, rfl, c, us, (i : Int), us[i], rfl, rfl, h2', atI_nat (List.getElem?_eq_getElem hus), ?_⟩
          refine ⟨_, rfl, 1, rfl, ?_⟩
          dsimp only [tNoPart]
          refine sl_from (a := 1) hs0 (by rw [List.length_map, List.length_cons]; omega) fun t2 H2 s2 h2 => ?_
          refine ⟨_, rfl, us[i], p, t2, r, q, x, xl, rfl, hA3.tk (stk s2), h2, hsub2, by rw [List.length_cons] at hpn; omega, by omega, hX0.tk (stk s2), fun u H3 s3 hA5 => ?_⟩
          have s23 := s2.trans s3
          have h13 := (stk s23).seq h1
          have h23 := (stk s23).seq h2'
          have rr3 := rr.tk (stk s23)
          refine ⟨_, rfl, a, _, 0, .str k, rfl, rfl, h13, rfl, _, rfl, a, _, 1, .ref c, rfl, rfl, h13, rfl, ?_⟩
          dsimp only [tNoPart]
          refine ⟨_, rfl, (i : Int), rfl, ?_⟩
          refine sl_to h23 fun b1 H4 s4 e4 => ?_
          refine ⟨_, rfl, lenOk 1, fun b2 nb2 => ?_⟩
          have s5 : Same H4 (upd H4 b2 (.tup [u])) := same_new nb2
          refine cat_anyW ((stk s5).seq e4) (SqT.of upd_same) (by rw [List.length_take, List.length_singleton]; omega) fun b3 H6 s6 e6 => ?_
          have s46 := s4.trans (s5.trans s6)
          refine ⟨_, rfl, a, _, 1, .ref c, rfl, rfl, (stk s46).seq h13, rfl, _, rfl, (i : Int), 1, rfl, rfl, (i : Int) + 1, rfl, ?_⟩
          dsimp only [tNoPart]
          refine sl_from (a := i + 1) ((stk s46).seq h23) (by omega) fun b4 H7 s7 e7 => ?_
          refine cat_anyW ((stk s7).seq e6) e7 (by rw [List.length_append, List.length_take, List.length_singleton, List.length_drop]; omega) fun b5 H8 s8 e8 => ?_
          have s48 := s46.trans (s7.trans s8)
          refine ⟨lenOk 2, fun b6 nb6 => ?_⟩
          have s9 : Same H8 (upd H8 b6 (.tup [.str k, .ref b5])) := same_new nb6
          refine hq _ _ ((s0.trans s23).trans (s48.trans s9)) ?_
          rw [putP_node hp]
          have eus : us.take i ++ [u] ++ us.drop (i + 1) = us.set i u := by
            rw [List.set_eq_take_append_cons_drop, if_pos hus, List.append_assoc]
            rfl
          rw [eus] at e8
          exact .node (SqT.of upd_same) ((stk s9).seq e8) o (by rw [List.length_set]; exact a1) (by rw [List.length_set]; exact a2) (At.set (hA5.tk (stk (s48.trans s9))) (rr3.tk (stk (s48.trans s9))) hus)
end
end Eh
set_option Elab.async false
set_option linter.all false
set_option maxRecDepth 100000
set_option maxHeartbeats 4000000
set_option Elab.async false
set_option linter.all false
set_option maxRecDepth 100000
set_option maxHeartbeats 4000000
set_option Elab.async false
set_option linter.all false
set_option maxRecDepth 100000
set_option maxHeartbeats 4000000
set_option Elab.async false
set_option linter.all false
set_option maxRecDepth 100000
set_option maxHeartbeats 4000000
namespace Eh
open PySem PySem.Spec PyProof.Rows L2
abbrev Cls3 := Value × Option Nat × (Addr → Value → Option Addr → TS)
/-- the ends behind a clause that names the error by slot i -/
def behind (i : Nat) (D : Ends) : Ends := { nx := fun σ H => D.nx (σ.set i none) H, rt := D.rt, bk := fun σ H => D.bk (σ.set i none) H, ct := fun σ H => D.ct (σ.set i none) H }
def wMix (K : PySem.W.Frag) (n : Nat) (Wout : WX) (D : Ends) : List Cls3 → WX
  | [] => Wout
  | (c, none, ts) :: r => fun cls d σ H => ∃ b, PySem.W.exmOne K cls c = some b ∧ (b = true → ∀ a, H a = none → ts a cls d D σ H) ∧ (b = false → wMix K n Wout D r cls d σ H)
  | (c, some i, ts) :: r => fun cls d σ H => ∃ b, PySem.W.exmOne K cls c = some b ∧ (b = true → σ.length = n → ∀ a, H a = none → ts a cls d (behind i D) (σ.set i (some (.ref a))) H) ∧ (b = false → wMix K n Wout D r cls d σ H)
/-- a suite, wherever the error stands -/
def SuiteOk (X : Cx) (suite : List Stmt) (ts : Addr → Value → Option Addr → TS) : Prop :=
  ∀ (a : Addr) (oe : Obj) (cls : Value) (d : Option Addr) (pn : List (Addr × Obj)), Zc cls d oe → (∃ vs, oe.data = .fields vs) → PSs (X.suite a ((a, oe) :: pn)) suite (ts a cls d)
inductive HdsM (X : Cx) : List ExceptHandler → List Cls3 → Prop
  | nil : HdsM X [] []
  | only {x : Str} {c : Value} {ts : Addr → Value → Option Addr → TS} {b₀ : Stmt} {suite : List Stmt} {np p : Pos} {hds : List ExceptHandler} {l : List Cls3} : Names X x c → SuiteOk X (b₀ :: suite) ts → HdsM X hds l →
      HdsM X (.ExceptHandler (some (.Name x np)) none (b₀ :: suite) p :: hds) ((c, none, ts) :: l)
  | named {x n : Str} {i : Nat} {c : Value} {ts : Addr → Value → Option Addr → TS} {b₀ : Stmt} {suite : List Stmt} {np p : Pos} {hds : List ExceptHandler} {l : List Cls3} : X.N[i]? = some n → X.env.kindOf n = some .local → Names X x c → SuiteOk X (b₀ :: suite) ts → HdsM X hds l →
      HdsM X (.ExceptHandler (some (.Name x np)) (some n) (b₀ :: suite) p :: hds) ((c, some i, ts) :: l)
section
variable {X : Cx} {body : List Stmt} {hd : ExceptHandler} {hds : List ExceptHandler} {l : List Cls3} {pos : Pos} {tb : WX → TS} {Wout : WX}
theorem ps_try_mix (hs : X.stack = X.env :: X.outer) (hf : X.env.frame = some X.env.locals) (hN : X.N.Nodup) (tk : Takes X Wout)
    (hb : ∀ (W : WX) (pn : List (Addr × Obj)) (xe : Value → Shared → Prop), Takes (X.tr pn xe) W → PassesOwn (model X.prog X.w) X.A X.env xe → PSs (X.tr pn xe) body (tb W))
    (hh : HdsM X (hd :: hds) l) : PS X (.Try body (hd :: hds) [] [] pos) (fun D σ H => tb (wMix X.K X.N.length Wout D l) D σ H) := by
  constructor
  intro pins s σ H D I h
  have ok := I.ok
  have fr : X.A.frames = some (X.env :: X.outer) := ok.frames.trans (by rw [hs])
  refine wpAny_Try_except (wpAny_mono ((hb (wMix X.K X.N.length Wout D l) (X.pn ++ pins) (fun e s₁ => wpAny (model X.prog X.w) X.A (noteFrame e X.env) (fun _ s₂ => wpAny (model X.prog X.w) X.A (setFlight e none) (fun _ s₃ =>
    wpAny (model X.prog X.w) X.A (handleBy e X.env (hd :: hds)) (SP X pins D) X.xe s₃) X.xe s₂) X.xe s₁) (fun u s' xx => ?caught) PassesOwn.looking).run [] s σ H D (I.toTry _) h) (fun f s1 hsp => ?through) (fun _ _ z => z))
  case through =>
    match f, hsp with
    | .next, ⟨σ', H', J, q⟩ => exact wpAny_execs_nil ⟨σ', H', J.ofTry ok, q⟩
    | .brk, ⟨σ', H', J, q⟩ => exact ⟨σ', H', J.ofTry ok, q⟩
    | .cont, ⟨σ', H', J, q⟩ => exact ⟨σ', H', J.ofTry ok, q⟩
    | .ret u, ⟨v, σ', H', J, r, q⟩ => exact ⟨v, σ', H', J.ofTry ok, r, q⟩
  case caught =>
    obtain ⟨a, B, sI, pins', σ', H', cls, d, rfl, J', nb, up, sky, na, os, ag, w⟩ := xx
    have J : Inv X pins σ' H' sI := J'.ofTry ok
    show wpAny (model X.prog X.w) X.A (noteFrame (.ref a) X.env) _ _ _
    refine Sky.land Zc.steady fr hf (show Sky B (X.env :: X.outer) a (Zc cls d) X.env.locals s'.heap by rw [← hs]; exact sky) fun h3 fl3 up3 => ?_
    have J3 : Inv X pins σ' H' { s' with heap := h3 } := J.landed nb fl3.1 (up.trans up3) os ag
    obtain ⟨oe3, vs3, he3, hz3, hd3⟩ := fl3.there
    have free : a ∉ frs (X.env :: X.outer) := fun hm => by
      obtain ⟨_, o', e', hnf⟩ := fl3.2.2.1.mem hm
      rw [he3] at e'
      cases e'
      exact hnf _ hd3
    have nL : a ≠ X.env.locals := fun z => free (List.mem_filterMap.mpr ⟨X.env, List.mem_cons_self, by rw [hf, z]⟩)
    have nF : a ∉ X.fs := fun hm => by
      obtain ⟨e, he, q⟩ := List.mem_filterMap.mp hm
      exact free (List.mem_filterMap.mpr ⟨e, List.mem_cons_of_mem _ he, q⟩)
    have S3 := J3.suite he3 hd3 na nL nF
    have LT : PySem.W.Looks (model X.prog X.w) h3 (typeOf (.ref a)) cls := fun A Q E s k q => wpAny_typeOf_ref (k _ _ he3) (by rw [hz3.1]; exact q)
    have name : ∀ {x : Str} {c : Value} {np : Pos} {Q : Value → Shared → Prop} {E : Value → Shared → Prop}, Names X x c → Q c { s' with heap := h3 } → wpAny (model X.prog X.w) (X.A.mark (some (.ref a))) (eval (.Name x np) X.env) Q E { s' with heap := h3 } := fun {x c np Q E} hc q => by
      obtain ⟨hg, hdb, hm | ⟨hm, hv, hnn⟩⟩ := hc
      · exact ld_glob (X := X.suite a ((a, oe3) :: (X.pn ++ pins))) S3 hg hm q hdb
      · exact ld_blt (X := X.suite a ((a, oe3) :: (X.pn ++ pins))) S3 hg hm hv q hnn hdb
    have clauses : ∀ {hds' : List ExceptHandler} {l' : List Cls3}, HdsM X hds' l' → wMix X.K X.N.length Wout D l' cls d σ' H' → wpAny (model X.prog X.w) X.A (handleBy (.ref a) X.env hds') (SP X pins D) X.xe { s' with heap := h3 } := by
      intro hds' l' hk
      induction hk with
      | nil =>
        intro w
        refine wpAny_handleBy_nil ?_
        obtain ⟨k1, k2, k3, oe, vs, T, oT, ts', he, hz, hdd, h1, hr⟩ := id fl3
        have fin : wpAny (model X.prog X.w) X.A (setFlight (.ref a) X.env.frame) (fun _ s4 => wpAny (model X.prog X.w) X.A (throw (.ref a) : Sem Flow) (SP X pins D) X.xe s4) X.xe { s' with heap := h3 } := by
          rw [hf]
          refine HandSPX.setFlight_upZ fl3 fun h4 hh4 up4 => wpAny_throw (tk _ _ ?_)
          exact ⟨a, B, sI, pins, σ', H', cls, d, rfl, J, nb, (up.trans up3).trans up4, .inr (.inr (by rw [hs]; exact hh4)), na, os, ag, w⟩
        unfold PySem.passOn
        refine wpAny_bind (wpAny_field he hdd h1 ?_)
        rw [if_neg (by simp : ¬ ((Value.ref T == Value.none) = true))]
        first
          | exact wpAny_bind (wpAny_pure (wpAny_bind fin))
          | exact wpAny_bind fin
      | only hc hsu r ih =>
        intro w
        obtain ⟨b, e1, hyes, hno⟩ := w
        have LM := PySem.W.exm_one (M := model X.prog X.w) J3.kIn LT e1
        refine wpAny_handleBy_cons (codeAny_handlers_test (name hc (LM.here ?_))) (by intro q; cases q)
        cases b with
        | false => exact ih (hno rfl)
        | true =>
          refine codeAny_handlers_suite (HandSPX.lands_againZ fl3 fun h4 fl4 up4 => ?_)
          have J4 : Inv X pins σ' H' { s' with heap := h4 } := J.landed nb fl4.1 ((up.trans up3).trans up4) os ag
          obtain ⟨oe4, vs4, he4, hz4, hd4⟩ := fl4.there
          refine wpAny_mono ((hsu a oe4 cls d (X.pn ++ pins) hz4 ⟨_, hd4⟩).run [] _ _ H' _ (J4.suite he4 hd4 na nL nF) (hyes rfl a na)) (fun f s6 hsp => ?_) (fun _ _ z => False.elim z)
          match f, hsp with
          | .next, ⟨σ6, H6, S6, q6⟩ => exact ⟨_, _, S6.unsuite ok, q6⟩
          | .brk, ⟨σ6, H6, S6, q6⟩ => exact ⟨_, _, S6.unsuite ok, q6⟩
          | .cont, ⟨σ6, H6, S6, q6⟩ => exact ⟨_, _, S6.unsuite ok, q6⟩
          | .ret u, ⟨v6, σ6, H6, S6, r6, q6⟩ => exact ⟨_, _, _, S6.unsuite ok, r6, q6⟩
      | @named x n i c ts b₀ suite np p hds2 l2 hi hln hc hsu r ih =>
        intro w
        obtain ⟨b, e1, hyes, hno⟩ := w
        have LM := PySem.W.exm_one (M := model X.prog X.w) J3.kIn LT e1
        refine wpAny_handleBy_cons (codeAny_handlers_test (name hc (LM.here ?_))) (by intro q; cases q)
        cases b with
        | false => exact ih (hno rfl)
        | true =>
          refine codeAny_handlers_suite_as (HandSPX.lands_againZ fl3 fun h4 fl4 up4 => ?_)
          have J4 : Inv X pins σ' H' { s' with heap := h4 } := J.landed nb fl4.1 ((up.trans up3).trans up4) os ag
          obtain ⟨oe4, vs4, he4, hz4, hd4⟩ := fl4.there
          refine store_ok (X := X.suite a ((a, oe4) :: (X.pn ++ pins))) (v := .ref a) (J4.suite he4 hd4 na nL nF) hN hi (.inl hln) rfl (fun s5 S5 => ?_) (.inr hln)
          refine wpAny_mono ((hsu a oe4 cls d (X.pn ++ pins) hz4 ⟨_, hd4⟩).run [] s5 _ H' _ S5 (hyes rfl J.len a na)) (fun f s6 hsp => ?_) (fun _ _ z => False.elim z)
          match f, hsp with
          | .next, ⟨σ6, H6, S6, q6⟩ => exact gone_ok (S6.unsuite ok) hN hi hln fun s7 J7 => ⟨_, _, J7, q6⟩
          | .brk, ⟨σ6, H6, S6, q6⟩ => exact gone_ok (S6.unsuite ok) hN hi hln fun s7 J7 => ⟨_, _, J7, q6⟩
          | .cont, ⟨σ6, H6, S6, q6⟩ => exact gone_ok (S6.unsuite ok) hN hi hln fun s7 J7 => ⟨_, _, J7, q6⟩
          | .ret u, ⟨v6, σ6, H6, S6, r6, q6⟩ => exact gone_ok (S6.unsuite ok) hN hi hln fun s7 J7 => ⟨_, _, _, J7, r6, q6⟩
    exact clauses hh w
end
end Eh
set_option Elab.async false
set_option linter.all false
set_option maxRecDepth 100000
set_option maxHeartbeats 4000000
set_option Elab.async false
set_option linter.all false
set_option maxRecDepth 100000
set_option maxHeartbeats 4000000
set_option Elab.async false
set_option linter.all false
set_option maxRecDepth 100000
set_option maxHeartbeats 4000000
set_option Elab.async false
set_option linter.all false
set_option maxRecDepth 100000
set_option maxHeartbeats 4000000
namespace Eh
open PySem PySem.Spec PyProof.Rows L2
open TL
def openT (k : Str) : Str := if choiceKinds.contains k = true then "[" else "("
def closeT (k : Str) : Str := if choiceKinds.contains k = true then "]" else ")"
def signT (k : Str) : Str := if k = "all" then "&" else if k = "mine" then "+" else if k = "some" then "|" else "*"
def inter (s : Str) : List (List Str) → List Str
  | [] => []
  | [x] => x
  | x :: y :: r => x ++ s :: inter s (y :: r)
mutual
def toks : Pl → List Str
  | .leaf k t => [plainT k t]
  | .node k ps => openT k :: (inter (signT k) (toksAll ps) ++ [closeT k])
def toksAll : List Pl → List (List Str)
  | [] => []
  | p :: ps => toks p :: toksAll ps
end
/-- all that is needed of a tree -/
def Tr (p : Pl) : Prop := plOk p = true ∧ GoodN (nodesOf p)
theorem Tr.leaf {k : Str} {t : V} (h : Tr (.leaf k t)) : nodeAB k t = true ∧ nodeKinds.contains k = false := by
  obtain ⟨h1, h2⟩ := h
  rw [plOk] at h1
  exact ⟨h2 (k, t) (by rw [nodesOf]; exact List.mem_cons_self), by simpa using h1⟩
theorem plsOk_mem : ∀ {ps : List Pl}, plsOk ps = true → ∀ p ∈ ps, plOk p = true
  | p :: ps, h, q, hq => by
    rw [plsOk, Bool.and_eq_true] at h
    rcases List.mem_cons.mp hq with rfl | hq
    · exact h.1
    · exact plsOk_mem h.2 q hq
theorem nodesAll_mem : ∀ {ps : List Pl} {p : Pl}, p ∈ ps → ∀ n ∈ nodesOf p, n ∈ nodesAll ps
  | q :: ps, p, h, n, hn => by
    rw [nodesAll]
    rcases List.mem_cons.mp h with rfl | h
    · exact List.mem_append_left _ hn
    · exact List.mem_append_right _ (nodesAll_mem h n hn)
theorem Tr.node {k : Str} {ps : List Pl} (h : Tr (.node k ps)) : nodeKinds.contains k = true ∧ 2 ≤ ps.length ∧ ps.length ≤ 4 ∧ ∀ p ∈ ps, Tr p := by
  obtain ⟨h1, h2⟩ := h
  rw [plOk, Bool.and_eq_true] at h1
  obtain ⟨i, e, i1, i2⟩ := good_int (h2 (k, .int (ps.length : Int)) (by rw [nodesOf]; exact List.mem_cons_self)) h1.1
  cases e
  exact ⟨h1.1, by omega, by omega, fun p hp => ⟨plsOk_mem h1.2 p hp, fun n hn => h2 n (by rw [nodesOf]; exact List.mem_cons_of_mem _ (nodesAll_mem hp n hn))⟩⟩
end Eh
set_option Elab.async false
set_option linter.all false
set_option maxRecDepth 100000
set_option maxHeartbeats 4000000
namespace Eh
open PySem PySem.Spec PyProof.Rows L2
open TL
def nk (p : Pl) : List Str := (nodesOf p).map (·.1)
def nc (p : Pl) : List V := (nodesOf p).map (·.2)
end Eh
set_option Elab.async false
set_option linter.all false
set_option maxRecDepth 100000
set_option maxHeartbeats 8000000
namespace Eh
open PySem PySem.Spec PyProof.Rows L2
open LamX (TabB Tabs TabS ExtN GivesTo tLam pe_lamcall lamS_by lamCx lamEnv CodeO)
/-- which of the two clauses takes which of the two errors -/
structure Exm2 (K : PySem.W.Frag) (CI CE : Addr) : Prop where
  ii : PySem.W.exmOne K (.ref CI) (.ref CI) = some true
  ei : PySem.W.exmOne K (.ref CE) (.ref CI) = some false
  ee : PySem.W.exmOne K (.ref CE) (.ref CE) = some true
/-- what comes of an error in _law_got -/
def got2 (CI CE : Addr) (Q : VK) : XK := fun cls d H' => (cls = .ref CI ∧ Q (.str "place") H') ∨ (cls = .ref CE ∧ Q (.str "promise") H')
def TGot2 (CI CE : Addr) : (XK → Hp → VK → Prop) → Hp → VK → Prop := fun tl H Q => tl (got2 CI CE Q) H Q
section
variable {X : Cx}
theorem got_gives2 {CI CE g : Addr} {cdg : Value} {q : Str} (E2 : Exm2 X.K CI CE) (gI : X.mg "InvalidPlace" = some (.ref CI)) (gE : X.mg "InvalidPromise" = some (.ref CE)) :
    GivesTo X ["call"] "_law_got" (defScope s__law_got) g cdg (defBody s__law_got) "call" q (TGot2 CI CE) := by
  intro f c' s H Q tl act hc h
  refine ⟨_, pss_one (ps_try_mix (X := (cxOf C8.CX0 X.prog X.w X.K X.mg X.base ["call"] "_law_got" (defScope s__law_got) g cdg X.A X.stack s H C8.E0).nox)
      (tb := fun W D σ H => ∃ Ech : XK, (∀ cls d σ' H', Ech cls d H' → W cls d σ' H') ∧ σ[0]? = some (some (.ref f)) ∧ H c' = some (CodeO c' q) ∧ tl Ech H D.rt)
      rfl rfl sc__law_got.nd LamX.takes0 (fun W pn xe tk _ => ?_)
      (.only ⟨by rfl, by decide, .inl gI⟩ (fun a oe cls d pn _ _ => pss_one (ps_ret pe_str))
      (.only ⟨by rfl, by decide, .inl gE⟩ (fun a oe cls d pn _ _ => pss_one (ps_ret pe_str)) .nil))), ?_⟩
  · refine ⟨fun pins s' σ H' D I h' => ?_⟩
    obtain ⟨Ech, hW, h1, h2, h3⟩ := h'
    exact (pss_one (ps_ret (act W pn xe Ech _ _ tk hW))).run pins s' σ H' D I ⟨h1, h2, h3⟩
  · refine ⟨got2 CI CE Q, fun cls d σ' H' h' => ?_, rfl, hc, h⟩
    rcases h' with ⟨rfl, q1⟩ | ⟨rfl, q1⟩
    · exact ⟨true, E2.ii, fun _ a _ => q1, fun z => nomatch z⟩
    · exact ⟨false, E2.ei, fun z => (nomatch z), fun _ => ⟨true, E2.ee, fun _ a _ => q1, fun z => nomatch z⟩⟩
end
end Eh
set_option Elab.async false
set_option linter.all false
set_option maxRecDepth 100000
set_option maxHeartbeats 8000000
namespace HNE2
open PySem PySem.Spec PyProof.Rows PySem.SeqAt
section
variable {prog : Program} {w : World} {A : Around} {E : Value → Shared → Prop} {K : PySem.W.Frag} {x y C C2 f : Addr} {ox : Obj} {od : Option Obj}
theorem rc_ne2 {s : Shared} {Q : Value → Shared → Prop} {oy : Obj} {ody : Option Obj} (hu : A.units + 1 < cLine) (hu2 : A.in1.units < cLine) (X : K.In s.heap) (I : PySem.W.InstAt s.heap x ox C od) (J : PySem.W.InstAt s.heap y oy C2 ody) (hm : PySem.W.mroIn K C (.type "object") = some true) (hn : PySem.W.findIn K (.ref C) "__ne__" = some (some (.builtin "object.__ne__")))
    (hsub : PySem.W.subIn K (.ref C2) (.ref C) = some false) (hs : PySem.W.findIn K (.ref C) "__eq__" = some (some (.ref f))) (hf : PySem.W.isFn K (.ref f) = true)
    (hcall : wpAny (model prog w) A.in1 (call (.ref f) [.ref x, .ref y]) (fun v s' => ∃ b, v = .bool b ∧ Q (.bool (!b)) s') E s) : wpAny (model prog w) A (richCompare .NotEq (.ref x) (.ref y)) Q E s := by
  have one : wpAny (model prog w) A (tryCompare (.ref x) "__ne__" (.ref y)) (fun r s' => ∃ v, r = some v ∧ Q v s') E s := by
    unfold tryCompare
    refine wpAny_bind (HNE.ifBound_objNe X I hn (wpAny_call (codeAny_call_builtin F.cmp_object.ne.plain F.cmpEntry_ne (PySem.W.check_slot F.cmpKind_ne F.cmpSplit_ne (I.type.andThen (PySem.W.looks_mroIn X hm)) (F.cmpArgs_ne _ _) ?_))))
    obtain ⟨hp, g, d, t, os⟩ := s
    refine HNE.ne_entry (A := A.in1) hu2 X I hs hf (wpAny_mono hcall (fun v s' hv => ?_) fun _ _ e => e)
    obtain ⟨b, rfl, hq⟩ := hv
    first | exact ⟨b, rfl, wpAny_pure ⟨_, rfl, hq⟩⟩ | exact ⟨b, rfl, _, rfl, hq⟩ | exact ⟨b, rfl, wpAny_pure (wpAny_pure ⟨_, rfl, hq⟩)⟩
  have fin : wpAny (model prog w) A (tryCompare (.ref x) "__ne__" (.ref y)) (fun r s' => ∃ v, r = some v ∧ Q v s') E s := one
  unfold richCompare
  simp only [oneThing_ref]
  refine wpAny_holding (wpAny_bind (wpAny_cRoomFor (Nat.lt_of_succ_lt hu) ?_))
  rw [PySem.cmpInfo_NotEq]
  dsimp only
  refine wpAny_bind (I.type.here (wpAny_bind (J.type.here ?_)))
  split
  · refine wpAny_bind ((PySem.W.looks_subIn X hsub).here ?_)
    simp only [Bool.false_eq_true, if_false]
    refine wpAny_bind (wpAny_mono one (fun r s' z => ?_) fun _ _ e => e)
    obtain ⟨v, rfl, hq⟩ := z
    exact wpAny_pure hq
  · refine wpAny_bind (wpAny_pure ?_)
    simp only [Bool.false_eq_true, if_false]
    refine wpAny_bind (wpAny_mono one (fun r s' z => ?_) fun _ _ e => e)
    obtain ⟨v, rfl, hq⟩ := z
    exact wpAny_pure hq
end
end HNE2
namespace Eh
open PySem PySem.Spec PyProof.Rows L2
open LamX (TabB Tabs TabS ExtN GivesTo tLam pe_lamcall lamS_by lamCx lamEnv CodeO LamS)
/-- _law_got(lambda: e) -/
theorem pe_got2 {X : Cx} {T : List (Addr × Str)} {g c P CI CE : Addr} {k : Nat} {fd : FuncData} {params : Arguments} {body : Expr} {scope : Scope} {t : XK → TE} {p lpos pos : Pos} (FG : Fun X.K "_law_got" "_law_got" s__law_got g fd) (hm : X.mg "_law_got" = some (.ref g)) (hk : PySem.W.keepIn X.K (.ref g) = true) (hb : Binds X.K fd ["call"] [])
    (E2 : Exm2 X.K CI CE) (gI : X.mg "InvalidPlace" = some (.ref CI)) (gE : X.mg "InvalidPromise" = some (.ref CE))
    (hg : Gl X "_law_got") (TB : TabB X.base X.mg c P) (hcode : X.env.code = .ref c) (hmT : (P, X.env.qual ++ "<lambda>") ∈ T) (hu : ∀ p ∈ T, p.1 = P → p.2 = X.env.qual ++ "<lambda>") (hr : Room (k + 2) X.A) (L : LamS X.env.scope scope) (hdef : defaultsOf params X.env = ([], []))
    (hbind : ∀ (q : Str) (cl : List (Str × Addr)) (pm cv ctv : Value), bindArgs (PySem.W.kla_fn "<lambda>" q params body scope cl pm cv ctv) ⟨[], []⟩ = pure [])
    (hbody : ∀ (A : Around) (outer : List Env) (s : Shared) (H : Hp) (E : XK) (f c' : Addr), Room k (A.deeper (lamEnv X scope s.heap.objs.size f c')) → PE (lamCx X A outer s H E scope f c') body (t E)) :
    PE X (.Call (.Name "_law_got" p) [.Lambda params body scope lpos] [] pos) (tLam T (TGot2 CI CE) t) := by
  obtain ⟨oc, od, kV, doc, pm, an, cdv, ct, osl, rfl, lk, hcg⟩ := FG.ex
  exact pe_lamcall (Ng := ["call"]) (a := "call") hg hm hk lk hcg hb sc__law_got rfl (.inl rfl) (got_gives2 E2 gI gE) TB hcode hmT hu hr L hdef hbind hbody
section
variable {X : Cx} {n : Nat} {f C C2 : Addr} {fd : FuncData} {ps : List Str} {sp : Sp} {CX : CXT} {E : XK}
/-- o != x of two own classes -/
def rNeOwn2 (C C2 : Addr) (sp : Sp) (E : XK) : R2 := fun x y H Q => ∃ a b dx dy fs gs, x = .ref a ∧ y = .ref b ∧ H a = some (.ins C dx fs) ∧ H b = some (.ins C2 dy gs) ∧ sp [.ref a, .ref b] H (fun v H' => ∃ k, v = .bl k ∧ Q (.bl (!k)) H') E
theorem neOwn2 (F : FnOk X.prog X.w X.K X.mg X.base CX n f fd ps sp) (hr : Room (n + 1) X.A) (hm : PySem.W.mroIn X.K C (.type "object") = some true) (hn : PySem.W.findIn X.K (.ref C) "__ne__" = some (some (.builtin "object.__ne__"))) (hsub : PySem.W.subIn X.K (.ref C2) (.ref C) = some false) (hs : PySem.W.findIn X.K (.ref C) "__eq__" = some (some (.ref f))) (hf : PySem.W.isFn X.K (.ref f) = true) (hb : Binds X.K fd ps []) (hx : Passes CX X E) :
    OpR X (compareOp .NotEq) (rNeOwn2 C C2 sp E) := by
  intro pins s σ H x y v u Q I rx ry h
  obtain ⟨a, b, dx, dy, fs, gs, rfl, rfl, ha, hb', q⟩ := h
  cases rx
  cases ry
  obtain ⟨mA, J, _⟩ := ins_get I.hok ha
  obtain ⟨mB, J', _⟩ := ins_get I.hok hb'
  obtain ⟨od, J, _⟩ := J.look
  obtain ⟨od', J', _⟩ := J'.look
  have hu : X.A.units + 1 < cLine := by
    have := hr.un
    omega
  show wpAny _ _ (richCompare .NotEq _ _) _ _ _
  refine HNE2.rc_ne2 hu hr.in1.units0 I.kIn J J' hm hn hsub hs hf (wpAny_mono (run_own (us := [.ref a, .ref b]) (vs := [.ref a, .ref b]) F hb hx ⟨hr.in1, rfl⟩ I (.cons rfl (.cons rfl .nil)) q) (fun r s' z => ?_) fun _ _ e => e)
  obtain ⟨z, H', I', rz, k, rfl, q'⟩ := z
  cases rz
  exact ⟨k, rfl, .bl (!k), H', I', rfl, q'⟩
/-- what an own instance or a text is against a text -/
def rEqTx (C : Addr) (sp : Sp) (E : XK) : R2 := fun x y H Q => ∃ z : Str, y = .str z ∧ ((∃ a dx fs, x = .ref a ∧ H a = some (.ins C dx fs) ∧ sp [.ref a, .str z] H (fun v H' => ∃ k, v = .bl k ∧ Q (.bl k) H') E) ∨ ∃ z2 : Str, x = .str z2 ∧ Q (.bl (decide (z2 = z))) H)
theorem eqTx (F : FnOk X.prog X.w X.K X.mg X.base CX n f fd ps sp) (hr : Room n X.A) (hnf : PySem.W.notFirst X.K C (.type "str") = true) (hs : PySem.W.findIn X.K (.ref C) "__eq__" = some (some (.ref f))) (hf : PySem.W.isFn X.K (.ref f) = true) (hb : Binds X.K fd ps []) (hx : Passes CX X E) :
    OpR X (compareOp .Eq) (rEqTx C sp E) := by
  intro pins s σ H x y v u Q I rx ry h
  obtain ⟨z, rfl, h⟩ := h
  rcases h with ⟨a, dx, fs, rfl, ha, q⟩ | ⟨z2, rfl, q⟩
  · obtain ⟨t, rfl⟩ := ry
    cases rx
    obtain ⟨mA, J, _⟩ := ins_get I.hok ha
    obtain ⟨od, J, _⟩ := J.look
    obtain ⟨m, hF⟩ := I.fr
    show wpAny _ _ (richCompare .Eq _ _) _ _ _
    refine PySem.W.cmp_K (op := .Eq) (tb := .type "str") hr.units0 hF I.ok.mod.kin J (fun A Q E s k q => wpAny_typeOf (T := "str") (by trivial) q) hnf hs hf (wpAny_mono (run_own (us := [.ref a, .str z t]) (vs := [.ref a, .str z]) F hb hx ⟨hr, rfl⟩ I (.cons rfl (.cons ⟨t, rfl⟩ .nil)) q) (fun r s' z => ?_) fun _ _ e => e)
    obtain ⟨z, H', I', rz, k, rfl, q'⟩ := z
    cases rz
    exact ⟨.bl k, H', I', rfl, q'⟩
  · exact op_eq pins s σ H _ _ v u Q I rx ry ⟨rfl, by rw [show decide (V.str z2 = V.str z) = decide (z2 = z) from decide_eq_decide.mpr ⟨fun e => by injection e, fun e => by rw [e]⟩]; exact q⟩
end
/-- places picked from a list of them -/
theorem sel_lc {K : PySem.W.Frag} {tt : TT} {te : TE} {σ : L2.St} {H1 : Hp} {D l : Addr} {Qd : Hp → Prop} {i : Nat} {bs : List Addr} {ys : List (List Nat × Pl)} (f : List Nat × Pl → Bool) (el : H1 l = some (.lst (bs.map V.ref))) (ek : Paired (fun b (y : List Nat × Pl) => H1 b = some (.tup ((keyP y.1).map kV))) bs ys) (nD : H1 D = none) (hlen : ys.length < 1000)
    (ht : ∀ (j : Nat) b y H (Kb : Bool → Hp → Prop), ys[j]? = some y → H1 b = some (.tup ((keyP y.1).map kV)) → Same H1 H → (∀ H', Same H H' → Kb (f y) H') → tt ((wipe σ [i]).set i (some (.ref b))) H Kb)
    (he : ∀ b H (Kv : VK), Kv (.ref b) H → te ((wipe σ [i]).set i (some (.ref b))) H Kv)
    (hd : ∀ acc H, Same H1 H → H D = some (.lst acc) → PthsAt K H acc ((ys.filter f).map (·.1)) → Qd H) : LcGoal (Itl K l) (gName i) tt te [i] σ H1 D Qd := by
  have hl := Paired.length ek
  refine lcL (K := K) (a := l) (xs := bs.map V.ref) (fun j acc H => Same H1 H ∧ PthsAt K H acc (((ys.take j).filter f).map (·.1))) ⟨same_new nD, by rw [List.take_zero]; exact .nil⟩ (fun j acc H r => SqL.of (r.1 _ _ el)) ?_ ?_
  · rintro j x acc H hx hl2 e ⟨s, hP⟩
    rw [List.getElem?_map] at hx
    cases hb : bs[j]? with
    | none => rw [hb] at hx; cases hx
    | some b =>
      rw [hb] at hx
      cases hx
      obtain ⟨y, hy, eb⟩ := paired_at ek hb
      have hj := (List.getElem?_eq_some_iff.mp hy).1
      refine ht j b y H _ hy eb s fun H2 s2 => ?_
      have e2 := s2 _ _ e
      have hP2 := hP.tk (stk s2)
      have eb2 : SqT K H2 b (y.1.map natV) := SqT.of (by rw [← keyP_vals]; exact s2 _ _ (s _ _ eb))
      have stp := filter_snoc f hy
      cases ef : f y with
      | false =>
        rw [if_neg (by decide)]
        refine ⟨acc, by omega, e2, s.trans s2, ?_⟩
        rw [stp, if_neg (by rw [ef]; decide), List.append_nil]
        exact hP2
      | true =>
        rw [if_pos rfl]
        refine he b H2 _ ?_
        have kp := Tk.put (ys := acc ++ [V.ref b]) e2
        refine LcK.mk hl2 (by omega) e2 ⟨fun b' o' eb' => ?_, ?_⟩
        · rw [upd_ne (ne_of_none eb' nD)]
          exact s2 _ _ (s _ _ eb')
        · rw [stp, if_pos ef, List.map_append]
          exact (hP2.tk kp).snoc (kp.seq eb2)
  · rintro acc H hl2 e ⟨s, hP⟩
    rw [List.length_map, List.take_of_length_le (by omega)] at hP
    exact hd acc H s e hP
end Eh
set_option Elab.async false
set_option linter.all false
set_option maxRecDepth 100000
set_option maxHeartbeats 8000000
namespace Eh
open PySem PySem.Spec PyProof.Rows L2
/-- a small number as a text -/
def numT (n : Nat) : Str := Str.ofString (toString ((n : Nat) : Int))
theorem numT_len {n : Nat} (h : n < 1000) : (numT n).length ≤ 4 := by
  unfold numT
  have e := int_text_length_le10 (a := ((n : Nat) : Int)) (k := 3) (by decide) (by omega)
  rw [PySem.ofString_length]
  exact e
theorem num_log {n : Nat} (h : n < 1000) : (((n : Nat) : Int).natAbs).log2 < 1920 := by
  rw [Int.natAbs_natCast]
  by_cases h0 : n = 0
  · subst h0
    decide
  · rw [Nat.log2_lt h0]
    exact Nat.lt_of_lt_of_le h (by decide +kernel)
def sP : Str := " places, "
def sM : Str := " mine, "
def sY : Str := " yours"
/-- what str of a surface tells -/
def tellT (a b c : Nat) : Str := numT a ++ sP ++ numT b ++ sM ++ numT c ++ sY
theorem sP_len : sP.length = 9 := by decide +kernel
theorem sM_len : sM.length = 7 := by decide +kernel
theorem sY_len : sY.length = 6 := by decide +kernel
section
variable {P : Program} {w : World} {K : PySem.W.Frag} {mg : Str → Option Value} {base : Heap}
def spSStr (K : PySem.W.Frag) (C CS : Addr) : Sp := fun vs H Q _ => ∃ a b pl, vs = [.ref a] ∧ SfAt K C CS H a b pl ∧ plOk pl = true ∧ (nodesOf pl).length < 1000 ∧ ∀ H', Same H H' → Q (.str (tellT (subsP pl).length (inK ["mine"] pl).length (inK ["yours"] pl).length)) H'
theorem inK_len (ks : List Str) (pl : Pl) : (inK ks pl).length ≤ (nodesOf pl).length := by
  unfold inK
  rw [List.length_map]
  exact Nat.le_trans (List.length_filter_le _ _) (subs_len pl)
theorem ok_sStr {C CS fI2 pM fM pY fY f : Addr} {fdM fdY fd : FuncData} (F : Fun K "__str__" "Surface.__str__" s_Surface___str__ f fd) (T : Txt mg) (SC : SurC K mg CS fI2)
    (PM : PropC P w K mg base CS "mine" 5 (spSOf K C CS ["mine"]) pM fM fdM) (PY : PropC P w K mg base CS "yours" 5 (spSOf K C CS ["yours"]) pY fY fdY) :
    FnOk P w K mg base CX0 7 f fd ["self"] (spSStr K C CS) := by
  refine F.ok sc_Surface___str__ (fun vs H Q E h => ?_) (fun cdv A outer s H vs Q E hr h => ?_)
  · obtain ⟨a, b, pl, rfl, _⟩ := h
    rfl
  · obtain ⟨a, b, pl, rfl, sf, hok, hl, q⟩ := h
    have hr6 := hr.mono (j := 6) (by omega)
    obtain ⟨dx, t, us, ea, hs, hP, pr⟩ := id sf
    have l0 := hP.length
    rw [List.length_map] at l0
    have b0 := subs_len pl
    have b1 := inK_len ["mine"] pl
    have b2 := inK_len ["yours"] pl
    have n0 := numT_len (n := (subsP pl).length) (by omega)
    have n1 := numT_len (n := (inK ["mine"] pl).length) (by omega)
    have n2 := numT_len (n := (inK ["yours"] pl).length) (by omega)
    have c0 := sP_len
    have c1 := sM_len
    have c2 := sY_len
    refine ⟨_, (pss_one (ps_ret (pe_joined (.cons (pe_fmt (pe_callB (lenQ (K := K) rfl) (by rfl) T.len_ (by decide +kernel) (pa_cons (pe_fld (pv 0) rfl) pa_nil))) (.cons pe_str
      (.cons (pe_fmt (pe_callB (lenQ (K := K) rfl) (by rfl) T.len_ (by decide +kernel) (pa_cons (pe_prop (pv 0) SC.cl PM.p PM.ok hr6 PM.b .nil pass0 rfl) pa_nil))) (.cons pe_str
      (.cons (pe_fmt (pe_callB (lenQ (K := K) rfl) (by rfl) T.len_ (by decide +kernel) (pa_cons (pe_prop (pv 0) SC.cl PY.p PY.ok hr6 PY.b .nil pass0 rfl) pa_nil))) (.cons pe_str .nil))))))))), ?_⟩
    refine ⟨_, rfl, a, CS, dx, _, .ref t, rfl, ea, SC.cl, SC.np, rfl, .inl ⟨t, us, rfl, .inr hs, .inr ⟨(us.length : Int), rfl, num_log (by omega), ?_⟩⟩⟩
    rw [l0]
    have e0 : Str.empty ++ numT (subsP pl).length = numT (subsP pl).length := Str.empty_append _
    refine ⟨numT (subsP pl).length, rfl, by rw [e0, sizeLine_eq]; omega, sP, rfl, by rw [e0, sapp, sizeLine_eq]; omega, ?_⟩
    refine ⟨_, rfl, a, dx, _, rfl, ea, a, b, pl, rfl, sf, hok, hl, fun r ms H1 s1 nr er hM => .inl ⟨r, ms, rfl, .inr (SqT.of er), .inr ⟨(ms.length : Int), rfl, num_log (by have := hM.length; omega), ?_⟩⟩⟩
    rw [hM.length]
    have sf1 := sf.sm s1
    refine ⟨numT (inK ["mine"] pl).length, rfl, by rw [e0, sapp, sapp, sizeLine_eq]; omega, sM, rfl, by rw [e0, sapp, sapp, sapp, sizeLine_eq]; omega, ?_⟩
    refine ⟨_, rfl, a, dx, _, rfl, s1 _ _ ea, a, b, pl, rfl, sf1, hok, hl, fun r2 ys H2 s2 nr2 er2 hY => .inl ⟨r2, ys, rfl, .inr (SqT.of er2), .inr ⟨(ys.length : Int), rfl, num_log (by have := hY.length; omega), ?_⟩⟩⟩
    rw [hY.length]
    refine ⟨numT (inK ["yours"] pl).length, rfl, by rw [e0, sapp, sapp, sapp, sapp, sizeLine_eq]; omega, sY, rfl, by rw [e0, sapp, sapp, sapp, sapp, sapp, sizeLine_eq]; omega, ?_⟩
    rw [e0]
    exact q H2 (s1.trans s2)
end
end Eh
set_option Elab.async false
set_option linter.all false
set_option maxRecDepth 100000
set_option maxHeartbeats 16000000
namespace Eh
open PySem PySem.Spec PyProof.Rows L2
theorem subs_inner : ∀ {pa : List Nat} {pl q : Pl}, (pa, q) ∈ subsP pl → q ∈ innerOf pl
  | [], .leaf k t, q, h => by
    rw [subsP] at h
    rw [(Prod.mk.inj (List.mem_singleton.mp h)).2]
    exact inner_self _
  | [], .node k ps, q, h => by
    rcases mem_node.mp h with ⟨_, e⟩ | ⟨_, j, r, p, e, _⟩
    · rw [e]
      exact inner_self _
    · cases e
  | i :: r, .leaf k t, q, h => by
    rw [subsP] at h
    cases (Prod.mk.inj (List.mem_singleton.mp h)).1
  | i :: r, .node k ps, q, h => by
    rcases mem_node.mp h with ⟨e, _⟩ | ⟨_, j, r', p, e, hp, hq⟩
    · cases e
    · cases e
      have h1 := subs_inner hq
      rw [innerOf_eq]
      refine List.mem_cons_of_mem _ ?_
      have g : ∀ {ps : List Pl}, p ∈ ps → q ∈ innerAll ps := fun {ps} hp => by
        induction ps with
        | nil => cases hp
        | cons y ps ih =>
          rw [innerAll]
          rcases List.mem_cons.mp hp with e | e
          · rw [← e]
            exact List.mem_append_left _ h1
          · exact List.mem_append_right _ (ih e)
      exact g (List.mem_of_getElem? hp)
theorem keys_paired {K : PySem.W.Frag} {H H0 : Hp} : ∀ {kvs : List (List Key × V)} {bs : List Addr} {ys : List (List Nat × Pl)}, IsKeys H kvs bs → RowsAt K H0 kvs ys → Paired (fun b (y : List Nat × Pl) => H b = some (.tup ((keyP y.1).map kV))) bs ys
  | [], _, _, h, r => by
    cases h
    cases r
    exact .nil
  | kv :: kvs, _, _, h, r => by
    cases h with
    | cons a t =>
      cases r with
      | cons x y => exact .cons (by rw [← x.1]; exact a) (keys_paired t y)
theorem keys_at {K : PySem.W.Frag} {H : Hp} {bs : List Addr} {ys : List (List Nat × Pl)} (h : Paired (fun b (y : List Nat × Pl) => H b = some (.tup ((keyP y.1).map kV))) bs ys) : PthsAt K H (bs.map V.ref) (ys.map (·.1)) := by
  induction h with
  | nil => exact .nil
  | cons a t ih => exact .cons (SqT.of (by rw [← keyP_vals]; exact a)) ih
/-- rows[place] -/
theorem rows_get {K : PySem.W.Frag} {H : Hp} {kvs : List (List Key × V)} {pl : Pl} {d b : Addr} {j : Nat} {y : List Nat × Pl} (e : Rd H d (.dT kvs)) (r : RowsAt K H kvs (subsP pl)) (hy : (subsP pl)[j]? = some y) (eb : H b = some (.tup ((keyP y.1).map kV))) :
    ∃ v, DGet H d (.ref b) (some v) ∧ At K H v y.2 := by
  have hl := Paired.length r
  have hj := (List.getElem?_eq_some_iff.mp hy).1
  have hk : kvs[j]? = some kvs[j] := List.getElem?_eq_getElem (by omega)
  obtain ⟨y', hy', e1, e2⟩ := paired_at r hk
  rw [hy] at hy'
  cases hy'
  have nk : (kvs.map (·.1)).Nodup := by
    rw [rows_keys r]
    exact keys_nodup (subs_nodup pl)
  have hk' : kvs[j]? = some (keyP y.1, kvs[j].2) := by rw [hk, ← e1]
  exact ⟨kvs[j].2, .inr ⟨kvs, keyP y.1, b, e, rfl, eb, (valV_nodup nk hk').symm⟩, e2⟩
def pathD (ns : List Nat) : PyData := .tuple (ns.map fun (i : Nat) => PyData.int (i : Int))
def pathsD (ps : List (List Nat)) : PyData := .list (ps.map pathD)
theorem dp_paths {K : PySem.W.Frag} {H : Hp} {us : List V} {ps : List (List Nat)} (h : PthsAt K H us ps) : DpAll K H us (ps.map pathD) := by
  induction h with
  | nil => exact .nil
  | cons a t ih => exact .cons (.tup a (dpl_nats _)) ih
theorem nats_lay : ∀ ns : List Nat, PyData.canLayAll0 (ns.map fun (i : Nat) => PyData.int (i : Int)) = true ∧ PyData.depthAll (ns.map fun (i : Nat) => PyData.int (i : Int)) = 0
  | [] => ⟨rfl, rfl⟩
  | n :: ns => by
    obtain ⟨a, b⟩ := nats_lay ns
    refine ⟨?_, ?_⟩
    · show (true && PyData.canLayAll0 _) = true
      rw [a]
      rfl
    · show max 0 (PyData.depthAll _) = 0
      rw [b]
      rfl
theorem paths_lay : ∀ ps : List (List Nat), PyData.canLayAll0 (ps.map pathD) = true ∧ PyData.depthAll (ps.map pathD) ≤ 1
  | [] => ⟨rfl, Nat.zero_le _⟩
  | p :: ps => by
    obtain ⟨a, b⟩ := paths_lay ps
    obtain ⟨a1, b1⟩ := nats_lay p
    refine ⟨?_, ?_⟩
    · show (PyData.canLayAll0 _ && PyData.canLayAll0 _) = true
      rw [a, a1]
      rfl
    · show max (PyData.depthAll (p.map fun (i : Nat) => PyData.int (i : Int)) + 1) (PyData.depthAll (ps.map pathD)) ≤ 1
      rw [b1]
      omega
theorem pathsD_lay (ps : List (List Nat)) : PyData.canLay0 (pathsD ps) = true ∧ PyData.depth (pathsD ps) ≤ 2 := by
  obtain ⟨a, b⟩ := paths_lay ps
  refine ⟨a, ?_⟩
  show PyData.depthAll (ps.map pathD) + 1 ≤ 2
  omega
theorem pathsD_shaped (ps : List (List Nat)) : SeqAt.shaped (pathsD ps) = true := by
  obtain ⟨a, b⟩ := pathsD_lay ps
  unfold SeqAt.shaped
  rw [a, Bool.true_and]
  exact decide_eq_true (by omega)
theorem four_shaped (a b c d : List (List Nat)) : SeqAt.shaped (.list [pathsD a, pathsD b, pathsD c, pathsD d]) = true := by
  obtain ⟨a1, a2⟩ := pathsD_lay a
  obtain ⟨b1, b2⟩ := pathsD_lay b
  obtain ⟨c1, c2⟩ := pathsD_lay c
  obtain ⟨d1, d2⟩ := pathsD_lay d
  unfold SeqAt.shaped
  rw [show PyData.canLay0 (.list [pathsD a, pathsD b, pathsD c, pathsD d]) = (PyData.canLay0 (pathsD a) && (PyData.canLay0 (pathsD b) && (PyData.canLay0 (pathsD c) && (PyData.canLay0 (pathsD d) && true)))) from rfl, a1, b1, c1, d1, Bool.true_and]
  refine decide_eq_true ?_
  show max (PyData.depth (pathsD a)) (max (PyData.depth (pathsD b)) (max (PyData.depth (pathsD c)) (max (PyData.depth (pathsD d)) 0))) + 1 ≤ 64
  omega
theorem one_has (k z : Str) : decide (V.str k = V.str z) = [z].contains k := by
  rw [Bool.eq_iff_iff, decide_eq_true_iff, List.contains_iff_mem, List.mem_singleton]
  exact ⟨fun e => by injection e, fun e => by rw [e]⟩
theorem leaf_has (k : Str) : leafKinds.contains k = plain4.contains k := by
  rw [Bool.eq_iff_iff, List.contains_iff_mem, List.contains_iff_mem]
  unfold leafKinds plain4
  simp only [List.mem_cons, List.not_mem_nil, or_false]
  constructor
  · rintro (h | h | h | h) <;> simp [h]
  · rintro (h | h | h | h) <;> simp [h]
theorem leaf_plain {K : PySem.W.Frag} {H : Hp} {v : V} {p : Pl} (h : At K H v p) : isLeaf p = plain4.contains (kindPl p) := by
  rw [← leaf_has]
  cases h with
  | leaf h o => exact (leaf_kind o).symm
  | node h1 _ o _ _ _ => exact (node_kind o).symm
theorem At.kindAt {K : PySem.W.Frag} {H : Hp} {v : V} {p : Pl} (h : At K H v p) : ∃ a y, v = .ref a ∧ SqT K H a [.str (kindPl p), y] := by
  cases h with
  | leaf h o => exact ⟨_, _, rfl, h⟩
  | node h1 _ o _ _ _ => exact ⟨_, _, rfl, h1⟩
end Eh
set_option Elab.async false
set_option linter.all false
set_option maxRecDepth 100000
set_option maxHeartbeats 16000000
namespace Eh
open PySem PySem.Spec PyProof.Rows L2
theorem hu0f {A : Around} {k : Nat} (hr : Room k A) : A.units < cLine := by
  have := hu1e hr
  omega
section
variable {P : Program} {w : World} {K : PySem.W.Frag} {mg : Str → Option Value} {base : Heap}
theorem makeSf {C CS x dx b : Addr} {H : Hp} {pl : Pl} {R : VK} {E : XK} (nx : H x = none) (nd : H dx = none) (pr : PrG K C H b (nodesOf pl)) (hok : plOk pl = true) (hl : (nodesOf pl).length < 1000)
    (q : ∀ H', Same H H' → SfAt K C CS H' x b pl → R .non H') : spSInit K C CS [.ref x, .ref b] (upd (upd H dx (.own x)) x (.ins CS dx [])) R E := by
  have u3 : Same H (upd (upd H dx (.own x)) x (.ins CS dx [])) := fun b' o' eb => by
    rw [upd_ne (ne_of_none eb nx), upd_ne (ne_of_none eb nd)]
    exact eb
  exact ⟨x, dx, b, pl, rfl, upd_same, pr.sm u3, hok, hl, fun H' bt sf => q H' (fun b' o' eb => bt b' o' (ne_of_none eb nx) (u3 _ _ eb)) sf⟩
/-- the promise and its rows -/
structure RowD (K : PySem.W.Frag) (C : Addr) (H : Hp) (a d : Addr) (pl : Pl) (kvs : List (List Key × V)) : Prop where
  pr : PrG K C H a (nodesOf pl)
  e : H d = some (.dT kvs)
  r : RowsAt K H kvs (subsP pl)
theorem RowD.sm {C a d : Addr} {H H' : Hp} {pl : Pl} {kvs : List (List Key × V)} (h : RowD K C H a d pl kvs) (s : Same H H') : RowD K C H' a d pl kvs := ⟨h.pr.sm s, s _ _ h.e, rows_tk (stk s) h.r⟩
theorem lock_tk {H : Hp} {d : Addr} {kvs : List (List Key × V)} (e : H d = some (.dT kvs)) (od : Obj) : Tk H (upd H d (.frz od (.dT kvs))) :=
  tk_tup (fun b zs h => by rw [upd_ne (fun z => by rw [z, e] at h; cases h)]; exact h) (fun b o zs h => by rw [upd_ne (fun z => by rw [z, e] at h; cases h)]; exact h)
theorem PrG.lock {C a d : Addr} {H : Hp} {ns : List (Str × V)} {kvs : List (List Key × V)} (h : PrG K C H a ns) (e : H d = some (.dT kvs)) (od : Obj) : PrG K C (upd H d (.frz od (.dT kvs))) a ns := by
  obtain ⟨dx, p, xs, ea, hs, hN, g⟩ := h
  exact ⟨dx, p, xs, by rw [upd_ne (fun z => by rw [z, e] at ea; cases ea)]; exact ea, (lock_tk e od).seq hs, hN.tk (lock_tk e od), g⟩
theorem SfAt.lock {C CS a b d : Addr} {H : Hp} {pl : Pl} {kvs : List (List Key × V)} (h : SfAt K C CS H a b pl) (e : H d = some (.dT kvs)) (od : Obj) : SfAt K C CS (upd H d (.frz od (.dT kvs))) a b pl := by
  obtain ⟨dx, t, us, ea, hs, hP, pr⟩ := h
  exact ⟨dx, t, us, by rw [upd_ne (fun z => by rw [z, e] at ea; cases ea)]; exact ea, (lock_tk e od).seq hs, hP.tk (lock_tk e od), pr.lock e od⟩
theorem path_nats {H : Hp} {b : Addr} {ns : List Nat} (h : SqT K H b (ns.map natV)) : PathV K H (.ref b) (some (ns.map natV)) :=
  .tup h fun z m => by
    obtain ⟨n, _, rfl⟩ := List.mem_map.mp m
    exact .inl ⟨_, rfl⟩
theorem inK_two (pl : Pl) : ((inK ["mine", "yours"] pl).length = 0) = ((inK ["mine"] pl).length + (inK ["yours"] pl).length = 0) := by
  unfold inK
  rw [Nat.add_eq_zero_iff, List.length_eq_zero_iff, List.length_eq_zero_iff, List.length_eq_zero_iff, List.map_eq_nil_iff, List.map_eq_nil_iff, List.map_eq_nil_iff, List.filter_eq_nil_iff, List.filter_eq_nil_iff, List.filter_eq_nil_iff]
  refine propext ⟨fun h => ⟨fun y hy e => h y hy ?_, fun y hy e => h y hy ?_⟩, fun h y hy e => ?_⟩
  · rw [List.contains_iff_mem] at e ⊢
    exact List.mem_cons.mpr (.inl (List.mem_singleton.mp e))
  · rw [List.contains_iff_mem] at e ⊢
    exact List.mem_cons_of_mem _ e
  · rw [List.contains_iff_mem] at e
    rcases List.mem_cons.mp e with e | e
    · exact h.1 y hy (by rw [List.contains_iff_mem]; exact List.mem_singleton.mpr e)
    · exact h.2 y hy (by rw [List.contains_iff_mem]; exact e)
def spSurR (K : PySem.W.Frag) (C : Addr) : Sp := fun vs H Q _ => ∃ a d pl kvs, vs = [.ref a, .ref d] ∧ RowD K C H a d pl kvs ∧ Drawn pl ∧ ∀ H', Same H H' → Q (.bl true) H'
theorem ok_surface_right {C CS CI CE fI fL fS fM fX fO p1 g1 p2 g2 p3 g3 p4 g4 p5 g5 gL gI gH gQ gT gE f : Addr} {fdS fdM fdX fdO fd1 fd2 fd3 fd4 fd5 fdL fdI fdH fdQ fdT fdE fd : FuncData} (F : Fun K "_law_surface_right" "_law_surface_right" s__law_surface_right f fd) (T : Txt mg) (PC : PromC K mg C fI fL) (SC : SurC K mg CS fS)
    (GS : FnOk P w K mg base (L2.CX P w) 5 fS fdS ["self", "promise"] (spSInit K C CS)) (bS : Binds K fdS ["self", "promise"] [])
    (PPl : PropC P w K mg base CS "places" 1 (spSPlaces K C CS) p1 g1 fd1) (PM : PropC P w K mg base CS "mine" 5 (spSOf K C CS ["mine"]) p2 g2 fd2) (PY : PropC P w K mg base CS "yours" 5 (spSOf K C CS ["yours"]) p3 g3 fd3) (PQ : PropC P w K mg base CS "plain" 5 (spSOf K C CS plain4) p4 g4 fd4) (PR : PropC P w K mg base CS "promise" 1 (spSProm K C CS) p5 g5 fd5)
    (DL : DunC P w K mg base CS "__len__" 1 ["self"] (spSLen K C CS) gL fdL) (sI : PySem.W.findIn K (.ref CS) "__iter__" = some (some (.ref gI))) (iI : PySem.W.isFn K (.ref gI) = true) (GI : FnN P w K mg base 1 gI fdI ["self"] (spSIter K CS)) (bI : Binds K fdI ["self"] [])
    (DH : DunC P w K mg base CS "__contains__" 5 ["self", "value"] (spSHas K C CS) gH fdH)
    (GX : FnOk P w K mg base (L2.CX P w) 7 fX fdX ["self", "place"] (spSItem K C CS CI)) (sX : PySem.W.findIn K (.ref CS) "__getitem__" = some (some (.ref fX))) (iX : PySem.W.isFn K (.ref fX) = true) (kX : PySem.W.fnIn K fX = true) (bX : Binds K fdX ["self", "place"] [])
    (DQ : DunC P w K mg base CS "__eq__" 3 ["self", "value"] (spSEq K C CS) gQ fdQ) (DT : DunC P w K mg base CS "__str__" 7 ["self"] (spSStr K C CS) gT fdT)
    (MO : Meth K CS "is_over" fO) (GO : FnOk P w K mg base CX0 5 fO fdO ["self"] (spSOver K C CS)) (bO : Binds K fdO ["self"] [])
    (DE : DunC P w K mg base C "__eq__" 1 ["self", "value"] (spEqA K C) gE fdE) (IC : IsC K C) (ICS : IsC K CS) (hNe : PySem.W.findIn K (.ref C) "__ne__" = some (some (.builtin "object.__ne__"))) (hNeS : PySem.W.findIn K (.ref CS) "__ne__" = some (some (.builtin "object.__ne__"))) (hsub : PySem.W.subIn K (.ref C) (.ref CS) = some false)
    (GM : FnOk P w K mg base (L2.CX P w) 138 fM fdM ["plain"] (spMadeE K C CE 132)) (mM : mg "_law_made" = some (.ref fM)) (kM : PySem.W.keepIn K (.ref fM) = true) (bM : Binds K fdM ["plain"] [])
    {fF : Addr} {fdF : FuncData} (C__law_is_leaf : Cal P w K mg base 1 "_law_is_leaf" fF fdF ["plain"] (spIsLeaf K)) : FnOk P w K mg base CX0 140 f fd ["made", "rows"] (spSurR K C) := by
  refine F.ok sc__law_surface_right (fun vs H Q E h => ?_) (fun cdv A outer s H vs Q E hr h => ?_)
  · obtain ⟨a, d, pl, kvs, rfl, _⟩ := h
    rfl
  · obtain ⟨a, d, pl, kvs, rfl, D0, dp, q⟩ := h
    have hr138 := hr.mono (j := 138) (by omega)
    have hr9 := hr.mono (j := 9) (by omega)
    have hr8 := hr.mono (j := 8) (by omega)
    have hr6 := hr.mono (j := 6) (by omega)
    have hr5 := hr.mono (j := 5) (by omega)
    have hr4 := hr.mono (j := 4) (by omega)
    have hr3 := hr.mono (j := 3) (by omega)
    have hr2 := hr.mono (j := 2) (by omega)
    have hr1 := hr.mono (j := 1) (by omega)
    refine ⟨_, (pss_cons (ps_set (i := 2) sc__law_surface_right.nd rfl (.inr rfl) (pe_make (E := E0) SC.mkC GS hr6 (by rfl) SC.g bS .nil passL (pa_cons (pv 0) pa_nil)))
  (pss_cons (ps_setLc (i := 3) (own := [("place", 7)]) (g := gName 7) (by rfl) sc__law_surface_right.nd rfl rfl (sw_true rfl rfl rfl (by decide +kernel)) (piL (K := K) rfl (pe_callB (sortD (by rfl) (hu64e hr)) (by rfl) T.sorted_ (by decide +kernel) (pa_cons (pv 1) pa_nil))) (blkOk_by (by kernel_rfl)) (fun _ _ _ _ _ => (pg_name (i := 7) sc__law_surface_right.nd rfl (.inl rfl))) (fun _ _ _ _ _ => (pts_one (pt_cmpR op_eq (pe_ix (ixT (K := K) rfl) (pe_dget (hu1e hr) (pv 1) (pv 7) (fun _ _ => rfl)) pe_int (fun _ _ => rfl)) pe_str (nomark _)))) (fun _ _ _ _ _ => (pv 7)))
  (pss_cons (ps_setLc (i := 4) (own := [("place", 7)]) (g := gName 7) (by rfl) sc__law_surface_right.nd rfl rfl (sw_true rfl rfl rfl (by decide +kernel)) (piL (K := K) rfl (pe_callB (sortD (by rfl) (hu64e hr)) (by rfl) T.sorted_ (by decide +kernel) (pa_cons (pv 1) pa_nil))) (blkOk_by (by kernel_rfl)) (fun _ _ _ _ _ => (pg_name (i := 7) sc__law_surface_right.nd rfl (.inl rfl))) (fun _ _ _ _ _ => (pts_one (pt_cmpR op_eq (pe_ix (ixT (K := K) rfl) (pe_dget (hu1e hr) (pv 1) (pv 7) (fun _ _ => rfl)) pe_int (fun _ _ => rfl)) pe_str (nomark _)))) (fun _ _ _ _ _ => (pv 7)))
  (pss_cons (ps_setLc (i := 5) (own := [("place", 7)]) (g := gName 7) (by rfl) sc__law_surface_right.nd rfl rfl (sw_true rfl rfl rfl (by decide +kernel)) (piL (K := K) rfl (pe_callB (sortD (by rfl) (hu64e hr)) (by rfl) T.sorted_ (by decide +kernel) (pa_cons (pv 1) pa_nil))) (blkOk_by (by kernel_rfl)) (fun _ _ _ _ _ => (pg_name (i := 7) sc__law_surface_right.nd rfl (.inl rfl))) (fun _ _ _ _ _ => (pts_one (pt_val (pe_call C__law_is_leaf.G hr1 (by rfl) C__law_is_leaf.m C__law_is_leaf.k C__law_is_leaf.b .nil pass0 (pa_cons (pe_dget (hu1e hr) (pv 1) (pv 7) (fun _ _ => rfl)) pa_nil))))) (fun _ _ _ _ _ => (pv 7)))
  (pss_cons (ps_if (pt_cmpR (neD (K := K) rfl (hu64e hr)) (pe_lst (pa_cons (pe_callTy (lstOf (K := K) rfl) (by rfl) T.list_ (by decide +kernel) (pa_cons (pe_prop (pv 2) SC.cl PPl.p PPl.ok hr2 PPl.b .nil pass0 rfl) pa_nil)) (pa_cons (pe_callTy (lstOf (K := K) rfl) (by rfl) T.list_ (by decide +kernel) (pa_cons (pe_prop (pv 2) SC.cl PM.p PM.ok hr6 PM.b .nil pass0 rfl) pa_nil)) (pa_cons (pe_callTy (lstOf (K := K) rfl) (by rfl) T.list_ (by decide +kernel) (pa_cons (pe_prop (pv 2) SC.cl PY.p PY.ok hr6 PY.b .nil pass0 rfl) pa_nil)) (pa_cons (pe_callTy (lstOf (K := K) rfl) (by rfl) T.list_ (by decide +kernel) (pa_cons (pe_prop (pv 2) SC.cl PQ.p PQ.ok hr6 PQ.b .nil pass0 rfl) pa_nil)) pa_nil))))) (pe_lst (pa_cons (pe_callB (sortD (by rfl) (hu64e hr)) (by rfl) T.sorted_ (by decide +kernel) (pa_cons (pv 1) pa_nil)) (pa_cons (pv 3) (pa_cons (pv 4) (pa_cons (pv 5) pa_nil))))) (nomark _))
  (pss_one (ps_ret pe_bl))
  pss_nil)
  (pss_cons (ps_if (PW.pt (pw_or (pt_cmpR (neD (K := K) rfl (hu64e hr)) (pe_lc (own := [("place", 7)]) (g := gName 7) (by rfl) sc__law_surface_right.nd (pi_own GI bI hr1 sI iI (pv 2)) (blkOk_by (by kernel_rfl)) (fun _ _ _ _ _ => (pg_name (i := 7) sc__law_surface_right.nd rfl (.inl rfl))) (fun _ _ _ _ _ => pts_nil) (fun _ _ _ _ _ => (pv 7))) (pe_callB (sortD (by rfl) (hu64e hr)) (by rfl) T.sorted_ (by decide +kernel) (pa_cons (pv 1) pa_nil)) (nomark _)) (pw_or (pt_cmpR op_ne (pe_callB (lenOwn DL.ok hr2 DL.s DL.f DL.b) (by rfl) T.len_ (by decide +kernel) (pa_cons (pv 2) pa_nil)) (pe_callB call_len_dT (by rfl) T.len_ (by decide +kernel) (pa_cons (pv 1) pa_nil)) (nomark _)) (pw_or1 (pt_cmpR (neOwn DE.ok hr2 IC.mro hNe DE.s DE.f DE.b pass0) (pe_prop (pv 2) SC.cl PR.p PR.ok hr2 PR.b .nil pass0 rfl) (pv 0) (nomark _))))))
  (pss_one (ps_ret pe_bl))
  pss_nil)
  (pss_cons (ps_if (pt_cmpR (neD (K := K) rfl (hu64e hr)) (pe_lock (pe_lc (own := [("place", 7)]) (g := gName 7) (by rfl) sc__law_surface_right.nd (pi_keys (pv 1)) (blkOk_by (by kernel_rfl)) (fun _ _ _ _ _ => (pg_name (i := 7) sc__law_surface_right.nd rfl (.inl rfl))) (fun _ _ _ _ _ => (pts_one (PW.pt (pw_or (pt_cmpR (niOwn DH.ok hr5 DH.s DH.f DH.b pass0) (pv 7) (pv 2) (by rfl)) (pw_or1 (pt_cmpR (neOwn DE.ok hr2 IC.mro hNe DE.s DE.f DE.b pass0) (pe_ixOwn (E := E0) GX hr8 sX iX kX bX passL (pv 2) (pv 7)) (pe_call (E := E0) GM hr138 (by rfl) mM kM bM .nil passL (pa_cons (pe_dget (hu1e hr) (pv 1) (pv 7) (fun _ _ => rfl)) pa_nil)) (nomark _))))))) (fun _ _ _ _ _ => (pv 7)))) (pe_lst pa_nil) (nomark _))
  (pss_one (ps_ret pe_bl))
  pss_nil)
  (pss_cons (ps_set (i := 6) sc__law_surface_right.nd rfl (.inl rfl) (pe_op op_add_str (pe_op op_add_str (pe_op op_add_str (pe_op op_add_str (pe_op op_add_str (pe_callTy call_str_int (by rfl) T.str_ (by decide +kernel) (pa_cons (pe_callB call_len_dT (by rfl) T.len_ (by decide +kernel) (pa_cons (pv 1) pa_nil)) pa_nil)) pe_str) (pe_callTy call_str_int (by rfl) T.str_ (by decide +kernel) (pa_cons (pe_callB (lenQ (K := K) rfl) (by rfl) T.len_ (by decide +kernel) (pa_cons (pv 3) pa_nil)) pa_nil))) pe_str) (pe_callTy call_str_int (by rfl) T.str_ (by decide +kernel) (pa_cons (pe_callB (lenQ (K := K) rfl) (by rfl) T.len_ (by decide +kernel) (pa_cons (pv 4) pa_nil)) pa_nil))) pe_str))
  (pss_one (ps_ret (pe_and (pe_cmpR op_eq (pe_callTy (strOwn DT.ok hr9 DT.s DT.f DT.b pass0) (by rfl) T.str_ (by decide +kernel) (pa_cons (pv 2) pa_nil)) (pv 6) (nomark _)) (pe_and (pe_cmpR op_eq (pe_meth0 (pv 2) SC.cl MO GO hr5 bO .nil pass0) (pe_cmpR (eqEL (K := K) rfl (hu0f hr)) (pe_op op_cat (pv 3) (pv 4)) (pe_lst pa_nil) (nomark _)) (nomark _)) (pe_and (pe_cmpR (eqOwn DQ.ok hr3 DQ.s DQ.f DQ.b pass0) (pv 2) (pe_make (E := E0) SC.mkC GS hr6 (by rfl) SC.g bS .nil passL (pa_cons (pv 0) pa_nil)) (nomark _)) (pe_one (pe_cmpR (neOwn2 (C2 := C) DQ.ok hr4 ICS.mro hNeS hsub DQ.s DQ.f DQ.b pass0) (pv 2) (pv 0) (nomark _)))))))))))))))), ?_⟩
    have hl11 := dp.l
    have hl : (nodesOf pl).length < 1000 := by omega
    have hsl := subs_len pl
    have hk0 : ((subsP pl).map (·.1)).head? = some [] := by
      obtain ⟨r0, er⟩ := subs_head pl
      rw [er]
      rfl
    have hkv := Paired.length D0.r
    have hkl : kvs.length < 1000000 := by omega
    refine ⟨_, rfl, fun x dx nx nd ne => makeSf nx nd D0.pr dp.ok hl fun H1 tot sf => ⟨rfl, ?_⟩⟩
    have D := D0.sm tot
    refine ⟨_, rfl, d, kvs, (subsP pl).map (·.1), rfl, .inl D.e, rows_keys D.r, .inr hk0, subs_srt pl, hkl, fun l1 bs1 nl1 ik1 => ?_⟩
    have ek1 := keys_paired ik1 D.r
    have s1 : Same H1 (upd H1 l1 (.lst (bs1.map V.ref))) := same_new nl1
    have el1 : upd H1 l1 (.lst (bs1.map V.ref)) l1 = some (.lst (bs1.map V.ref)) := upd_same
    refine ⟨l1, rfl, ⟨_, SqL.of el1⟩, fun M1 nM1 => ?_⟩
    have D := D.sm s1
    have sf := sf.sm s1
    have tot := tot.trans s1
    refine sel_lc (fun y => (["mine"] : List Str).contains (kindPl y.2)) el1 (Paired.mono (fun b y e => s1 _ _ e) ek1) nM1 (by omega) ?_ (fun b H3 Kv hk => ⟨_, rfl, hk⟩) ?_
    · intro j b y H3 Kb hy eb s3 hK
      have D3 := D.sm s3
      obtain ⟨v, hg, hA⟩ := rows_get (.inl D3.e) D3.r hy (s3 _ _ eb)
      obtain ⟨k0, y0, rfl, hsk⟩ := hA.kindAt
      refine ⟨_, rfl, _, rfl, d, _, rfl, hg, k0, _, 0, .str (kindPl y.2), rfl, rfl, hsk, rfl, rfl, _, rfl, ?_⟩
      rw [one_has]
      exact hK H3 (Same.refl H3)
    intro am1 G1 sm1 eM1 hM1
    have D := D.sm sm1
    have sf := sf.sm sm1
    have tot := tot.trans sm1
    clear s1 el1 ek1 ik1 nl1 sm1 nM1
    refine ⟨_, rfl, d, kvs, (subsP pl).map (·.1), rfl, .inl D.e, rows_keys D.r, .inr hk0, subs_srt pl, hkl, fun l2 bs2 nl2 ik2 => ?_⟩
    have ek2 := keys_paired ik2 D.r
    have s2 : Same G1 (upd G1 l2 (.lst (bs2.map V.ref))) := same_new nl2
    have el2 : upd G1 l2 (.lst (bs2.map V.ref)) l2 = some (.lst (bs2.map V.ref)) := upd_same
    refine ⟨l2, rfl, ⟨_, SqL.of el2⟩, fun M2 nM2 => ?_⟩
    have D := D.sm s2
    have sf := sf.sm s2
    have tot := tot.trans s2
    have eM1 := s2 _ _ eM1
    have hM1 := hM1.tk (stk s2)
    refine sel_lc (fun y => (["yours"] : List Str).contains (kindPl y.2)) el2 (Paired.mono (fun b y e => s2 _ _ e) ek2) nM2 (by omega) ?_ (fun b H3 Kv hk => ⟨_, rfl, hk⟩) ?_
    · intro j b y H3 Kb hy eb s3 hK
      have D3 := D.sm s3
      obtain ⟨v, hg, hA⟩ := rows_get (.inl D3.e) D3.r hy (s3 _ _ eb)
      obtain ⟨k0, y0, rfl, hsk⟩ := hA.kindAt
      refine ⟨_, rfl, _, rfl, d, _, rfl, hg, k0, _, 0, .str (kindPl y.2), rfl, rfl, hsk, rfl, rfl, _, rfl, ?_⟩
      rw [one_has]
      exact hK H3 (Same.refl H3)
    intro am2 G2 sm2 eM2 hM2
    have D := D.sm sm2
    have sf := sf.sm sm2
    have tot := tot.trans sm2
    have eM1 := sm2 _ _ eM1
    have hM1 := hM1.tk (stk sm2)
    clear s2 el2 ek2 ik2 nl2 sm2 nM2
    refine ⟨_, rfl, d, kvs, (subsP pl).map (·.1), rfl, .inl D.e, rows_keys D.r, .inr hk0, subs_srt pl, hkl, fun l3 bs3 nl3 ik3 => ?_⟩
    have ek3 := keys_paired ik3 D.r
    have s3 : Same G2 (upd G2 l3 (.lst (bs3.map V.ref))) := same_new nl3
    have el3 : upd G2 l3 (.lst (bs3.map V.ref)) l3 = some (.lst (bs3.map V.ref)) := upd_same
    refine ⟨l3, rfl, ⟨_, SqL.of el3⟩, fun M3 nM3 => ?_⟩
    have D := D.sm s3
    have sf := sf.sm s3
    have tot := tot.trans s3
    have eM1 := s3 _ _ eM1
    have hM1 := hM1.tk (stk s3)
    have eM2 := s3 _ _ eM2
    have hM2 := hM2.tk (stk s3)
    refine sel_lc (fun y => (plain4 : List Str).contains (kindPl y.2)) el3 (Paired.mono (fun b y e => s3 _ _ e) ek3) nM3 (by omega) ?_ (fun b H3 Kv hk => ⟨_, rfl, hk⟩) ?_
    · intro j b y H3 Kb hy eb s3 hK
      have D3 := D.sm s3
      obtain ⟨v, hg, hA⟩ := rows_get (.inl D3.e) D3.r hy (s3 _ _ eb)
      refine ⟨_, rfl, _, rfl, d, _, rfl, hg, v, y.2, rfl, hA, fun H4 s4 => ⟨_, rfl, ?_⟩⟩
      rw [leaf_plain hA]
      exact hK H4 s4
    intro am3 G3 sm3 eM3 hM3
    have D := D.sm sm3
    have sf := sf.sm sm3
    have tot := tot.trans sm3
    have eM1 := sm3 _ _ eM1
    have hM1 := hM1.tk (stk sm3)
    have eM2 := sm3 _ _ eM2
    have hM2 := hM2.tk (stk sm3)
    clear s3 el3 ek3 ik3 nl3 sm3 nM3
    have hM1 : PthsAt K G3 am1 (inK ["mine"] pl) := hM1
    have hM2 : PthsAt K G3 am2 (inK ["yours"] pl) := hM2
    have hM3 : PthsAt K G3 am3 (inK plain4 pl) := hM3
    obtain ⟨dS, t0, us0, eS, hS0, hP0, prS⟩ := id sf
    refine ⟨_, rfl, x, dS, _, rfl, eS, x, a, pl, rfl, sf, fun t us ht hp => ⟨t, us, rfl, .inr ht, fun L1 nL1 => ?_⟩⟩
    have z1 : Same G3 (upd G3 L1 (.lst us)) := same_new nL1
    have eL1 : upd G3 L1 (.lst us) L1 = some (.lst us) := upd_same
    have hL1 := hp.tk (stk z1)
    generalize upd G3 L1 (.lst us) = G4 at z1 eL1 hL1 ⊢
    have D := D.sm z1
    have sf := sf.sm z1
    have tot := tot.trans z1
    have eM1 := z1 _ _ eM1
    have hM1 := hM1.tk (stk z1)
    have eM2 := z1 _ _ eM2
    have hM2 := hM2.tk (stk z1)
    have eM3 := z1 _ _ eM3
    have hM3 := hM3.tk (stk z1)
    have eS := z1 _ _ eS
    clear z1 ht hp nL1
    refine ⟨_, rfl, x, dS, _, rfl, eS, x, a, pl, rfl, sf, dp.ok, hl, fun r2 ms2 J2 y2 nr2 er2 hL2 => ⟨r2, ms2, rfl, .inr (SqT.of er2), fun L2 nL2 => ?_⟩⟩
    have D := D.sm y2
    have sf := sf.sm y2
    have tot := tot.trans y2
    have eM1 := y2 _ _ eM1
    have hM1 := hM1.tk (stk y2)
    have eM2 := y2 _ _ eM2
    have hM2 := hM2.tk (stk y2)
    have eM3 := y2 _ _ eM3
    have hM3 := hM3.tk (stk y2)
    have eS := y2 _ _ eS
    have eL1 := y2 _ _ eL1
    have hL1 := hL1.tk (stk y2)
    have z2 : Same J2 (upd J2 L2 (.lst ms2)) := same_new nL2
    have eL2 : upd J2 L2 (.lst ms2) L2 = some (.lst ms2) := upd_same
    have hL2 := hL2.tk (stk z2)
    generalize upd J2 L2 (.lst ms2) = I2 at z2 eL2 hL2 ⊢
    have D := D.sm z2
    have sf := sf.sm z2
    have tot := tot.trans z2
    have eM1 := z2 _ _ eM1
    have hM1 := hM1.tk (stk z2)
    have eM2 := z2 _ _ eM2
    have hM2 := hM2.tk (stk z2)
    have eM3 := z2 _ _ eM3
    have hM3 := hM3.tk (stk z2)
    have eS := z2 _ _ eS
    have eL1 := z2 _ _ eL1
    have hL1 := hL1.tk (stk z2)
    clear y2 z2 nr2 er2 nL2
    refine ⟨_, rfl, x, dS, _, rfl, eS, x, a, pl, rfl, sf, dp.ok, hl, fun r3 ms3 J3 y3 nr3 er3 hL3 => ⟨r3, ms3, rfl, .inr (SqT.of er3), fun L3 nL3 => ?_⟩⟩
    have D := D.sm y3
    have sf := sf.sm y3
    have tot := tot.trans y3
    have eM1 := y3 _ _ eM1
    have hM1 := hM1.tk (stk y3)
    have eM2 := y3 _ _ eM2
    have hM2 := hM2.tk (stk y3)
    have eM3 := y3 _ _ eM3
    have hM3 := hM3.tk (stk y3)
    have eS := y3 _ _ eS
    have eL1 := y3 _ _ eL1
    have hL1 := hL1.tk (stk y3)
    have eL2 := y3 _ _ eL2
    have hL2 := hL2.tk (stk y3)
    have z3 : Same J3 (upd J3 L3 (.lst ms3)) := same_new nL3
    have eL3 : upd J3 L3 (.lst ms3) L3 = some (.lst ms3) := upd_same
    have hL3 := hL3.tk (stk z3)
    generalize upd J3 L3 (.lst ms3) = I3 at z3 eL3 hL3 ⊢
    have D := D.sm z3
    have sf := sf.sm z3
    have tot := tot.trans z3
    have eM1 := z3 _ _ eM1
    have hM1 := hM1.tk (stk z3)
    have eM2 := z3 _ _ eM2
    have hM2 := hM2.tk (stk z3)
    have eM3 := z3 _ _ eM3
    have hM3 := hM3.tk (stk z3)
    have eS := z3 _ _ eS
    have eL1 := z3 _ _ eL1
    have hL1 := hL1.tk (stk z3)
    have eL2 := z3 _ _ eL2
    have hL2 := hL2.tk (stk z3)
    clear y3 z3 nr3 er3 nL3
    refine ⟨_, rfl, x, dS, _, rfl, eS, x, a, pl, rfl, sf, dp.ok, hl, fun r4 ms4 J4 y4 nr4 er4 hL4 => ⟨r4, ms4, rfl, .inr (SqT.of er4), fun L4 nL4 => ?_⟩⟩
    have D := D.sm y4
    have sf := sf.sm y4
    have tot := tot.trans y4
    have eM1 := y4 _ _ eM1
    have hM1 := hM1.tk (stk y4)
    have eM2 := y4 _ _ eM2
    have hM2 := hM2.tk (stk y4)
    have eM3 := y4 _ _ eM3
    have hM3 := hM3.tk (stk y4)
    have eS := y4 _ _ eS
    have eL1 := y4 _ _ eL1
    have hL1 := hL1.tk (stk y4)
    have eL2 := y4 _ _ eL2
    have hL2 := hL2.tk (stk y4)
    have eL3 := y4 _ _ eL3
    have hL3 := hL3.tk (stk y4)
    have z4 : Same J4 (upd J4 L4 (.lst ms4)) := same_new nL4
    have eL4 : upd J4 L4 (.lst ms4) L4 = some (.lst ms4) := upd_same
    have hL4 := hL4.tk (stk z4)
    generalize upd J4 L4 (.lst ms4) = I4 at z4 eL4 hL4 ⊢
    have D := D.sm z4
    have sf := sf.sm z4
    have tot := tot.trans z4
    have eM1 := z4 _ _ eM1
    have hM1 := hM1.tk (stk z4)
    have eM2 := z4 _ _ eM2
    have hM2 := hM2.tk (stk z4)
    have eM3 := z4 _ _ eM3
    have hM3 := hM3.tk (stk z4)
    have eS := z4 _ _ eS
    have eL1 := z4 _ _ eL1
    have hL1 := hL1.tk (stk z4)
    have eL2 := z4 _ _ eL2
    have hL2 := hL2.tk (stk z4)
    have eL3 := z4 _ _ eL3
    have hL3 := hL3.tk (stk z4)
    clear y4 z4 nr4 er4 nL4
    refine ⟨lenOk 4, fun L5 nL5 => ?_⟩
    have z5 : Same I4 (upd I4 L5 (.lst [.ref L1, .ref L2, .ref L3, .ref L4])) := same_new nL5
    have eL5 : upd I4 L5 (.lst [.ref L1, .ref L2, .ref L3, .ref L4]) L5 = some (.lst [.ref L1, .ref L2, .ref L3, .ref L4]) := upd_same
    generalize upd I4 L5 (.lst [.ref L1, .ref L2, .ref L3, .ref L4]) = I5 at z5 eL5 ⊢
    have D := D.sm z5
    have sf := sf.sm z5
    have tot := tot.trans z5
    have eM1 := z5 _ _ eM1
    have hM1 := hM1.tk (stk z5)
    have eM2 := z5 _ _ eM2
    have hM2 := hM2.tk (stk z5)
    have eM3 := z5 _ _ eM3
    have hM3 := hM3.tk (stk z5)
    have eS := z5 _ _ eS
    have eL1 := z5 _ _ eL1
    have hL1 := hL1.tk (stk z5)
    have eL2 := z5 _ _ eL2
    have hL2 := hL2.tk (stk z5)
    have eL3 := z5 _ _ eL3
    have hL3 := hL3.tk (stk z5)
    have eL4 := z5 _ _ eL4
    have hL4 := hL4.tk (stk z5)
    clear z5 nL5
    refine ⟨_, rfl, d, kvs, (subsP pl).map (·.1), rfl, .inl D.e, rows_keys D.r, .inr hk0, subs_srt pl, hkl, fun l6 bs6 nl6 ik6 => ?_⟩
    have ek6 := keys_paired ik6 D.r
    have s6 : Same I5 (upd I5 l6 (.lst (bs6.map V.ref))) := same_new nl6
    have el6 : upd I5 l6 (.lst (bs6.map V.ref)) l6 = some (.lst (bs6.map V.ref)) := upd_same
    have hS6 := (keys_at (K := K) ek6).tk (stk s6)
    generalize upd I5 l6 (.lst (bs6.map V.ref)) = I6 at s6 el6 hS6 ⊢
    have D := D.sm s6
    have sf := sf.sm s6
    have tot := tot.trans s6
    have eM1 := s6 _ _ eM1
    have hM1 := hM1.tk (stk s6)
    have eM2 := s6 _ _ eM2
    have hM2 := hM2.tk (stk s6)
    have eM3 := s6 _ _ eM3
    have hM3 := hM3.tk (stk s6)
    have eS := s6 _ _ eS
    have eL1 := s6 _ _ eL1
    have hL1 := hL1.tk (stk s6)
    have eL2 := s6 _ _ eL2
    have hL2 := hL2.tk (stk s6)
    have eL3 := s6 _ _ eL3
    have hL3 := hL3.tk (stk s6)
    have eL4 := s6 _ _ eL4
    have hL4 := hL4.tk (stk s6)
    have eL5 := s6 _ _ eL5
    clear s6 ek6 ik6 nl6
    refine ⟨_, rfl, _, rfl, _, rfl, lenOk 4, fun L7 nL7 => ?_⟩
    have z7 : Same I6 (upd I6 L7 (.lst [.ref l6, .ref M1, .ref M2, .ref M3])) := same_new nL7
    have eL7 : upd I6 L7 (.lst [.ref l6, .ref M1, .ref M2, .ref M3]) L7 = some (.lst [.ref l6, .ref M1, .ref M2, .ref M3]) := upd_same
    generalize upd I6 L7 (.lst [.ref l6, .ref M1, .ref M2, .ref M3]) = I7 at z7 eL7 ⊢
    have D := D.sm z7
    have sf := sf.sm z7
    have tot := tot.trans z7
    have eM1 := z7 _ _ eM1
    have hM1 := hM1.tk (stk z7)
    have eM2 := z7 _ _ eM2
    have hM2 := hM2.tk (stk z7)
    have eM3 := z7 _ _ eM3
    have hM3 := hM3.tk (stk z7)
    have eS := z7 _ _ eS
    have eL1 := z7 _ _ eL1
    have hL1 := hL1.tk (stk z7)
    have eL2 := z7 _ _ eL2
    have hL2 := hL2.tk (stk z7)
    have eL3 := z7 _ _ eL3
    have hL3 := hL3.tk (stk z7)
    have eL4 := z7 _ _ eL4
    have hL4 := hL4.tk (stk z7)
    have eL5 := z7 _ _ eL5
    have el6 := z7 _ _ el6
    have hS6 := hS6.tk (stk z7)
    clear z7 nL7
    have fs := four_shaped ((subsP pl).map (·.1)) (inK ["mine"] pl) (inK ["yours"] pl) (inK plain4 pl)
    refine ⟨.list [pathsD ((subsP pl).map (·.1)), pathsD (inK ["mine"] pl), pathsD (inK ["yours"] pl), pathsD (inK plain4 pl)], .list [pathsD ((subsP pl).map (·.1)), pathsD (inK ["mine"] pl), pathsD (inK ["yours"] pl), pathsD (inK plain4 pl)],
      .lst (SqL.of eL5) (.cons (.lst (SqL.of eL1) (dp_paths hL1)) (.cons (.lst (SqL.of eL2) (dp_paths hL2)) (.cons (.lst (SqL.of eL3) (dp_paths hL3)) (.cons (.lst (SqL.of eL4) (dp_paths hL4)) .nil)))),
      .lst (SqL.of eL7) (.cons (.lst (SqL.of el6) (dp_paths hS6)) (.cons (.lst (SqL.of eM1) (dp_paths hM1)) (.cons (.lst (SqL.of eM2) (dp_paths hM2)) (.cons (.lst (SqL.of eM3) (dp_paths hM3)) .nil)))), fs, fs, ?_⟩
    rw [eqv_self fs]
    refine ⟨_, rfl, iteF ?_⟩
    clear fs eL1 eL2 eL3 eL4 eL5 eL7 el6 hL1 hL2 hL3 hL4 hS6
    obtain ⟨dS, t9, us9, eS, hS9, hP9, pr9⟩ := id sf
    refine ⟨_, rfl, x, dS, _, rfl, eS, fun n' => ⟨x, dS, t9, us9, _, rfl, eS, hS9, fun it nit hle => ⟨it, t9, rfl, hle, upd_same, ?_⟩⟩⟩
    rw [drop_new nit rfl]
    refine fun N1 nN1 => ?_
    have nN1' : I7 N1 = none := nN1
    refine lcT (K := K) (a := t9) (xs := us9) (fun j acc H2 => Same I7 H2 ∧ acc = us9.take j) ⟨same_new nN1, rfl⟩ (fun j acc H2 h => (stk h.1).seq hS9) ?_ ?_
    · rintro j y acc H2 hy hl2 e ⟨s2, rfl⟩
      have hj := (List.getElem?_eq_some_iff.mp hy).1
      have hu9 := hP9.length
      rw [List.length_map] at hu9
      refine yesT ⟨_, rfl, LcK.mk hl2 (by omega) e ⟨same_put s2 nN1', ?_⟩⟩
      rw [take_succ' hy]
    rintro acc J8 hl2 eN1 ⟨s8, rfl⟩
    rw [List.take_length] at eN1
    have hN1 := hP9.tk (stk s8)
    clear hS9 hP9 pr9 nN1 nN1' hl2 nit hle
    have D := D.sm s8
    have sf := sf.sm s8
    have tot := tot.trans s8
    have eM1 := s8 _ _ eM1
    have hM1 := hM1.tk (stk s8)
    have eM2 := s8 _ _ eM2
    have hM2 := hM2.tk (stk s8)
    have eM3 := s8 _ _ eM3
    have hM3 := hM3.tk (stk s8)
    have eS := s8 _ _ eS
    clear s8
    refine ⟨_, rfl, d, kvs, (subsP pl).map (·.1), rfl, .inl D.e, rows_keys D.r, .inr hk0, subs_srt pl, hkl, fun l9 bs9 nl9 ik9 => ?_⟩
    have ek9 := keys_paired ik9 D.r
    have s9 : Same J8 (upd J8 l9 (.lst (bs9.map V.ref))) := same_new nl9
    have el9 : upd J8 l9 (.lst (bs9.map V.ref)) l9 = some (.lst (bs9.map V.ref)) := upd_same
    have hS9 := (keys_at (K := K) ek9).tk (stk s9)
    generalize upd J8 l9 (.lst (bs9.map V.ref)) = I9 at s9 el9 hS9 ⊢
    have D := D.sm s9
    have sf := sf.sm s9
    have tot := tot.trans s9
    have eM1 := s9 _ _ eM1
    have hM1 := hM1.tk (stk s9)
    have eM2 := s9 _ _ eM2
    have hM2 := hM2.tk (stk s9)
    have eM3 := s9 _ _ eM3
    have hM3 := hM3.tk (stk s9)
    have eS := s9 _ _ eS
    have eN1 := s9 _ _ eN1
    have hN1 := hN1.tk (stk s9)
    clear s9 ek9 ik9 nl9
    have fs := pathsD_shaped ((subsP pl).map (·.1))
    refine ⟨pathsD ((subsP pl).map (·.1)), pathsD ((subsP pl).map (·.1)), .lst (SqL.of eN1) (dp_paths hN1), .lst (SqL.of el9) (dp_paths hS9), fs, fs, ?_⟩
    rw [eqv_self fs]
    refine ⟨_, rfl, iteF ?_⟩
    clear fs eN1 hN1 el9 hS9
    refine ⟨_, rfl, x, dS, _, rfl, eS, x, a, pl, rfl, sf, _, rfl, by omega, by omega, ?_⟩
    refine ⟨_, rfl, d, kvs, rfl, D.e, rfl, _, rfl, ?_⟩
    refine iteF' (by rw [hkv, decide_eq_true rfl]; rfl) ?_
    obtain ⟨dy, p9, xs9, eb, _, _, _⟩ := id D.pr
    refine ⟨_, rfl, x, dS, _, rfl, eS, x, a, pl, rfl, sf, _, rfl, ?_⟩
    refine ⟨a, a, dy, dy, _, _, rfl, rfl, eb, eb, .inl ⟨a, a, _, _, rfl, D.pr, D.pr, _, rfl, ?_⟩⟩
    refine ⟨_, rfl, iteF' (by rw [decide_eq_true rfl]; rfl) ?_⟩
    clear eb
    refine ⟨d, .dT kvs, D.e, trivial, fun od => ?_⟩
    have eL : upd I9 d (.frz od (.dT kvs)) d = some (.frz od (.dT kvs)) := upd_same
    refine ⟨_, rfl, d, od, rfl, .inr ⟨kvs, eL, fun N2 nN2 => ?_⟩⟩
    have nN2' : upd I9 d (.frz od (.dT kvs)) N2 = none := nN2
    have sfL := sf.lock D.e od
    have rL := rows_tk (lock_tk D.e od) D.r
    refine lcKyT (fun j acc H2 => Same (upd I9 d (.frz od (.dT kvs))) H2 ∧ acc = []) ⟨same_new nN2', rfl⟩ (fun j acc H2 h => h.1 _ _ eL) ?_ ?_
    · rintro j key val b acc H2 hk hqa hl2 e ⟨s2, rfl⟩
      obtain ⟨y, hy, ek, hA⟩ := paired_at rL hk
      have ek : key = keyP y.1 := ek
      rw [ek] at hqa
      have sf2 := sfL.sm s2
      have r2 := rows_tk (stk s2) rL
      have hm : (y.1, y.2) ∈ subsP pl := List.mem_of_getElem? hy
      have dq := dp.inner (subs_inner hm) hA
      obtain ⟨o, rest, w1, w2, w3⟩ := walk_place dp.ok hl hm
      have hst : startV open2 pl (some (y.1.map natV)) = .int (o : Int) := startV_some w1
      have hPV : PathV K H2 (.ref b) (some (y.1.map natV)) := path_nats (SqT.of (by rw [← keyP_vals]; exact hqa))
      obtain ⟨d2, t2, us2, eS2, _⟩ := id sf2
      refine ⟨_, rfl, _, rfl, x, d2, _, rfl, eS2, x, a, pl, .ref b, _, rfl, sf2, dp.ok, hl, hPV, _, rfl, ?_⟩
      refine ⟨_, rfl, iteF' (by rw [show isPl pl (some (y.1.map natV)) = true from by unfold isPl; rw [hst]; rfl]; rfl) ?_⟩
      refine ⟨_, rfl, _, rfl, x, d2, _, rfl, eS2, x, a, pl, .ref b, _, rfl, sf2, dp.ok, hl, hPV, ?_, fun z => by rw [hst] at z; cases z⟩
      intro zs o' q' ez ew
      cases ez
      rw [w1] at ew
      cases ew
      refine ⟨dq.okB, fun x3 H3 s3 n3 pr3 => ?_⟩
      have eL3 := s3 _ _ (s2 _ _ eL)
      obtain ⟨v, hg, hA3⟩ := rows_get (.inr ⟨od, eL3⟩) (rows_tk (stk s3) r2) hy (s3 _ _ hqa)
      have hdl := dq.l
      refine ⟨_, rfl, _, rfl, d, v, rfl, hg, v, y.2, rfl, hA3, dq.good, by omega, by decide, fun _ x4 H4 s4 n4 pr4 => ?_, fun no => by rw [dq.okB] at no; cases no⟩
      have pr34 := pr3.sm s4
      obtain ⟨dx3, _, _, e3, _⟩ := id pr34
      obtain ⟨dx4, _, _, e4, _⟩ := id pr4
      refine ⟨x3, x4, dx3, dx4, _, _, rfl, rfl, e3, e4, .inl ⟨x3, x4, _, _, rfl, pr34, pr4, _, rfl, ?_⟩⟩
      refine ⟨_, rfl, iteF' (by rw [decide_eq_true rfl]; rfl) ?_⟩
      exact ⟨[], Nat.zero_le _, s4 _ _ (s3 _ _ e), s2.trans (s3.trans s4), rfl⟩
    rintro acc J9 hl2 eN2 ⟨s9, rfl⟩
    refine ⟨s9 _ _ eL, ?_⟩
    have u9 : Same I9 (upd J9 d (.dT kvs)) := same_unl s9 D.e
    have hNd : N2 ≠ d := fun z => by rw [z, eL] at nN2'; cases nN2'
    have eN2 : upd J9 d (.dT kvs) N2 = some (.lst []) := by rw [upd_ne hNd]; exact eN2
    generalize upd J9 d (.dT kvs) = I10 at u9 eN2 ⊢
    have D := D.sm u9
    have sf := sf.sm u9
    have tot := tot.trans u9
    have eM1 := u9 _ _ eM1
    have hM1 := hM1.tk (stk u9)
    have eM2 := u9 _ _ eM2
    have hM2 := hM2.tk (stk u9)
    have eM3 := u9 _ _ eM3
    have hM3 := hM3.tk (stk u9)
    have eS := u9 _ _ eS
    clear u9 s9 eL nN2 nN2' sfL rL hl2 hNd od
    refine ⟨Nat.zero_le _, fun N3 nN3 => ?_⟩
    have z10 : Same I10 (upd I10 N3 (.lst [])) := same_new nN3
    have eN3 : upd I10 N3 (.lst []) N3 = some (.lst []) := upd_same
    generalize upd I10 N3 (.lst []) = I11 at z10 eN3 ⊢
    have D := D.sm z10
    have sf := sf.sm z10
    have tot := tot.trans z10
    have eM1 := z10 _ _ eM1
    have hM1 := hM1.tk (stk z10)
    have eM2 := z10 _ _ eM2
    have hM2 := hM2.tk (stk z10)
    have eM3 := z10 _ _ eM3
    have hM3 := hM3.tk (stk z10)
    have eS := z10 _ _ eS
    have eN2 := z10 _ _ eN2
    refine ⟨.list [], .list [], .lst (SqL.of eN2) .nil, .lst (SqL.of eN3) .nil, by decide +kernel, by decide +kernel, ?_⟩
    refine ⟨_, rfl, iteF' (by decide +kernel) ?_⟩
    clear eN2 eN3 z10 nN3
    have i1 := inK_len ["mine"] pl
    have i2 := inK_len ["yours"] pl
    have lm1 := hM1.length
    have lm2 := hM2.length
    have n0 := numT_len (n := kvs.length) (by omega)
    have n1 := numT_len (n := am1.length) (by omega)
    have n2 := numT_len (n := am2.length) (by omega)
    have c0 := sP_len
    have c1 := sM_len
    have c2 := sY_len
    refine ⟨_, rfl, d, kvs, rfl, D.e, _, rfl, num_log (by omega), numT kvs.length, sP, rfl, rfl, by rw [sizeLine_eq]; omega, ?_⟩
    refine ⟨_, rfl, .inl ⟨M1, am1, rfl, .inl (SqL.of eM1), _, rfl, num_log (by omega), _, numT am1.length, rfl, rfl, by rw [sapp, sizeLine_eq]; omega, _, sM, rfl, rfl, by rw [sapp, sapp, sizeLine_eq]; omega, ?_⟩⟩
    refine ⟨_, rfl, .inl ⟨M2, am2, rfl, .inl (SqL.of eM2), _, rfl, num_log (by omega), _, numT am2.length, rfl, rfl, by rw [sapp, sapp, sapp, sizeLine_eq]; omega, _, sY, rfl, rfl, by rw [sapp, sapp, sapp, sapp, sizeLine_eq]; omega, ?_⟩⟩
    refine ⟨_, rfl, x, dS, _, rfl, eS, x, a, pl, rfl, sf, dp.ok, hl, fun I12 z12 => ⟨_, rfl, ?_⟩⟩
    have D := D.sm z12
    have sf := sf.sm z12
    have tot := tot.trans z12
    have eM1 := z12 _ _ eM1
    have hM1 := hM1.tk (stk z12)
    have eM2 := z12 _ _ eM2
    have hM2 := hM2.tk (stk z12)
    have eS := z12 _ _ eS
    refine ⟨_, rfl, rfl, _, rfl, ?_⟩
    refine iteT' (decide_eq_true (by rw [hkv, lm1, lm2]; rfl)) ?_
    refine ⟨_, rfl, x, dS, _, rfl, eS, rfl, x, a, pl, rfl, sf, dp.ok, hl, fun I13 z13 => ?_⟩
    have D := D.sm z13
    have sf := sf.sm z13
    have tot := tot.trans z13
    have eM1 := z13 _ _ eM1
    have hM1 := hM1.tk (stk z13)
    have eM2 := z13 _ _ eM2
    have hM2 := hM2.tk (stk z13)
    have eS := z13 _ _ eS
    refine ⟨_, rfl, _, rfl, M1, M2, am1, am2, rfl, rfl, eM1, eM2, Nat.le_of_lt (small (by omega)), fun l14 nl14 => ⟨Nat.zero_le _, fun l15 nl15 => ?_⟩⟩
    have z14 : Same I13 (upd I13 l14 (.lst (am1 ++ am2))) := same_new nl14
    have z15 : Same (upd I13 l14 (.lst (am1 ++ am2))) (upd (upd I13 l14 (.lst (am1 ++ am2))) l15 (.lst [])) := same_new nl15
    refine ⟨l14, l15, am1 ++ am2, rfl, rfl, SqL.of (z15 _ _ upd_same), SqL.of upd_same, rfl, _, rfl, ?_⟩
    have z16 := z14.trans z15
    generalize upd (upd I13 l14 (.lst (am1 ++ am2))) l15 (.lst []) = I16 at z16 ⊢
    have D := D.sm z16
    have sf := sf.sm z16
    have tot := tot.trans z16
    have eM1 := z16 _ _ eM1
    have hM1 := hM1.tk (stk z16)
    have eM2 := z16 _ _ eM2
    have hM2 := hM2.tk (stk z16)
    have eS := z16 _ _ eS
    refine iteT' (decide_eq_true (by rw [List.length_append, lm1, lm2]; exact congrArg V.bl (decide_eq_decide.mpr (iff_of_eq (inK_two pl))))) ?_
    refine ⟨_, rfl, _, rfl, fun x2 dx2 nx2 nd2 ne2 => makeSf nx2 nd2 D.pr dp.ok hl fun I17 z17 sf2 => ⟨rfl, ?_⟩⟩
    have D := D.sm z17
    have sf := sf.sm z17
    have tot := tot.trans z17
    have eM1 := z17 _ _ eM1
    have hM1 := hM1.tk (stk z17)
    have eM2 := z17 _ _ eM2
    have hM2 := hM2.tk (stk z17)
    have eS := z17 _ _ eS
    obtain ⟨dS2, t2, us2, eS2, _, _, _⟩ := id sf2
    refine ⟨x, x2, dS, dS2, _, _, rfl, rfl, eS, eS2, .inl ⟨x, a, x2, a, pl, pl, rfl, sf, sf2, _, rfl, ?_⟩⟩
    refine ⟨_, rfl, iteT' (decide_eq_true rfl) ?_⟩
    obtain ⟨dy7, p7, xs7, eb7, _, _, _⟩ := id D.pr
    refine ⟨_, rfl, _, rfl, x, a, dS, dy7, _, _, rfl, rfl, eS, eb7, .inr ⟨x, a, a, pl, rfl, sf, ⟨dy7, _, eb7⟩, false, rfl, ?_⟩⟩
    exact q I17 tot
end
end Eh
set_option Elab.async false
set_option linter.all false
set_option maxRecDepth 100000
set_option maxHeartbeats 8000000
namespace Eh
open PySem PySem.Spec PyProof.Rows L2
open LamX (TabB Tabs TabS ExtN GivesTo tLam pe_lamcall lamS_by lamCx lamEnv CodeO LamS)
theorem for_keysT {d : Addr} {o : Obj} {kvs : List (List Key × V)} {g : TG} {tb : TS} {D : Ends} {σ : L2.St} {H : Hp} (Pv : Nat → L2.St → Hp → Prop) (h0 : Pv 0 σ H) (hl : ∀ i σ H, Pv i σ H → H d = some (.frz o (.dT kvs)))
    (hs : ∀ i k v q σ H, kvs[i]? = some (k, v) → H q = some (.tup (k.map kV)) → Pv i σ H → g (.ref q) σ H fun σ2 H2 => tb { D with nx := Pv (i + 1), ct := Pv (i + 1), bk := D.nx } σ2 H2) (hd : ∀ σ H, Pv kvs.length σ H → D.nx σ H) :
    ∃ W : Nat → Nat → L2.St → Hp → Prop, (∃ m, W 0 m σ H) ∧ ∀ i m σ H, W i m σ H →
      ((Itkt d o kvs).stop i H ∧ D.nx σ H) ∨ ((Itkt d o kvs).go i H ∧ ∃ N : L2.St → Hp → Prop, (∀ σ' H', N σ' H' → ∃ m', m' < m ∧ W (i + 1) m' σ' H') ∧ ∀ x H', (Itkt d o kvs).yld i H x H' → g x σ H' fun σ2 H2 => tb { D with nx := N, ct := N, bk := D.nx } σ2 H2) := by
  refine ⟨fun i m σ H => m = kvs.length - i ∧ i ≤ kvs.length ∧ Pv i σ H, ⟨kvs.length, by simp, Nat.zero_le _, h0⟩, ?_⟩
  rintro i m σ H ⟨rfl, hi, p⟩
  by_cases hlt : i < kvs.length
  · refine .inr ⟨⟨hl _ _ _ p, hlt⟩, Pv (i + 1), fun σ' H' p' => ⟨kvs.length - (i + 1), by omega, rfl, hlt, p'⟩, fun x H' y => ?_⟩
    obtain ⟨rfl, k, v, q, hk, rfl, hq⟩ := y
    exact hs i k v q σ _ hk hq p
  · have e : i = kvs.length := by omega
    subst e
    exact .inl ⟨⟨hl _ _ _ p, Nat.le_refl _⟩, hd σ H p⟩
/-- ints as a key -/
def keyI (zs : List Int) : List Key := zs.map fun (z : Int) => (.inl z : Key)
theorem keyI_vals (zs : List Int) : (keyI zs).map kV = zs.map V.int := by
  unfold keyI
  rw [List.map_map]
  rfl
theorem keyI_nats (ns : List Nat) : keyI (ns.map fun (n : Nat) => (n : Int)) = keyP ns := by
  unfold keyI keyP
  rw [List.map_map]
  rfl
theorem keyI_inj : ∀ {a b : List Int}, keyI a = keyI b → a = b
  | [], [], _ => rfl
  | [], _ :: _, h => by cases h
  | _ :: _, [], h => by cases h
  | x :: a, y :: b, h => by
    injection h with h1 h2
    rw [keyI_inj h2, Sum.inl.inj h1]
theorem ints_nats {zs : List Int} {pa : List Nat} (h : zs.map V.int = pa.map natV) : zs = pa.map fun (n : Nat) => (n : Int) := by
  have : ∀ {zs : List Int} {pa : List Nat}, zs.map V.int = pa.map natV → zs = pa.map fun (n : Nat) => (n : Int) := by
    intro zs
    induction zs with
    | nil =>
      intro pa h
      cases pa with
      | nil => rfl
      | cons p pa => cases h
    | cons z zs ih =>
      intro pa h
      cases pa with
      | nil => cases h
      | cons p pa =>
        rw [List.map_cons, List.map_cons] at h
        injection h with h1 h2
        have h1 : V.int z = V.int (p : Int) := h1
        injection h1 with h1
        rw [List.map_cons, ih h2, h1]
  exact this h
theorem valV_some : ∀ {kvs : List (List Key × V)} {k : List Key}, (valV kvs k).isSome = true ↔ k ∈ kvs.map (·.1)
  | [], k => by
    constructor
    · intro h
      cases h
    · intro h
      cases h
  | (k', v) :: kvs, k => by
    by_cases e : k' = k
    · subst e
      rw [valV_pos rfl]
      exact ⟨fun _ => List.mem_cons_self, fun _ => rfl⟩
    · rw [valV_neg e, valV_some, List.map_cons, List.mem_cons]
      exact ⟨fun h => .inr h, fun h => h.resolve_left fun z => e z.symm⟩
/-- in the surface, in the rows: the same -/
theorem near_rows {K : PySem.W.Frag} {H : Hp} {pl : Pl} {kvs : List (List Key × V)} (r : RowsAt K H kvs (subsP pl)) (hok : plOk pl = true) (hl : (nodesOf pl).length < 1000) (zs : List Int) : isPl pl (some (zs.map V.int)) = (valV kvs (keyI zs)).isSome := by
  rw [Bool.eq_iff_iff, valV_some, rows_keys r]
  unfold isPl
  rcases startV_cases open2 pl (some (zs.map V.int)) with h | ⟨zs', o, t, e, ew, h⟩
  · rw [h, decide_eq_true rfl]
    refine ⟨fun z => (by cases z), fun z => ?_⟩
    obtain ⟨pa, hp, ep⟩ := List.mem_map.mp z
    obtain ⟨⟨pa', q⟩, hm, rfl⟩ := List.mem_map.mp hp
    obtain ⟨o, rest, w1, _, _⟩ := walk_place hok hl hm
    rw [← keyI_nats] at ep
    have e2 := keyI_inj ep
    rw [← e2] at h
    have h1 : startV open2 pl (some ((pa'.map fun (n : Nat) => (n : Int)).map V.int)) = .int (o : Int) := by
      refine startV_some (q := q) ?_
      rw [List.map_map]
      exact w1
    rw [h1] at h
    cases h
  · cases e
    rw [h, decide_eq_false (fun z => by cases z)]
    refine ⟨fun _ => ?_, fun _ => rfl⟩
    obtain ⟨pa, e1, hm⟩ := place_walk ew
    have e2 := ints_nats e1
    exact List.mem_map.mpr ⟨pa, List.mem_map.mpr ⟨(pa, t), hm, rfl⟩, by rw [e2, keyI_nats]⟩
theorem RowD.ext {K : PySem.W.Frag} {C a d : Addr} {H H' : Hp} {pl : Pl} {kvs : List (List Key × V)} (h : RowD K C H a d pl kvs) (e : ExtN H H') : RowD K C H' a d pl kvs := ⟨h.pr.ext e, e _ _ h.e (fun ps z => by cases z), rows_tk (ntk e) h.r⟩
theorem RowD.gr {K : PySem.W.Frag} {C a d c : Addr} {H H' : Hp} {pl : Pl} {kvs : List (List Key × V)} (h : RowD K C H a d pl kvs) (D : D3 H c) (g : Gr c H H') : RowD K C H' a d pl kvs := by
  obtain ⟨us, kb⟩ := kb_gr D g
  exact ⟨h.pr.kb kb, kb.kp _ _ (fun z => by
    have h1 := h.e
    rw [z, kb.at_] at h1
    cases h1) h.e, rows_tk kb.tk h.r⟩
theorem plain_gr {c b : Addr} {H H' : Hp} {xs : List V} (e : H b = some (.tup xs)) (D : D3 H c) (g : Gr c H H') : H' b = some (.tup xs) := by
  obtain ⟨us, kb⟩ := kb_gr D g
  exact kb.kp _ _ (fun z => by rw [z, kb.at_] at e; cases e) e
end Eh
set_option Elab.async false
set_option linter.all false
set_option maxRecDepth 100000
set_option maxHeartbeats 16000000
namespace Eh
open PySem PySem.Spec PyProof.Rows L2
open LamX (TabB Tabs TabS ExtN GivesTo tLam pe_lamcall lamS_by lamCx lamEnv CodeO LamS)
section
variable {P : Program} {w : World} {K : PySem.W.Frag} {mg : Str → Option Value} {base : Heap}
/-- what stands while the law looks at a promise -/
structure S10 (K : PySem.W.Frag) (C : Addr) (Ts : List (Addr × Str)) (d : Addr) (H0 H : Hp) (a dd : Addr) (v u : V) (pl ql : Pl) (kvs : List (List Key × V)) : Prop where
  g : GrN Ts d H0 H
  r : RowD K C H a dd pl kvs
  v : At K H v pl
  u : At K H u ql
theorem S10.sm {C d a dd : Addr} {Ts : List (Addr × Str)} {H0 H H' : Hp} {v u : V} {pl ql : Pl} {kvs : List (List Key × V)} (h : S10 K C Ts d H0 H a dd v u pl ql kvs) (s : Same H H') : S10 K C Ts d H0 H' a dd v u pl ql kvs := ⟨h.g.same s, h.r.sm s, h.v.tk (stk s), h.u.tk (stk s)⟩
theorem S10.ext {C d a dd : Addr} {Ts : List (Addr × Str)} {H0 H H' : Hp} {v u : V} {pl ql : Pl} {kvs : List (List Key × V)} (h : S10 K C Ts d H0 H a dd v u pl ql kvs) (x : ExtN H H') (t : Tabs Ts H') : S10 K C Ts d H0 H' a dd v u pl ql kvs := ⟨h.g.ext x t, h.r.ext x, h.v.tk (ntk x), h.u.tk (ntk x)⟩
theorem S10.gr {C d a dd : Addr} {Ts : List (Addr × Str)} {H0 H H' : Hp} {v u : V} {pl ql : Pl} {kvs : List (List Key × V)} (h : S10 K C Ts d H0 H a dd v u pl ql kvs) (r : Gr d H H') : S10 K C Ts d H0 H' a dd v u pl ql kvs := ⟨h.g.gr r, h.r.gr h.g.dice r, h.v.tk (r.tk h.g.dice), h.u.tk (r.tk h.g.dice)⟩
theorem got_tail {tl : XK → Hp → VK → Prop} {H : Hp} {Q : VK} {CI CE : Addr} (Cc : V → Hp → Prop) (h : ∀ Q' : VK, (∀ v H', Cc v H' → Q' v H') → tl (got2 CI CE Q') H Q') (tail : ∀ v H', Cc v H' → Q v H') : TGot2 CI CE tl H Q := h Q tail
theorem rows_at {H : Hp} {kvs : List (List Key × V)} {ys : List (List Nat × Pl)} {y : List Nat × Pl} (r : RowsAt K H kvs ys) (hm : y ∈ ys) : ∃ v, At K H v y.2 := by
  obtain ⟨j, hj⟩ := List.mem_iff_getElem?.mp hm
  have hl := Paired.length r
  have hj2 := (List.getElem?_eq_some_iff.mp hj).1
  obtain ⟨y', hy', _, e2⟩ := paired_at r (List.getElem?_eq_getElem (show j < kvs.length by omega))
  rw [hj] at hy'
  cases hy'
  exact ⟨_, e2⟩
/-- what _law_got(lambda: part_at(..)) gives -/
def GtP (K : PySem.W.Frag) (C : Addr) (b : Bool) (v : V) (H : Hp) : Prop := (b = true ∧ ∃ x ns, v = .ref x ∧ PrG K C H x ns) ∨ (b = false ∧ v = .str "place")
theorem eqTx_val {C : Addr} {b : Bool} {v : V} {H : Hp} {Q : VK} (h : GtP K C b v H) (q : Q (.bl (!b)) H) : rEqTx C (spEqA K C) E0 v (.str "place") H Q := by
  rcases h with ⟨rfl, x, ns, rfl, pr⟩ | ⟨rfl, rfl⟩
  · obtain ⟨dx, p, xs, e, _⟩ := id pr
    exact ⟨"place", rfl, .inl ⟨x, dx, _, rfl, e, .inr ⟨x, .str "place", "str", rfl, .str _, false, rfl, q⟩⟩⟩
  · exact ⟨"place", rfl, .inr ⟨"place", rfl, by rw [decide_eq_true rfl]; exact q⟩⟩
theorem path_ints {H : Hp} {b : Addr} {zs : List Int} (h : SqT K H b (zs.map V.int)) : PathV K H (.ref b) (some (zs.map V.int)) :=
  .tup h fun z m => by
    obtain ⟨n, _, rfl⟩ := List.mem_map.mp m
    exact .inl ⟨_, rfl⟩
def spRightA (T : List (Addr × Str)) : Sp := fun vs H Q _ => ∃ d, vs = [.ref d] ∧ D3 H d ∧ Tabs T H ∧ ∀ H', GrN T d H H' → Q (.bl true) H'
theorem ok_right10 {C CS CI CE c1 P1 fI fL fS fM fSf fPA fRe fg gH gQ gE f fP fPk fPl fSR fEx fW : Addr} {Ts : List (Addr × Str)} {fdS fdM fdSf fdPA fdRe fdg fdH fdQ fdE fd fdP fdPk fdPl fdSR fdEx fdW : FuncData} (F : FunL K "_law_right" "_law_right" s__law_right f fd c1) (T : Txt mg) (PC : PromC K mg C fI fL) (SC : SurC K mg CS fS)
    (GS : FnOk P w K mg base (L2.CX P w) 5 fS fdS ["self", "promise"] (spSInit K C CS)) (bS : Binds K fdS ["self", "promise"] [])
    (DH : DunC P w K mg base CS "__contains__" 5 ["self", "value"] (spSHas K C CS) gH fdH) (DQ : DunC P w K mg base CS "__eq__" 3 ["self", "value"] (spSEq K C CS) gQ fdQ)
    (DE : DunC P w K mg base C "__eq__" 1 ["self", "value"] (spEqA K C) gE fdE) (IC : IsC K C) (hNe : PySem.W.findIn K (.ref C) "__ne__" = some (some (.builtin "object.__ne__"))) (hnf : PySem.W.notFirst K C (.type "str") = true)
    (GM : FnOk P w K mg base (L2.CX P w) 138 fM fdM ["plain"] (spMadeE K C CE 132)) (mM : mg "_law_made" = some (.ref fM)) (kM : PySem.W.keepIn K (.ref fM) = true) (bM : Binds K fdM ["plain"] [])
    (GSf : FnOk P w K mg base (L2.CX P w) 4 fSf fdSf ["promise"] (spSurface K C CE)) (mSf : mg "surface" = some (.ref fSf)) (kSf : PySem.W.keepIn K (.ref fSf) = true) (bSf : Binds K fdSf ["promise"] [])
    (GA : FnOk P w K mg base (L2.CX P w) 6 fPA fdPA ["promise", "place"] (spPartAt K C CI)) (mA : mg "part_at" = some (.ref fPA)) (kA : PySem.W.keepIn K (.ref fPA) = true) (bA : Binds K fdPA ["promise", "place"] [])
    (GR : FnOk P w K mg base (L2.CX P w) 6 fRe fdRe ["promise", "place", "other"] (spReplaced K C CE CI)) (mR : mg "replaced" = some (.ref fRe)) (kR : PySem.W.keepIn K (.ref fRe) = true) (bR : Binds K fdRe ["promise", "place", "other"] [])
    (FG : Fun K "_law_got" "_law_got" s__law_got fg fdg) (mG : mg "_law_got" = some (.ref fg)) (kG : PySem.W.keepIn K (.ref fg) = true) (bG : Binds K fdg ["call"] [])
    (E2 : Exm2 K CI CE) (gI : mg "InvalidPlace" = some (.ref CI)) (gE' : mg "InvalidPromise" = some (.ref CE))
    (TB : TabB base mg c1 P1) (hmT : (P1, ("_law_right.<locals>.<lambda>" : Str)) ∈ Ts) (huT : ∀ p ∈ Ts, p.1 = P1 → p.2 = ("_law_right.<locals>.<lambda>" : Str))
    (C__law_promise : Cal P w K mg base 26 "_law_promise" fP fdP ["dice"] (spPromise K)) (C__law_pick : Cal P w K mg base 2 "_law_pick" fPk fdPk ["dice", "items"] (spPick K)) (C__law_places : Cal P w K mg base 12 "_law_places" fPl fdPl ["plain"] (spLawPlaces K 11))
    (C__law_surface_right : Cal P w K mg base 140 "_law_surface_right" fSR fdSR ["made", "rows"] (spSurR K C)) (C__law_exchanged : Cal P w K mg base 12 "_law_exchanged" fEx fdEx ["plain", "place", "other"] (spLawEx K 11)) (C__law_is_within : Cal P w K mg base 135 "_law_is_within" fW fdW ["plain"] (spWithin K 132)) :
    FnOk P w K mg base CX0 151 f fd ["dice"] (spRightA Ts) := by
  refine F.ok sc__law_right (fun vs H Q E h => ?_) (fun A outer s H vs Q E hr h => ?_)
  · obtain ⟨d, rfl, _⟩ := h
    rfl
  · obtain ⟨d, rfl, D, hT, q⟩ := h
    have hr140 := hr.mono (j := 140 + 2) (by omega)
    have hr14 := hr.mono (j := 140) (by omega)
    have hr138 := hr.mono (j := 138) (by omega)
    have hrW := hr.mono (j := 135) (by omega)
    have hr26 := hr.mono (j := 26) (by omega)
    have hr12 := hr.mono (j := 12) (by omega)
    have hr8 := hr.mono (j := 6 + 2) (by omega)
    have hr6 := hr.mono (j := 6) (by omega)
    have hr5 := hr.mono (j := 5) (by omega)
    have hr4 := hr.mono (j := 4) (by omega)
    have hr3 := hr.mono (j := 3) (by omega)
    have hr2 := hr.mono (j := 2) (by omega)
    have hr1 := hr.mono (j := 1) (by omega)
    refine ⟨_, (pss_cons (ps_asg (pe_tup (pa_cons (pe_call C__law_promise.G hr26 (by rfl) C__law_promise.m C__law_promise.k C__law_promise.b .nil pass0 (pa_cons (pv 0) pa_nil)) (pa_cons (pe_call C__law_promise.G hr26 (by rfl) C__law_promise.m C__law_promise.k C__law_promise.b .nil pass0 (pa_cons (pv 0) pa_nil)) pa_nil))) (pg_tup (by rfl) (pgs_cons (pg_name (i := 1) sc__law_right.nd rfl (.inl rfl)) (pgs_cons (pg_name (i := 7) sc__law_right.nd rfl (.inr rfl)) pgs_nil))))
  (pss_cons (ps_asg (pe_tup (pa_cons (pe_call (E := E0) GM hr138 (by rfl) mM kM bM .nil passL (pa_cons (pv 1) pa_nil)) (pa_cons (pe_call C__law_places.G hr12 (by rfl) C__law_places.m C__law_places.k C__law_places.b .nil pass0 (pa_cons (pv 1) pa_nil)) pa_nil))) (pg_tup (by rfl) (pgs_cons (pg_name (i := 5) sc__law_right.nd rfl (.inr rfl)) (pgs_cons (pg_name (i := 2) sc__law_right.nd rfl (.inl rfl)) pgs_nil))))
  (pss_cons (ps_if (PW.pt (pw_or (pt_cmpR (neD (K := K) rfl (hu64e hr)) (pe_callTy (lstOf (K := K) rfl) (by rfl) T.list_ (by decide +kernel) (pa_cons (pe_call (E := E0) GSf hr4 (by rfl) mSf kSf bSf .nil passL (pa_cons (pv 5) pa_nil)) pa_nil)) (pe_callB (sortD (by rfl) (hu64e hr)) (by rfl) T.sorted_ (by decide +kernel) (pa_cons (pv 2) pa_nil)) (nomark _)) (pw_or1 (pt_not (pt_val (pe_call C__law_surface_right.G hr14 (by rfl) C__law_surface_right.m C__law_surface_right.k C__law_surface_right.b .nil pass0 (pa_cons (pv 5) (pa_cons (pv 2) pa_nil))))))))
    (pss_one (ps_ret pe_bl)) pss_nil)
  (pss_cons (ps_lock (ps_for PassesOwn.never (by rfl) (pi_keys (pv 2)) (pg_name (i := 8) sc__law_right.nd rfl (.inr rfl))
    (pss_one (ps_if (pt_cmpR (neOwn DE.ok hr2 IC.mro hNe DE.s DE.f DE.b pass0) (pe_call (E := E0) GA hr6 (by rfl) mA kA bA .nil passL (pa_cons (pv 5) (pa_cons (pv 8) pa_nil))) (pe_call (E := E0) GM hr138 (by rfl) mM kM bM .nil passL (pa_cons (pe_dget (hu1e hr) (pv 2) (pv 8) (fun _ _ => rfl)) pa_nil)) (nomark _))
      (pss_one (ps_ret pe_bl)) pss_nil))))
  (pss_cons (ps_set (i := 8) sc__law_right.nd rfl (.inr rfl) (pe_call C__law_pick.G hr2 (by rfl) C__law_pick.m C__law_pick.k C__law_pick.b .nil pass0 (pa_cons (pv 0) (pa_cons (pe_callB (sortD (by rfl) (hu64e hr)) (by rfl) T.sorted_ (by decide +kernel) (pa_cons (pv 2) pa_nil)) pa_nil))))
  (pss_cons (ps_set (i := 3) sc__law_right.nd rfl (.inl rfl) (pe_call C__law_exchanged.G hr12 (by rfl) C__law_exchanged.m C__law_exchanged.k C__law_exchanged.b .nil pass0 (pa_cons (pv 1) (pa_cons (pv 8) (pa_cons (pv 7) pa_nil)))))
  (pss_cons (ps_set (i := 3) sc__law_right.nd rfl (.inl rfl) (pe_ifExp (pt_val (pe_call C__law_is_within.G hrW (by rfl) C__law_is_within.m C__law_is_within.k C__law_is_within.b .nil pass0 (pa_cons (pv 3) pa_nil))) (pe_call (E := E0) GM hr138 (by rfl) mM kM bM .nil passL (pa_cons (pv 3) pa_nil)) pe_str))
  (pss_cons (ps_if (pt_cmpR (neRes DE.ok hr2 IC.mro hNe DE.s DE.f DE.b pass0) (pe_got2 (t := fun E => tCallS (spReplaced K C CE CI) (fun _ => E) (tCons (tVar 5) (tCons (tVar 8) (tCons (tCallS (spMadeE K C CE 132) (fun _ => E) (tCons (tVar 7) tNil)) tNil)))) FG mG kG bG E2 gI gE' (by rfl) TB rfl hmT huT hr140 (lamS_by (by rfl)) (by rfl) (fun _ _ _ _ _ => by rfl)
        (fun A outer s H E f c' hr => pe_callS (E := fun _ => E) GR (hr.mono (by omega)) (by rfl) mR kR bR (fun σ => passAt (takes_of rfl rfl rfl rfl) σ) (pa_cons (pv 5) (pa_cons (pv 8) (pa_cons (pe_callS (E := fun _ => E) GM (hr.mono (by omega)) (by rfl) mM kM bM (fun σ => passAt (takes_of rfl rfl rfl rfl) σ) (pa_cons (pv 7) pa_nil)) pa_nil))))) (pv 3) (nomark _))
    (pss_one (ps_ret pe_bl)) pss_nil)
  (pss_cons (ps_if (pt_cmpR (neOwn DE.ok hr2 IC.mro hNe DE.s DE.f DE.b pass0) (pe_call (E := E0) GR hr6 (by rfl) mR kR bR .nil passL (pa_cons (pv 5) (pa_cons (pv 8) (pa_cons (pe_call (E := E0) GA hr6 (by rfl) mA kA bA .nil passL (pa_cons (pv 5) (pa_cons (pv 8) pa_nil))) pa_nil)))) (pv 5) (nomark _))
    (pss_one (ps_ret pe_bl)) pss_nil)
  (pss_cons (ps_set (i := 4) sc__law_right.nd rfl (.inl rfl) (pe_lst (pa_cons (pe_op (catA (K := K) rfl) (pv 8) (pe_tup (pa_cons pe_int pa_nil))) (pa_cons (pe_op (catA (K := K) rfl) (pv 8) (pe_tup (pa_cons pe_int pa_nil))) (pa_cons (pe_op (catA (K := K) rfl) (pv 8) (pe_tup (pa_cons pe_int pa_nil))) (pa_cons (pe_op (catA (K := K) rfl) (pe_tup (pa_cons pe_int pa_nil)) (pv 8)) (pa_cons (pe_tup (pa_cons pe_int pa_nil)) (pa_cons (pe_tup (pa_cons (pe_un un_neg pe_int) pa_nil)) (pa_cons (pe_tup (pa_cons pe_int (pa_cons pe_int (pa_cons pe_int (pa_cons pe_int (pa_cons pe_int (pa_cons pe_int (pa_cons pe_int (pa_cons pe_int (pa_cons pe_int pa_nil)))))))))) pa_nil)))))))))
  (pss_cons (ps_for PassesOwn.never (by rfl) (piL (K := K) rfl (pv 4)) (pg_name (i := 6) sc__law_right.nd rfl (.inr rfl))
    (pss_one (ps_if (PW.pt (pw_or (pt_cmpR op_ne (pe_cmpR (eqTx DE.ok hr1 hnf DE.s DE.f DE.b pass0) (pe_got2 (t := fun E => tCallS (spPartAt K C CI) (fun _ => E) (tCons (tVar 5) (tCons (tVar 6) tNil))) FG mG kG bG E2 gI gE' (by rfl) TB rfl hmT huT hr8 (lamS_by (by rfl)) (by rfl) (fun _ _ _ _ _ => by rfl)
        (fun A outer s H E f c' hr => pe_callS (E := fun _ => E) GA hr (by rfl) mA kA bA (fun σ => passAt (takes_of rfl rfl rfl rfl) σ) (pa_cons (pv 5) (pa_cons (pv 6) pa_nil)))) pe_str (nomark _)) (pe_cmp (pc_dnotin (hu1e hr) (pv 6) (pv 2)) (by rfl)) (nomark _))
      (pw_or1 (pt_cmpR op_ne (pe_cmpR (inOwn DH.ok hr5 DH.s DH.f DH.b pass0) (pv 6) (pe_make (E := E0) SC.mkC GS hr6 (by rfl) SC.g bS .nil passL (pa_cons (pv 5) pa_nil)) (by rfl)) (pe_cmp (pc_din (hu1e hr) (pv 6) (pv 2)) (by rfl)) (nomark _)))))
      (pss_one (ps_ret pe_bl)) pss_nil)))
  (pss_one (ps_ret (pe_cmpR op_eq (pe_cmpR (eqOwn DQ.ok hr3 DQ.s DQ.f DQ.b pass0) (pe_make (E := E0) SC.mkC GS hr6 (by rfl) SC.g bS .nil passL (pa_cons (pv 5) pa_nil)) (pe_make (E := E0) SC.mkC GS hr6 (by rfl) SC.g bS .nil passL (pa_cons (pe_call (E := E0) GM hr138 (by rfl) mM kM bM .nil passL (pa_cons (pv 7) pa_nil)) pa_nil)) (nomark _)) (pe_cmpR (eqD (K := K) rfl (hu64e hr)) (pv 1) (pv 7) (nomark _)) (nomark _))))))))))))))), ?_⟩
    have g0 : GrN Ts d H H := ⟨D, fun _ _ _ e _ => e, hT⟩
    refine ⟨_, rfl, d, rfl, D, fun v pl ws H1 g1 A1 hw3 hwu hwi hl11 hc4 => ?_⟩
    have dp := Drawn.of A1 hwu hwi hl11
    clear hw3 hwu hwi hl11 hc4 ws
    refine ⟨_, rfl, d, rfl, g1.dice, fun u ql ws H2 g2 A2 hw3 hwu hwi hl11 hc4 => ?_⟩
    have dq := Drawn.of A2 hwu hwi hl11
    clear hw3 hwu hwi hl11 hc4 ws
    have A3 := A1.tk (g2.tk g1.dice)
    have gg := (g0.gr g1).gr g2
    clear g1 g2 A1
    have hlp := dp.l
    have hlq := dq.l
    have hl : (nodesOf pl).length < 1000 := by omega
    have hsl := subs_len pl
    have hk0 : ((subsP pl).map (·.1)).head? = some [] := by
      obtain ⟨r0, er⟩ := subs_head pl
      rw [er]
      rfl
    refine ⟨lenOk 2, fun t0 nt0 => ⟨t0, _, rfl, SqT.of upd_same, rfl, _, _, rfl, _, _, rfl, rfl, ?_⟩⟩
    have s2 : Same H2 (upd H2 t0 (.tup [v, u])) := same_new nt0
    have A4 := A3.tk (stk s2)
    have B4 := A2.tk (stk s2)
    have gg4 := gg.same s2
    generalize upd H2 t0 (.tup [v, u]) = H3 at s2 A4 B4 gg4 ⊢
    clear gg A3 A2 s2 nt0
    refine ⟨_, rfl, v, pl, rfl, A4, dp.good, by omega, by decide, fun _ a H4 s4 n4 pr4 => ?_, fun eo => by rw [dp.okB] at eo; cases eo⟩
    refine ⟨_, rfl, v, pl, rfl, A4.tk (stk s4), by omega, by decide, fun dd kvs H5 s5 n5 e5 r5 => ?_⟩
    refine ⟨lenOk 2, fun t1 nt1 => ⟨t1, _, rfl, SqT.of upd_same, rfl, _, _, rfl, _, _, rfl, rfl, ?_⟩⟩
    have s6 : Same H5 (upd H5 t1 (.tup [.ref a, .ref dd])) := same_new nt1
    have S : S10 K C Ts d H (upd H5 t1 (.tup [.ref a, .ref dd])) a dd v u pl ql kvs := ⟨gg4.same (s4.trans (s5.trans s6)), RowD.sm ⟨pr4.sm s5, e5, r5⟩ s6, A4.tk (stk (s4.trans (s5.trans s6))), B4.tk (stk (s4.trans (s5.trans s6)))⟩
    have hkv := Paired.length r5
    have hkl : kvs.length < 1000000 := by omega
    generalize upd H5 t1 (.tup [.ref a, .ref dd]) = H6 at S ⊢
    clear s4 s5 s6 n4 n5 e5 r5 nt1 pr4 A4 B4 gg4 g0
    -- list(surface(made)) != sorted(rows), and the surface
    refine ⟨_, rfl, .ref a, rfl, .inl ⟨a, pl, rfl, S.r.pr, dp.ok, hl, fun r us H7 s7 nr er hu => ⟨r, us, rfl, .inr (SqT.of er), fun L1 nL1 => ?_⟩⟩⟩
    have s8 : Same H7 (upd H7 L1 (.lst us)) := same_new nL1
    have e8 : upd H7 L1 (.lst us) L1 = some (.lst us) := upd_same
    have h8 := hu.tk (stk s8)
    have S8 := (S.sm s7).sm s8
    generalize upd H7 L1 (.lst us) = H8 at s8 e8 h8 S8 ⊢
    clear s7 s8 nr er hu nL1 S
    refine ⟨_, rfl, dd, kvs, (subsP pl).map (·.1), rfl, .inl S8.r.e, rows_keys S8.r.r, .inr hk0, subs_srt pl, hkl, fun l1 bs1 nl1 ik1 => ?_⟩
    have ek1 := keys_paired ik1 S8.r.r
    have s9 : Same H8 (upd H8 l1 (.lst (bs1.map V.ref))) := same_new nl1
    have e9 : upd H8 l1 (.lst (bs1.map V.ref)) l1 = some (.lst (bs1.map V.ref)) := upd_same
    have h9 := (keys_at (K := K) ek1).tk (stk s9)
    have S9 := S8.sm s9
    have e8 := s9 _ _ e8
    have h8 := h8.tk (stk s9)
    generalize upd H8 l1 (.lst (bs1.map V.ref)) = H9 at s9 e9 h9 S9 e8 h8 ⊢
    clear s9 ek1 ik1 nl1 S8
    have fs := pathsD_shaped ((subsP pl).map (·.1))
    refine ⟨pathsD ((subsP pl).map (·.1)), pathsD ((subsP pl).map (·.1)), .lst (SqL.of e8) (dp_paths h8), .lst (SqL.of e9) (dp_paths h9), fs, fs, ?_⟩
    rw [eqv_self fs]
    refine ⟨_, rfl, iteF ?_⟩
    clear fs e8 h8 e9 h9
    refine ⟨_, rfl, _, rfl, a, dd, pl, kvs, rfl, S9.r, dp, fun H10 s10 => ⟨true, rfl, iteF ?_⟩⟩
    have S := S9.sm s10
    clear S9 s10
    -- all places
    refine ⟨dd, .dT kvs, S.r.e, trivial, fun od => ?_⟩
    have eL : upd H10 dd (.frz od (.dT kvs)) dd = some (.frz od (.dT kvs)) := upd_same
    have rL := rows_tk (lock_tk S.r.e od) S.r.r
    have prL := S.r.pr.lock S.r.e od
    refine ⟨_, rfl, dd, od, rfl, .inr ⟨kvs, eL, ?_⟩⟩
    refine for_keysT (fun i σ H2 => (∃ x8, σ = [some (.ref d), some v, some (.ref dd), none, none, some (.ref a), none, some u, x8]) ∧ Same (upd H10 dd (.frz od (.dT kvs))) H2) ⟨⟨_, rfl⟩, Same.refl _⟩ (fun i σ H2 h => h.2 _ _ eL) ?_ ?_
    · rintro i key val b σ H2 hk hqa ⟨⟨x8, rfl⟩, s2⟩
      obtain ⟨y, hy, ek, hA⟩ := paired_at rL hk
      have ek : key = keyP y.1 := ek
      rw [ek] at hqa
      have r2 := rows_tk (stk s2) rL
      have hm : (y.1, y.2) ∈ subsP pl := List.mem_of_getElem? hy
      have dy := dp.inner (subs_inner hm) hA
      obtain ⟨o, rest, w1, w2, w3⟩ := walk_place dp.ok hl hm
      have hst : startV open2 pl (some (y.1.map natV)) = .int (o : Int) := startV_some w1
      have hPV : PathV K H2 (.ref b) (some (y.1.map natV)) := path_nats (SqT.of (by rw [← keyP_vals]; exact hqa))
      refine ⟨_, rfl, _, rfl, a, pl, .ref b, _, rfl, prL.sm s2, dp.ok, hl, hPV, ?_, fun z => by rw [hst] at z; cases z⟩
      intro zs o' q' ez ew
      cases ez
      rw [w1] at ew
      cases ew
      refine ⟨dy.okB, fun x3 H3 s3 n3 pr3 => ?_⟩
      have eL3 := s3 _ _ (s2 _ _ eL)
      obtain ⟨v3, hg, hA3⟩ := rows_get (.inr ⟨od, eL3⟩) (rows_tk (stk s3) r2) hy (s3 _ _ hqa)
      have hdl := dy.l
      refine ⟨_, rfl, _, rfl, dd, v3, rfl, hg, v3, y.2, rfl, hA3, dy.good, by omega, by decide, fun _ x4 H4 s4 n4 pr4 => ?_, fun no => by rw [dy.okB] at no; cases no⟩
      have pr34 := pr3.sm s4
      obtain ⟨dx3, _, _, e3, _⟩ := id pr34
      obtain ⟨dx4, _, _, e4, _⟩ := id pr4
      refine ⟨x3, x4, dx3, dx4, _, _, rfl, rfl, e3, e4, .inl ⟨x3, x4, _, _, rfl, pr34, pr4, _, rfl, ?_⟩⟩
      refine ⟨_, rfl, iteF' (by rw [decide_eq_true rfl]; rfl) ?_⟩
      exact ⟨⟨_, rfl⟩, s2.trans (s3.trans s4)⟩
    rintro σ H11 ⟨⟨x8, rfl⟩, s11⟩
    refine ⟨s11 _ _ eL, ?_⟩
    have u11 : Same H10 (upd H11 dd (.dT kvs)) := same_unl s11 S.r.e
    have S := S.sm u11
    generalize upd H11 dd (.dT kvs) = H12 at S ⊢
    clear u11 s11 eL rL prL od
    -- a place
    refine ⟨_, rfl, _, rfl, dd, kvs, (subsP pl).map (·.1), rfl, .inl S.r.e, rows_keys S.r.r, .inr hk0, subs_srt pl, hkl, fun l2 bs2 nl2 ik2 => ?_⟩
    have ek2 := keys_paired ik2 S.r.r
    have hbl := Paired.length ek2
    have s13 : Same H12 (upd H12 l2 (.lst (bs2.map V.ref))) := same_new nl2
    have nld : l2 ≠ d := S.g.dice.ne nl2
    have S13 := S.sm s13
    have hpos : 0 < (subsP pl).length := by
      obtain ⟨r0, er⟩ := subs_head pl
      rw [er]
      exact Nat.succ_pos _
    refine ⟨d, l2, bs2.map V.ref, rfl, S13.g.dice, SqL.of upd_same, nld, by rw [List.length_map]; omega, by rw [List.length_map]; omega, fun xp H14 hx D14 k14 => ?_⟩
    have g14 := off_gr (H := upd H12 l2 (.lst (bs2.map V.ref))) D14 k14
    obtain ⟨b, hb, rfl⟩ := List.mem_map.mp hx
    obtain ⟨jb, hjb⟩ := List.mem_iff_getElem?.mp hb
    obtain ⟨y, hy, eb⟩ := paired_at ek2 hjb
    have eb := plain_gr (s13 _ _ eb) S13.g.dice g14
    have S := S13.gr g14
    clear S13 g14 k14 D14 s13 nld nl2 ek2 ik2 hbl hx hb hjb
    have hm : (y.1, y.2) ∈ subsP pl := List.mem_of_getElem? hy
    obtain ⟨vy, hgy, hAy⟩ := rows_get (.inl S.r.e) S.r.r hy eb
    have dy := dp.inner (subs_inner hm) hAy
    obtain ⟨o, rest, w1, w2, w3⟩ := walk_place dp.ok hl hm
    have hst : startV open2 pl (some (y.1.map natV)) = .int (o : Int) := startV_some w1
    have ebq : SqT K H14 b (y.1.map natV) := SqT.of (by rw [← keyP_vals]; exact eb)
    have hpl := subs_plen hm
    refine ⟨_, rfl, _, rfl, _, rfl, v, pl, b, y.1, y.2, u, ql, rfl, S.v, ebq, subs_subN hm, by omega, by decide, S.u, fun ux H15 s15 A15 => ?_⟩
    have S := S.sm s15
    have eb := s15 _ _ eb
    clear ebq s15 hgy hAy
    have wx := w3 ql
    have good15 : GoodN (nodesOf (putP pl y.1 ql)) := by
      rw [wx]
      exact good_ex dp.good dq.good w2
    have in15 : InW uni6 (nodesOf (putP pl y.1 ql)) := by
      rw [wx]
      intro k z hkz
      rcases List.mem_append.mp hkz with h1 | h1
      · exact dp.w k z (List.mem_of_mem_take h1)
      rcases List.mem_append.mp h1 with h1 | h1
      · exact dq.w k z h1
      · exact dp.w k z (List.mem_of_mem_drop (i := o) (by rw [w2]; exact List.mem_append_right _ h1))
    have len15 : (nodesOf (putP pl y.1 ql)).length ≤ 132 := by
      rw [wx, List.length_append, List.length_append, List.length_take]
      have h1 := congrArg List.length w2
      rw [List.length_drop, List.length_append] at h1
      omega
    refine ⟨_, rfl, ux, putP pl y.1 ql, rfl, A15, good15, in15, len15, by decide, fun H16 s16 => ⟨_, rfl, ?_⟩⟩
    refine' join2 (C := fun (ud : V) (H' : Hp) => Same H15 H' ∧ Res K C H' ud (nodesOf (putP pl y.1 ql))) (ha := ?ha1) (hb := ?hb1) (tail := ?tl1)
    case ha1 =>
      intro hok tail
      refine ⟨_, rfl, ux, putP pl y.1 ql, rfl, A15.tk (stk s16), good15, len15, by decide, fun _ x H17 s17 n17 pr => ?_, fun no => by rw [hok] at no; cases no⟩
      have hres : Res K C H17 (.ref x) (nodesOf (putP pl y.1 ql)) := .inl ⟨hok, x, rfl, pr⟩
      generalize V.ref x = ud at hres ⊢
      exact tail ud H17 ⟨s16.trans s17, hres⟩
    case hb1 =>
      intro hok tail
      exact tail (.str "promise") H16 ⟨s16, .inr ⟨hok, rfl⟩⟩
    case tl1 =>
    intro ud H17 ⟨s17, rd⟩
    have S := S.sm s17
    have eb := s17 _ _ eb
    clear s17 s16 A15
    have cut : ∀ {rest' : List (Str × V)}, (nodesOf pl).drop o = nodesOf y.2 ++ rest' → rest' = rest := fun {rest'} h => by
      rw [w2] at h
      exact (List.append_cancel_left h).symm
    -- replaced by another
    refine ⟨S.g.tabs, fun H18 x18 T18 => ?_⟩
    refine got_tail (fun vr H' => ExtN H17 H' ∧ Tabs Ts H' ∧ Res K C H' vr (nodesOf (putP pl y.1 ql))) ?_ ?_
    · intro Q' tail
      have S18 := S.ext x18 T18
      have eb18 := x18 _ _ eb (fun ps z => by cases z)
      refine ⟨_, rfl, _, rfl, _, rfl, u, ql, rfl, S18.u, dq.good, by omega, by decide, fun _ b2 H19 s19 n19 pr19 => ?_, fun no => by rw [dq.okB] at no; cases no⟩
      have S19 := S18.sm s19
      have eb19 := s19 _ _ eb18
      have x19 := x18.trans (ext_of s19)
      refine ⟨a, b2, pl, nodesOf ql, .ref b, some (y.1.map natV), rfl, S19.r.pr, dp.ok, hl, pr19, by omega, path_nats (SqT.of (by rw [← keyP_vals]; exact eb19)), ?_, fun z => by rw [hst] at z; cases z⟩
      intro zs o' q' rest' ez ew ed
      cases ez
      rw [w1] at ew
      cases ew
      rw [cut ed, ← wx]
      refine ⟨fun ok x H20 s20 n20 pr20 => tail _ H20 ⟨x19.trans (ext_of s20), S19.g.tabs.ext s20, .inl ⟨ok, x, rfl, pr20⟩⟩, fun no H20 s20 => .inr ⟨rfl, tail _ H20 ⟨x19.trans (ext_of s20), S19.g.tabs.ext s20, .inr ⟨no, rfl⟩⟩⟩⟩
    intro vr H20 ⟨x20, T20, rr⟩
    have S := S.ext x20 T20
    have eb := x20 _ _ eb (fun ps z => by cases z)
    have rd := rd.ext x20
    refine ⟨_, rfl, res_ne rr rd ⟨_, rfl, iteF ?_⟩⟩
    clear rr rd x20 T20 good15 in15 len15
    -- replaced by itself
    have hPV : PathV K H20 (.ref b) (some (y.1.map natV)) := path_nats (SqT.of (by rw [← keyP_vals]; exact eb))
    refine ⟨_, rfl, _, rfl, _, rfl, _, rfl, a, pl, .ref b, _, rfl, S.r.pr, dp.ok, hl, hPV, ?_, fun z => by rw [hst] at z; cases z⟩
    intro zs o' q' ez ew
    cases ez
    rw [w1] at ew
    cases ew
    refine ⟨dy.okB, fun x3 H21 s21 n21 pr21 => ?_⟩
    have S := S.sm s21
    have eb := s21 _ _ eb
    have hdl := dy.l
    refine ⟨a, x3, pl, nodesOf y.2, .ref b, some (y.1.map natV), rfl, S.r.pr, dp.ok, hl, pr21, by omega, path_nats (SqT.of (by rw [← keyP_vals]; exact eb)), ?_, fun z => by rw [hst] at z; cases z⟩
    intro zs o' q' rest' ez ew ed
    cases ez
    rw [w1] at ew
    cases ew
    rw [← ed, List.take_append_drop]
    refine ⟨fun _ x4 H22 s22 n22 pr22 => ?_, fun no => by rw [dp.okB] at no; cases no⟩
    have S := S.sm s22
    have eb := s22 _ _ eb
    obtain ⟨dx4, _, _, e4, _⟩ := id pr22
    obtain ⟨dxa, _, _, ea, _⟩ := id S.r.pr
    refine ⟨_, rfl, x4, a, dx4, dxa, _, _, rfl, rfl, e4, ea, .inl ⟨x4, a, _, _, rfl, pr22, S.r.pr, _, rfl, ?_⟩⟩
    refine ⟨_, rfl, iteF' (by rw [decide_eq_true rfl]; rfl) ?_⟩
    clear e4 ea pr22 n22 s22 s21 n21 pr21 hPV ed
    -- near
    have ebi : H22 b = some (.tup ((y.1.map fun (n : Nat) => (n : Int)).map V.int)) := by
      rw [eb, keyP_vals, List.map_map]
      rfl
    obtain ⟨pa, epa⟩ : ∃ pa : List Int, pa = y.1.map fun (n : Nat) => (n : Int) := ⟨_, rfl⟩
    rw [← epa] at ebi
    have lpa : pa.length < 1000 := by
      rw [epa, List.length_map]
      omega
    refine ⟨_, rfl, lenOk 1, fun c1 nc1 => ?_⟩
    have z1 : Same H22 (upd H22 c1 (.tup [.int 0])) := same_new nc1
    have f1 : upd H22 c1 (.tup [.int 0]) c1 = some (.tup [.int 0]) := upd_same
    generalize upd H22 c1 (.tup [.int 0]) = X1 at z1 f1 ⊢
    have S := S.sm z1
    have ebi := z1 _ _ ebi
    refine cat_pl ebi f1 (by rw [List.length_map, List.length_singleton]; omega) fun t1 Y1 y1 e1 => ?_
    have S := S.sm y1
    have ebi := y1 _ _ ebi
    have e1 : Y1 t1 = some (.tup ((pa ++ [0]).map V.int)) := by rw [e1, List.map_append]; rfl
    clear z1 f1 y1 nc1
    refine ⟨_, rfl, lenOk 1, fun c2 nc2 => ?_⟩
    have z2 : Same Y1 (upd Y1 c2 (.tup [.int 1])) := same_new nc2
    have f2 : upd Y1 c2 (.tup [.int 1]) c2 = some (.tup [.int 1]) := upd_same
    generalize upd Y1 c2 (.tup [.int 1]) = X2 at z2 f2 ⊢
    have S := S.sm z2
    have ebi := z2 _ _ ebi
    have e1 := z2 _ _ e1
    refine cat_pl ebi f2 (by rw [List.length_map, List.length_singleton]; omega) fun t2 Y2 y2 e2 => ?_
    have S := S.sm y2
    have ebi := y2 _ _ ebi
    have e1 := y2 _ _ e1
    have e2 : Y2 t2 = some (.tup ((pa ++ [1]).map V.int)) := by rw [e2, List.map_append]; rfl
    clear z2 f2 y2 nc2
    refine ⟨_, rfl, lenOk 1, fun c3 nc3 => ?_⟩
    have z3 : Same Y2 (upd Y2 c3 (.tup [.int 4])) := same_new nc3
    have f3 : upd Y2 c3 (.tup [.int 4]) c3 = some (.tup [.int 4]) := upd_same
    generalize upd Y2 c3 (.tup [.int 4]) = X3 at z3 f3 ⊢
    have S := S.sm z3
    have ebi := z3 _ _ ebi
    have e1 := z3 _ _ e1
    have e2 := z3 _ _ e2
    refine cat_pl ebi f3 (by rw [List.length_map, List.length_singleton]; omega) fun t3 Y3 y3 e3 => ?_
    have S := S.sm y3
    have ebi := y3 _ _ ebi
    have e1 := y3 _ _ e1
    have e2 := y3 _ _ e2
    have e3 : Y3 t3 = some (.tup ((pa ++ [4]).map V.int)) := by rw [e3, List.map_append]; rfl
    clear z3 f3 y3 nc3
    refine ⟨lenOk 1, fun c4 nc4 => ?_⟩
    have z4 : Same Y3 (upd Y3 c4 (.tup [.int 0])) := same_new nc4
    have f4 : upd Y3 c4 (.tup [.int 0]) c4 = some (.tup [.int 0]) := upd_same
    generalize upd Y3 c4 (.tup [.int 0]) = X4 at z4 f4 ⊢
    have S := S.sm z4
    have ebi := z4 _ _ ebi
    have e1 := z4 _ _ e1
    have e2 := z4 _ _ e2
    have e3 := z4 _ _ e3
    refine ⟨_, rfl, cat_pl f4 ebi (by rw [List.length_map, List.length_singleton]; omega) fun t4 Y4 y4 e4 => ?_⟩
    have S := S.sm y4
    have ebi := y4 _ _ ebi
    have e1 := y4 _ _ e1
    have e2 := y4 _ _ e2
    have e3 := y4 _ _ e3
    have e4 : Y4 t4 = some (.tup (((0 : Int) :: pa).map V.int)) := e4
    clear z4 f4 y4 nc4
    refine ⟨lenOk 1, fun c5 nc5 => ?_⟩
    have z5 : Same Y4 (upd Y4 c5 (.tup [.int 9])) := same_new nc5
    have f5 : upd Y4 c5 (.tup [.int 9]) c5 = some (.tup [.int 9]) := upd_same
    generalize upd Y4 c5 (.tup [.int 9]) = X5 at z5 f5 ⊢
    have S := S.sm z5
    have ebi := z5 _ _ ebi
    have e1 := z5 _ _ e1
    have e2 := z5 _ _ e2
    have e3 := z5 _ _ e3
    have e4 := z5 _ _ e4
    clear z5 nc5
    refine ⟨1, rfl, lenOk 1, fun c6 nc6 => ?_⟩
    have z6 : Same X5 (upd X5 c6 (.tup [.int (-1)])) := same_new nc6
    have f6 : upd X5 c6 (.tup [.int (-1)]) c6 = some (.tup [.int (-1)]) := upd_same
    generalize upd X5 c6 (.tup [.int (-1)]) = X6 at z6 f6 ⊢
    have S := S.sm z6
    have ebi := z6 _ _ ebi
    have e1 := z6 _ _ e1
    have e2 := z6 _ _ e2
    have e3 := z6 _ _ e3
    have e4 := z6 _ _ e4
    have f5 := z6 _ _ f5
    clear z6 nc6
    refine ⟨lenOk 9, fun c7 nc7 => ?_⟩
    have z7 : Same X6 (upd X6 c7 (.tup [.int 0, .int 0, .int 0, .int 0, .int 0, .int 0, .int 0, .int 0, .int 0])) := same_new nc7
    have f7 : upd X6 c7 (.tup [.int 0, .int 0, .int 0, .int 0, .int 0, .int 0, .int 0, .int 0, .int 0]) c7 = some (.tup [.int 0, .int 0, .int 0, .int 0, .int 0, .int 0, .int 0, .int 0, .int 0]) := upd_same
    generalize upd X6 c7 (.tup [.int 0, .int 0, .int 0, .int 0, .int 0, .int 0, .int 0, .int 0, .int 0]) = X7 at z7 f7 ⊢
    have S := S.sm z7
    have ebi := z7 _ _ ebi
    have e1 := z7 _ _ e1
    have e2 := z7 _ _ e2
    have e3 := z7 _ _ e3
    have e4 := z7 _ _ e4
    have f5 := z7 _ _ f5
    have f6 := z7 _ _ f6
    clear z7 nc7
    refine ⟨lenOk 7, fun ln nln => ?_⟩
    have z8 : Same X7 (upd X7 ln (.lst [.ref t1, .ref t2, .ref t3, .ref t4, .ref c5, .ref c6, .ref c7])) := same_new nln
    have fl : upd X7 ln (.lst [.ref t1, .ref t2, .ref t3, .ref t4, .ref c5, .ref c6, .ref c7]) ln = some (.lst [.ref t1, .ref t2, .ref t3, .ref t4, .ref c5, .ref c6, .ref c7]) := upd_same
    generalize upd X7 ln (.lst [.ref t1, .ref t2, .ref t3, .ref t4, .ref c5, .ref c6, .ref c7]) = X8 at z8 fl ⊢
    have S := S.sm z8
    have ebi := z8 _ _ ebi
    have e1 := z8 _ _ e1
    have e2 := z8 _ _ e2
    have e3 := z8 _ _ e3
    have e4 := z8 _ _ e4
    have f5 := z8 _ _ f5
    have f6 := z8 _ _ f6
    have f7 := z8 _ _ f7
    clear z8 nln
    obtain ⟨ts, ets⟩ : ∃ ts : List Addr, ts = [t1, t2, t3, t4, c5, c6, c7] := ⟨_, rfl⟩
    have hts : Paired (fun (t : Addr) (zs : List Int) => X8 t = some (.tup (zs.map V.int))) ts [pa ++ [0], pa ++ [1], pa ++ [4], 0 :: pa, [9], [-1], [0, 0, 0, 0, 0, 0, 0, 0, 0]] := by
      rw [ets]
      exact .cons e1 (.cons e2 (.cons e3 (.cons e4 (.cons f5 (.cons f6 (.cons f7 .nil))))))
    have fl : X8 ln = some (.lst (ts.map V.ref)) := by
      rw [fl, ets]
      rfl
    have fseq : ∀ {H2 : Hp}, ExtN X8 H2 → SqL K H2 ln (ts.map V.ref) := fun {H2} x => SqL.of (x _ _ fl fun ps z => by cases z)
    refine ⟨_, rfl, ln, rfl, ⟨_, SqL.of fl⟩, ?_⟩
    refine for_list (K := K) (a := ln) (xs := ts.map V.ref) (fun i σ H2 => (∃ x6, σ = [some (.ref d), some v, some (.ref dd), some ud, some (.ref ln), some (.ref a), x6, some u, some (.ref b)]) ∧ ExtN X8 H2 ∧ Tabs Ts H2) ⟨⟨_, rfl⟩, ext_of (Same.refl X8), S.g.tabs⟩ (fun i σ H2 _ h => fseq h.2.1) ?_ ?_
    · rintro i xt σ H2 hi ⟨⟨x6, rfl⟩, x2, T2⟩
      rw [List.getElem?_map] at hi
      cases hti : ts[i]? with
      | none => rw [hti] at hi; cases hi
      | some t =>
      rw [hti] at hi
      cases hi
      obtain ⟨zs, _, et⟩ := paired_at hts hti
      refine ⟨T2, fun H3 x3 T3 => ?_⟩
      have x23 := x2.trans x3
      have S3 := S.ext x23 T3
      have et3 := x23 _ _ et (fun ps z => by cases z)
      have hnr := near_rows S3.r.r dp.ok hl zs
      refine got_tail (fun vr H' => ExtN H3 H' ∧ Tabs Ts H' ∧ GtP K C (isPl pl (some (zs.map V.int))) vr H') ?_ ?_
      · intro Q' tail
        refine ⟨_, rfl, _, rfl, a, pl, .ref t, some (zs.map V.int), rfl, S3.r.pr, dp.ok, hl, path_ints (SqT.of et3), ?_, ?_⟩
        · intro zs' o' q' ez ew
          cases ez
          obtain ⟨pa', _, hm'⟩ := place_walk ew
          obtain ⟨vq, hAq⟩ := rows_at S3.r.r hm'
          have dq' := dp.inner (subs_inner hm') hAq
          have hisp : isPl pl (some (zs.map V.int)) = true := by
            unfold isPl
            rw [startV_some ew]
            rfl
          exact ⟨dq'.okB, fun x H' s n pr => tail _ H' ⟨ext_of s, T3.ext s, .inl ⟨hisp, x, _, rfl, pr⟩⟩⟩
        · intro en
          have hisp : isPl pl (some (zs.map V.int)) = false := by
            unfold isPl
            rw [en]
            rfl
          exact .inl ⟨rfl, tail _ H3 ⟨ext_of (Same.refl H3), T3, .inr ⟨hisp, rfl⟩⟩⟩
      intro vr H4 ⟨x4, T4, hg⟩
      have S4 := S3.ext x4 T4
      have et4 := x4 _ _ et3 (fun ps z => by cases z)
      dsimp only [tC]
      refine eqTx_val hg ?_
      refine ⟨_, rfl, _, rfl, dd, _, rfl, .inr ⟨kvs, keyI zs, t, .inl S4.r.e, rfl, by rw [keyI_vals]; exact et4, rfl⟩, rfl, _, rfl, ?_⟩
      refine iteF' (by rw [hnr, decide_eq_true rfl]; rfl) ?_
      refine ⟨_, rfl, _, rfl, fun x dx nx nd ne => makeSf nx nd S4.r.pr dp.ok hl fun H5 s5 sf5 => ⟨rfl, ?_⟩⟩
      obtain ⟨dS, t0, us0, eS, _, _, _⟩ := id sf5
      have et5 := s5 _ _ et4
      refine ⟨x, dS, _, rfl, eS, x, a, pl, .ref t, some (zs.map V.int), rfl, sf5, dp.ok, hl, path_ints (SqT.of et5), _, rfl, ?_⟩
      refine ⟨_, rfl, _, rfl, dd, _, rfl, .inr ⟨kvs, keyI zs, t, .inl (s5 _ _ S4.r.e), rfl, by rw [keyI_vals]; exact et5, rfl⟩, rfl, _, rfl, ?_⟩
      refine iteF' (by rw [hnr]; cases (valV kvs (keyI zs)).isSome <;> rfl) ?_
      exact ⟨⟨_, rfl⟩, (x23.trans x4).trans (ext_of s5), T4.ext s5⟩
    rintro σ H9 ⟨⟨x6, rfl⟩, x9, T9⟩
    have S := S.ext x9 T9
    clear x9 T9 fl fseq hts e1 e2 e3 e4 f5 f6 f7 ebi eb
    refine ⟨_, rfl, fun y1 dy1 ny1 nd1 ne1 => makeSf ny1 nd1 S.r.pr dp.ok hl fun H30 s30 sf30 => ⟨rfl, ?_⟩⟩
    have S := S.sm s30
    refine ⟨_, rfl, u, ql, rfl, S.u, dq.good, by omega, by decide, fun _ b2 H31 s31 n31 pr31 => ?_, fun no => by rw [dq.okB] at no; cases no⟩
    refine fun y2 dy2 ny2 nd2 ne2 => makeSf ny2 nd2 pr31 dq.ok (by omega) fun H32 s32 sf32 => ⟨rfl, ?_⟩
    have S := (S.sm s31).sm s32
    have sf1 := (sf30.sm s31).sm s32
    obtain ⟨dS1, _, _, eS1, _, _, _⟩ := id sf1
    obtain ⟨dS2, _, _, eS2, _, _, _⟩ := id sf32
    refine ⟨y1, y2, dS1, dS2, _, _, rfl, rfl, eS1, eS2, .inl ⟨y1, a, y2, b2, pl, ql, rfl, sf1, sf32, _, rfl, ?_⟩⟩
    have dpd := depth_le pl
    have dqd := depth_le ql
    refine ⟨_, rfl, _, rfl, dataOf pl, dataOf ql, dp_tree S.v dp.good, dp_tree S.u dq.good, tree_shaped dp.good (by omega), tree_shaped dq.good (by omega), rfl, ?_⟩
    have hEq : decide (nodesOf pl = nodesOf ql) = PyData.eqv (dataOf pl) (dataOf ql) := by
      rw [Bool.eq_iff_iff, decide_eq_true_iff, tree_eqv dp.good dq.good]
      exact ⟨fun e => (nodes_inj (r := []) (r' := []) dp.ok dq.ok (by rw [e])).1, fun e => by rw [e]⟩
    rw [hEq, decide_eq_true rfl]
    exact q _ S.g
end
end Eh
set_option Elab.async false
set_option linter.all false
set_option maxRecDepth 100000
set_option maxHeartbeats 8000000
namespace Eh
open PySem PySem.Spec PyProof.Rows L2
open ClX Zl
open LamX (TabB Tabs TabS ExtN)
def lawZ10 : Str := "([!b + !c] | ([b * c] & [b * c]))"
def lawP10 : Pl := .node "some" [.node "mine" [.leaf "not" (.str "b"), .leaf "not" (.str "c")], .node "all" [.node "yours" [.leaf "fact" (.str "b"), .leaf "fact" (.str "c")], .node "yours" [.leaf "fact" (.str "b"), .leaf "fact" (.str "c")]]]
def lawN10 : List (Str × V) := [("some", .int 2), ("mine", .int 2), ("not", .str "b"), ("not", .str "c"), ("all", .int 2), ("yours", .int 2), ("fact", .str "b"), ("fact", .str "c"), ("yours", .int 2), ("fact", .str "b"), ("fact", .str "c")]
theorem lawN10_eq : nodesOf lawP10 = lawN10 := by
  unfold lawP10 lawN10
  simp [nodesOf, nodesAll]
theorem lawS10 : (subsP lawP10).map (·.1) = [[], [0], [1], [1, 0], [1, 1]] := by decide +kernel
theorem lawT10 : tellT (subsP lawP10).length (inK ["mine"] lawP10).length (inK ["yours"] lawP10).length = "5 places, 1 mine, 2 yours" := by decide +kernel
section
variable {P : Program} {w : World} {K : PySem.W.Frag} {mg : Str → Option Value} {base : Heap}
def spLaw10 (K : PySem.W.Frag) (T : List (Addr × Str)) : Sp := fun vs H Q _ => ∃ (a : Addr) (ns : List Int), vs = [.ref a] ∧ SqL K H a (ns.map V.int) ∧ ns.length ≤ 63 ∧ Tabs T H ∧ ∀ H', Q (.bl true) H'
theorem ok_law10 {C CS CE fI fL fD fR fS fSf gT f : Addr} {Ts : List (Addr × Str)} {fdD fdR fdS fdSf fdT fd : FuncData} (F : Fun K "law" "law" s_law f fd) (T : Txt mg) (PC : PromC K mg C fI fL) (SC : SurC K mg CS fS)
    (GS : FnOk P w K mg base (L2.CX P w) 5 fS fdS ["self", "promise"] (spSInit K C CS)) (bS : Binds K fdS ["self", "promise"] [])
    (GSf : FnOk P w K mg base (L2.CX P w) 4 fSf fdSf ["promise"] (spSurface K C CE)) (mSf : mg "surface" = some (.ref fSf)) (kSf : PySem.W.keepIn K (.ref fSf) = true) (bSf : Binds K fdSf ["promise"] [])
    (DT : DunC P w K mg base CS "__str__" 7 ["self"] (spSStr K C CS) gT fdT)
    (C__law_dice : Cal P w K mg base 1 "_law_dice" fD fdD ["script", "spot"] (spDice K)) (C__law_right : Cal P w K mg base 151 "_law_right" fR fdR ["dice"] (spRightA Ts))
    {mc : Value} {q1 r1 : Addr} {fr1 : FuncData} (CR : CRead K C mc) (M1 : CMet K C mc "read" q1 r1) (GR : FnT P w K mg base 6 r1 fr1 ["cls", "text"] (spReadOk K C)) (bR : Binds K fr1 ["cls", "text"] []) :
    FnOk P w K mg base CX0 152 f fd ["script"] (spLaw10 K Ts) := by
  refine F.ok sc_law (fun vs H Q E h => ?_) (fun cdv A outer s H vs Q E hr h => ?_)
  · obtain ⟨a, ns, rfl, _⟩ := h
    rfl
  · obtain ⟨a, ns, rfl, hS, hl, hT, q⟩ := h
    have hr9 := hr.mono (j := 9) (by omega)
    have hr6 := hr.mono (j := 6) (by omega)
    have hr4 := hr.mono (j := 4) (by omega)
    have hr1 := hr.mono (j := 1) (by omega)
    refine ⟨_, (pss_cons (ps_for PassesOwn.never (by rfl) (pi_range1 (by rfl) T.range_ (pa_cons (pe_callB (call_max2 (by rfl)) (by rfl) T.max_ (by decide +kernel) (pa_cons pe_int (pa_cons (pe_callB (call_min2 (by rfl)) (by rfl) T.min_ (by decide +kernel) (pa_cons pe_int (pa_cons (pe_callB (lenQ (K := K) rfl) (by rfl) T.len_ (by decide +kernel) (pa_cons (pv 0) pa_nil)) pa_nil))) pa_nil))) pa_nil)) (pg_name (i := 1) sc_law.nd rfl (.inl rfl))
  (pss_cons (ps_set (i := 2) sc_law.nd rfl (.inl rfl) (pe_call C__law_dice.G hr1 (by rfl) C__law_dice.m C__law_dice.k C__law_dice.b .nil pass0 (pa_cons (pv 0) (pa_cons (pv 1) pa_nil))))
  (pss_one (ps_for PassesOwn.never (by rfl) (pi_range1 (by rfl) T.range_ (pa_cons pe_int pa_nil)) (pg_name (i := 3) sc_law.nd rfl (.inl rfl))
  (pss_one (ps_if (pt_not (pt_val (pe_call C__law_right.G hr (by rfl) C__law_right.m C__law_right.k C__law_right.b .nil pass0 (pa_cons (pv 2) pa_nil))))
  (pss_one (ps_ret pe_bl))
  pss_nil))))))
  (pss_cons (ps_set (i := 4) sc_law.nd rfl (.inl rfl) (pe_cmethS (pe_glob (v := .ref C) rfl PC.g rfl) CR M1 GR bR hr6))
  (pss_one (ps_ret (pe_and (pe_cmpR (eqD (K := K) rfl (hu64e hr)) (pe_call (E := E0) GSf hr4 (by rfl) mSf kSf bSf .nil passL (pa_cons (pv 4) pa_nil)) (pe_tup (pa_cons (pe_tup pa_nil) (pa_cons (pe_tup (pa_cons pe_int pa_nil)) (pa_cons (pe_tup (pa_cons pe_int pa_nil)) (pa_cons (pe_tup (pa_cons pe_int (pa_cons pe_int pa_nil))) (pa_cons (pe_tup (pa_cons pe_int (pa_cons pe_int pa_nil))) pa_nil)))))) (nomark _))
    (pe_one (pe_cmpR op_eq (pe_callTy (strOwn DT.ok hr9 DT.s DT.f DT.b pass0) (by rfl) T.str_ (by decide +kernel) (pa_cons (pe_make (E := E0) SC.mkC GS hr6 (by rfl) SC.g bS .nil passL (pa_cons (pv 4) pa_nil)) pa_nil)) pe_str (nomark _)))))))), ?_⟩
    refine ⟨_, rfl, .inl ⟨a, _, rfl, .inl hS, _, _, rfl, _, _, rfl, ?_⟩⟩
    obtain ⟨mm, em, hm⟩ : ∃ m : Int, (if (if ((ns.map V.int).length : Int) < 8 then ((ns.map V.int).length : Int) else 8) > 1 then (if ((ns.map V.int).length : Int) < 8 then ((ns.map V.int).length : Int) else 8) else 1) = m ∧ 0 ≤ m ∧ m ≤ 8 := by
      refine ⟨_, rfl, ?_⟩
      split <;> (try split) <;> omega
    rw [em]
    refine ⟨mm, rfl, by omega, by omega, ?_⟩
    refine for_range (lo := 0) (n := mm.toNat) (fun i σ H2 => (∃ x1 x2 x3 x4, σ = [some (.ref a), x1, x2, x3, x4]) ∧ ExtN H H2 ∧ Tabs Ts H2) ⟨⟨none, none, none, none, rfl⟩, ext_of (Same.refl H), hT⟩ ?_ ?_
    · rintro i σ H2 hi ⟨⟨x1, x2, x3, x4, rfl⟩, s2, T2⟩
      refine ⟨_, rfl, _, rfl, a, ns, i, by rw [Int.zero_add]; rfl, seq_ext s2 hS, fun d H3 s3 n3 D3' => ?_⟩
      have nd : H d = none ∨ ∃ ps, H d = some (.tbl ps) := free_ext s2 n3
      refine ⟨4, rfl, by decide, by decide, ?_⟩
      refine for_range (lo := 0) (n := 4) (fun j σ H4 => (∃ x1 x3 x4, σ = [some (.ref a), x1, some (.ref d), x3, x4]) ∧ ExtN H H4 ∧ Tabs Ts H4 ∧ D3 H4 d) ⟨⟨_, _, _, rfl⟩, s2.trans (ext_of s3), T2.ext s3, D3'⟩ ?_ ?_
      · rintro j σ H4 hj ⟨⟨x1, x3, x4, rfl⟩, s4, T4, D4⟩
        refine ⟨_, rfl, d, rfl, D4, T4, fun H5 g5 => ⟨_, rfl, iteF ?_⟩⟩
        exact ⟨⟨_, _, _, rfl⟩, ext_gr nd s4 g5, g5.tabs, g5.dice⟩
      · rintro σ H4 ⟨⟨x1, x3, x4, rfl⟩, s4, T4, D4⟩
        exact ⟨⟨_, _, _, _, rfl⟩, s4, T4⟩
    · rintro σ H2 ⟨⟨x1, x2, x3, x4, rfl⟩, s2, T2⟩
      clear s2 T2
      refine ⟨rfl, lawZ10, lawN10, lawZ10, rfl, by decide +kernel, by decide +kernel, by decide +kernel, by decide +kernel, nokB_ok (by decide +kernel), by decide +kernel, by decide, by decide +kernel, rfl, fun y H4 s4 n4 PR => ?_⟩
      have pr : PrG K C H4 y (nodesOf lawP10) := by
        obtain ⟨dx, p, zs, ex, hs, hN, ho⟩ := PR
        rw [lawN10_eq]
        exact ⟨dx, p, zs, ex, hs, hN, fun n hn => (ho n hn).1⟩
      have hok : plOk lawP10 = true := by decide +kernel
      have hl10 : (nodesOf lawP10).length < 1000 := by rw [lawN10_eq]; decide
      refine ⟨_, rfl, .ref y, rfl, .inl ⟨y, lawP10, rfl, pr, hok, hl10, fun r us H5 s5 nr er hu => ?_⟩⟩
      rw [lawS10] at hu
      have pr5 := pr.sm s5
      refine ⟨Nat.zero_le _, fun t1 n1 => ⟨lenOk 1, fun t2 n2 => ⟨lenOk 1, fun t3 n3 => ⟨lenOk 2, fun t4 n4 => ⟨lenOk 2, fun t5 n5 => ⟨lenOk 5, fun t6 n6 => ?_⟩⟩⟩⟩⟩⟩
      have z1 : Same H5 (upd H5 t1 (.tup [])) := same_new n1
      have f1 : upd H5 t1 (.tup []) t1 = some (.tup []) := upd_same
      generalize upd H5 t1 (.tup []) = X1 at z1 f1 n2 n3 n4 n5 n6 ⊢
      have z2 : Same X1 (upd X1 t2 (.tup [.int 0])) := same_new n2
      have f2 : upd X1 t2 (.tup [.int 0]) t2 = some (.tup [.int 0]) := upd_same
      generalize upd X1 t2 (.tup [.int 0]) = X2 at z2 f2 n3 n4 n5 n6 ⊢
      have z3 : Same X2 (upd X2 t3 (.tup [.int 1])) := same_new n3
      have f3 : upd X2 t3 (.tup [.int 1]) t3 = some (.tup [.int 1]) := upd_same
      generalize upd X2 t3 (.tup [.int 1]) = X3 at z3 f3 n4 n5 n6 ⊢
      have z4 : Same X3 (upd X3 t4 (.tup [.int 1, .int 0])) := same_new n4
      have f4 : upd X3 t4 (.tup [.int 1, .int 0]) t4 = some (.tup [.int 1, .int 0]) := upd_same
      generalize upd X3 t4 (.tup [.int 1, .int 0]) = X4 at z4 f4 n5 n6 ⊢
      have z5 : Same X4 (upd X4 t5 (.tup [.int 1, .int 1])) := same_new n5
      have f5 : upd X4 t5 (.tup [.int 1, .int 1]) t5 = some (.tup [.int 1, .int 1]) := upd_same
      generalize upd X4 t5 (.tup [.int 1, .int 1]) = X5 at z5 f5 n6 ⊢
      have z6 : Same X5 (upd X5 t6 (.tup [.ref t1, .ref t2, .ref t3, .ref t4, .ref t5])) := same_new n6
      have f6 : upd X5 t6 (.tup [.ref t1, .ref t2, .ref t3, .ref t4, .ref t5]) t6 = some (.tup [.ref t1, .ref t2, .ref t3, .ref t4, .ref t5]) := upd_same
      generalize upd X5 t6 (.tup [.ref t1, .ref t2, .ref t3, .ref t4, .ref t5]) = X6 at z6 f6 ⊢
      have y5 := z5.trans z6
      have y4 := z4.trans y5
      have y3 := z3.trans y4
      have y2 := z2.trans y3
      have y1 := z1.trans y2
      have hP6 : PthsAt K X6 [.ref t1, .ref t2, .ref t3, .ref t4, .ref t5] [[], [0], [1], [1, 0], [1, 1]] :=
        .cons (SqT.of (y2 _ _ f1)) (.cons (SqT.of (y3 _ _ f2)) (.cons (SqT.of (y4 _ _ f3)) (.cons (SqT.of (y5 _ _ f4)) (.cons (SqT.of (z6 _ _ f5)) .nil))))
      have hd : SeqAt.shaped (PyData.tuple ([[], [0], [1], [1, 0], [1, 1]].map pathD)) = true := by decide +kernel
      refine ⟨PyData.tuple ([[], [0], [1], [1, 0], [1, 1]].map pathD), PyData.tuple ([[], [0], [1], [1, 0], [1, 1]].map pathD), .tup (SqT.of (y1 _ _ er)) (dp_paths (hu.tk (stk y1))), .tup (SqT.of f6) (dp_paths hP6), hd, hd, ?_⟩
      rw [eqv_self hd]
      refine ⟨_, rfl, iteT ?_⟩
      have pr6 := pr5.sm y1
      refine ⟨_, rfl, fun x dx nx nd ne => makeSf nx nd pr6 hok hl10 fun H7 s7 sf => ⟨rfl, ?_⟩⟩
      obtain ⟨dS, t9, us9, eS, _, _, _⟩ := id sf
      refine ⟨x, dS, _, rfl, eS, x, y, lawP10, rfl, sf, hok, hl10, fun H8 s8 => ⟨_, rfl, rfl, ?_⟩⟩
      rw [lawT10, decide_eq_true rfl]
      exact q H8
end
end Eh
set_option Elab.async false
set_option linter.all false
set_option maxRecDepth 100000
set_option maxHeartbeats 8000000
set_option pp.deepTerms false
set_option pp.maxSteps 30
namespace Eh
open PySem PySem.Spec PyProof.Rows L2
open LamX (TabB Tabs TabS ExtN)
theorem kit_no {K : PySem.W.Frag} {C CS : Addr} (i : PySem.W.isClsIn K CS = true) (t : PySem.W.typeIn K (.ref CS) = some (.type "type")) (s : PySem.W.subIn K (.ref C) (.ref CS) = some false) (n : (C == CS) = false) : PySem.W.kitOne K (.ref C) (.ref CS) = some false := by
  unfold PySem.W.kitOne
  rw [if_neg (fun z => by
    have e : C = CS := by injection (beq_iff_eq.mp z)
    rw [e, beq_self_eq_true] at n
    cases n)]
  have j : ((PySem.W.clsIn K CS).isSome && PySem.W.typeIn K (.ref CS) == some (.type "type")) = true := by
    rw [show (PySem.W.clsIn K CS).isSome = true from i, t]
    decide
  exact (if_pos j).trans s
theorem exm_of10 {K : PySem.W.Frag} {A C : Addr} {r : Bool} (b : PySem.W.subIn K (.ref C) (.type "BaseException") = some true) (i : PySem.W.isClsIn K C = true)
    (t : PySem.W.typeIn K (.ref C) = some (.type "type")) (s : PySem.W.subIn K (.ref A) (.ref C) = some r) : PySem.W.exmOne K (.ref A) (.ref C) = some r := by
  unfold PySem.W.exmOne
  rw [b, if_pos (by decide)]
  have j : ((PySem.W.clsIn K C).isSome && PySem.W.typeIn K (.ref C) == some (.type "type")) = true := by
    rw [show (PySem.W.clsIn K C).isSome = true from i, t]
    decide
  exact (if_pos j).trans s
theorem all_mk {l : PySem.W.OpenLaw} {w : World} {K : PySem.W.Frag} {h : Heap} {mg : Str → Option Value} {fa : Addr} (X : K.In h) (G : h.Ns mainGlobals mg) (hfa : mg "law" = some (.ref fa))
    (TT__law_right : TabsTold K h "_law_right")
    {t_MAX_LETTERS : Tok} (i_MAX_LETTERS : PySem.W.nsIn K mainGlobals "MAX_LETTERS" = some (some (.int 8 t_MAX_LETTERS)))
    {t_LEAST_PARTS : Tok} (i_LEAST_PARTS : PySem.W.nsIn K mainGlobals "LEAST_PARTS" = some (some (.int 2 t_LEAST_PARTS)))
    {t_MOST_PARTS : Tok} (i_MOST_PARTS : PySem.W.nsIn K mainGlobals "MOST_PARTS" = some (some (.int 4 t_MOST_PARTS)))
    {t_MAX_NODES : Tok} (i_MAX_NODES : PySem.W.nsIn K mainGlobals "MAX_NODES" = some (some (.int 40 t_MAX_NODES)))
    {t_MAX_FACTS : Tok} (i_MAX_FACTS : PySem.W.nsIn K mainGlobals "MAX_FACTS" = some (some (.int 6 t_MAX_FACTS)))
    {t_MAX_CHOICES : Tok} (i_MAX_CHOICES : PySem.W.nsIn K mainGlobals "MAX_CHOICES" = some (some (.int 10 t_MAX_CHOICES)))
    {t_MAX_DEPTH : Tok} (i_MAX_DEPTH : PySem.W.nsIn K mainGlobals "MAX_DEPTH" = some (some (.int 8 t_MAX_DEPTH)))
    {E_InvalidPromise : Addr} (x1_InvalidPromise : PySem.W.nsIn K mainGlobals "InvalidPromise" = some (some (.ref E_InvalidPromise)))
    (x2_InvalidPromise : PySem.W.excIn K E_InvalidPromise [.type "ValueError", .type "Exception", .type "BaseException", .type "object"] "ValueError.__new__" = true)
    (x3_InvalidPromise : PySem.W.keepIn K (.ref E_InvalidPromise) = true) (x4_InvalidPromise : PySem.W.subIn K (.ref E_InvalidPromise) (.type "BaseException") = some true) (x5_InvalidPromise : PySem.W.typeIn K (.ref E_InvalidPromise) = some (.type "type")) (x6_InvalidPromise : PySem.W.isClsIn K E_InvalidPromise = true) (x7_InvalidPromise : PySem.W.subIn K (.ref E_InvalidPromise) (.ref E_InvalidPromise) = some true)
    {E_InvalidPlace : Addr} (x1_InvalidPlace : PySem.W.nsIn K mainGlobals "InvalidPlace" = some (some (.ref E_InvalidPlace)))
    (x2_InvalidPlace : PySem.W.excIn K E_InvalidPlace [.type "ValueError", .type "Exception", .type "BaseException", .type "object"] "ValueError.__new__" = true)
    (x3_InvalidPlace : PySem.W.keepIn K (.ref E_InvalidPlace) = true) (x4_InvalidPlace : PySem.W.subIn K (.ref E_InvalidPlace) (.type "BaseException") = some true) (x5_InvalidPlace : PySem.W.typeIn K (.ref E_InvalidPlace) = some (.type "type")) (x6_InvalidPlace : PySem.W.isClsIn K E_InvalidPlace = true) (x7_InvalidPlace : PySem.W.subIn K (.ref E_InvalidPlace) (.ref E_InvalidPlace) = some true)
    {C : Addr} (gC : PySem.W.nsIn K mainGlobals "Promise" = some (some (.ref C))) (pg : PySem.W.plainGet K C Str.empty = true) (hd : PySem.W.hasDictIn K C = true) (po : PySem.W.plainOver K C = true) (sa : PySem.W.findIn K (.ref C) "__setattr__" = some (some (.builtin "object.__setattr__"))) (mk : PySem.W.makesIn K C = true) (kc : PySem.W.keepIn K (.ref C) = true) (nN : PySem.W.findIn K (.ref C) "_nodes" = some none)
    {g_Promise___init__ : Addr} (a_Promise___init__ : PySem.W.findIn K (.ref C) "__init__" = some (some (.ref g_Promise___init__))) (i_Promise___init__ : PySem.W.isFn K (.ref g_Promise___init__) = true)
    {od_Promise___init__ an_Promise___init__ : Option Addr} {sl_Promise___init__ : Array (Option Value)} {oc_Promise___init__ kV_Promise___init__ dc_Promise___init__ pm_Promise___init__ ct_Promise___init__ : Value} {cd_Promise___init__ : Value} (l_Promise___init__ : K.lookup g_Promise___init__ = some ⟨oc_Promise___init__, od_Promise___init__, .func (PySem.W.fnOf "__init__" "Promise.__init__" (defArgs s_Promise___init__) (defBody s_Promise___init__) (defScope s_Promise___init__) .none kV_Promise___init__ dc_Promise___init__ pm_Promise___init__ an_Promise___init__ cd_Promise___init__ ct_Promise___init__), sl_Promise___init__⟩) (c_Promise___init__ : PySem.W.codeIn K cd_Promise___init__ "Promise.__init__" = true) (k_Promise___init__ : PySem.W.keepIn K (.ref g_Promise___init__) = true)
    {g_Promise___len__ : Addr} (a_Promise___len__ : PySem.W.findIn K (.ref C) "__len__" = some (some (.ref g_Promise___len__))) (i_Promise___len__ : PySem.W.isFn K (.ref g_Promise___len__) = true)
    {od_Promise___len__ an_Promise___len__ : Option Addr} {sl_Promise___len__ : Array (Option Value)} {oc_Promise___len__ kV_Promise___len__ dc_Promise___len__ pm_Promise___len__ ct_Promise___len__ : Value} {cd_Promise___len__ : Value} (l_Promise___len__ : K.lookup g_Promise___len__ = some ⟨oc_Promise___len__, od_Promise___len__, .func (PySem.W.fnOf "__len__" "Promise.__len__" (defArgs s_Promise___len__) (defBody s_Promise___len__) (defScope s_Promise___len__) .none kV_Promise___len__ dc_Promise___len__ pm_Promise___len__ an_Promise___len__ cd_Promise___len__ ct_Promise___len__), sl_Promise___len__⟩) (c_Promise___len__ : PySem.W.codeIn K cd_Promise___len__ "Promise.__len__" = true) (k_Promise___len__ : PySem.W.keepIn K (.ref g_Promise___len__) = true)
    (ic1 : PySem.W.findIn K (.ref C) "__class__" = some (some (.builtin "object.__class__"))) (ic2 : PySem.W.specialIn K (.builtin "object.__class__") "__get__" = some (some (.builtin "getset_descriptor.__get__"))) (ic3 : PySem.W.takesIn K (.builtin "object.__class__") = some true) (ic4 : PySem.W.mroIn K C (.type "object") = some true) (ic5 : PySem.W.typeIn K (.ref C) = some (.type "type")) (ic6 : PySem.W.isClsIn K C = true)
    (os1 : PySem.W.subIn K (.ref C) (.type "NoneType") = some false) (os2 : PySem.W.subIn K (.ref C) (.type "bool") = some false) (os3 : PySem.W.subIn K (.ref C) (.type "int") = some false) (os4 : PySem.W.subIn K (.ref C) (.type "str") = some false) (os5 : PySem.W.subIn K (.ref C) (.type "tuple") = some false) (os6 : PySem.W.subIn K (.ref C) (.type "dict") = some false)
    {pS : Addr} {nS : Nat} {Sh1 Sh2 Sh3 Sh4 : Int} {St1 Su1 St2 Su2 St3 Su3 St4 Su4 : Tok} (yS1 : PySem.W.nsIn K mainGlobals "SIGNS" = some (some (.ref pS))) (yS2 : K.lookup pS = some ⟨.type "dict", none, .dict #[⟨Sh1, .str "all" St1, .str " & " Su1⟩, ⟨Sh2, .str "mine" St2, .str " + " Su2⟩, ⟨Sh3, .str "some" St3, .str " | " Su3⟩, ⟨Sh4, .str "yours" St4, .str " * " Su4⟩] nS, #[]⟩)
    (yS3 : PySem.W.KeysLit w.params [⟨Sh1, .str "all" St1, .str " & " Su1⟩, ⟨Sh2, .str "mine" St2, .str " + " Su2⟩, ⟨Sh3, .str "some" St3, .str " | " Su3⟩, ⟨Sh4, .str "yours" St4, .str " * " Su4⟩])
    (yS4 : (pS == sysModules) = false)
    {pD : Addr} {nD : Nat} {Dh1 Dh2 Dh3 Dh4 : Int} {Dt1 Du1 Dt2 Du2 Dt3 Du3 Dt4 Du4 : Tok} (yD1 : PySem.W.nsIn K mainGlobals "SIGNED" = some (some (.ref pD))) (yD2 : K.lookup pD = some ⟨.type "dict", none, .dict #[⟨Dh1, .str "&" Dt1, .str "all" Du1⟩, ⟨Dh2, .str "+" Dt2, .str "mine" Du2⟩, ⟨Dh3, .str "|" Dt3, .str "some" Du3⟩, ⟨Dh4, .str "*" Dt4, .str "yours" Du4⟩] nD, #[]⟩)
    (yD3 : PySem.W.KeysLit w.params [⟨Dh1, .str "&" Dt1, .str "all" Du1⟩, ⟨Dh2, .str "+" Dt2, .str "mine" Du2⟩, ⟨Dh3, .str "|" Dt3, .str "some" Du3⟩, ⟨Dh4, .str "*" Dt4, .str "yours" Du4⟩])
    (yD4 : (pD == sysModules) = false)
    {pW : Addr} {oW : Option Addr} {nW : Nat} {sW : Array (Option Value)} {tW0 tW1 : Tok} (yW1 : PySem.W.nsIn K mainGlobals "OPEN" = some (some (.ref pW))) (yW2 : K.lookup pW = some ⟨.type "tuple", oW, .seq #[.str "all" tW0, .str "some" tW1] nW, sW⟩)
    {pL : Addr} {oL : Option Addr} {nL : Nat} {sL : Array (Option Value)} {tL0 tL1 tL2 tL3 : Tok} (yL1 : PySem.W.nsIn K mainGlobals "PLAIN" = some (some (.ref pL))) (yL2 : K.lookup pL = some ⟨.type "tuple", oL, .seq #[.str "fact" tL0, .str "no" tL1, .str "not" tL2, .str "yes" tL3] nL, sL⟩)
    (hNe : PySem.W.findIn K (.ref C) "__ne__" = some (some (.builtin "object.__ne__")))
    {CS : Addr} (gS : PySem.W.nsIn K mainGlobals "Surface" = some (some (.ref CS))) (pgS : PySem.W.plainGet K CS Str.empty = true) (hdS : PySem.W.hasDictIn K CS = true) (poS : PySem.W.plainOver K CS = true) (saS : PySem.W.findIn K (.ref CS) "__setattr__" = some (some (.builtin "object.__setattr__"))) (mkS : PySem.W.makesIn K CS = true) (kcS : PySem.W.keepIn K (.ref CS) = true) (npS : PySem.W.findIn K (.ref CS) "_places" = some none) (nqS : PySem.W.findIn K (.ref CS) "_promise" = some none)
    {g_Surface___init__ : Addr} (a_Surface___init__ : PySem.W.findIn K (.ref CS) "__init__" = some (some (.ref g_Surface___init__))) (i_Surface___init__ : PySem.W.isFn K (.ref g_Surface___init__) = true)
    {od_Surface___init__ an_Surface___init__ : Option Addr} {sl_Surface___init__ : Array (Option Value)} {oc_Surface___init__ kV_Surface___init__ dc_Surface___init__ pm_Surface___init__ ct_Surface___init__ : Value} {cd_Surface___init__ : Value} (l_Surface___init__ : K.lookup g_Surface___init__ = some ⟨oc_Surface___init__, od_Surface___init__, .func (PySem.W.fnOf "__init__" "Surface.__init__" (defArgs s_Surface___init__) (defBody s_Surface___init__) (defScope s_Surface___init__) .none kV_Surface___init__ dc_Surface___init__ pm_Surface___init__ an_Surface___init__ cd_Surface___init__ ct_Surface___init__), sl_Surface___init__⟩) (c_Surface___init__ : PySem.W.codeIn K cd_Surface___init__ "Surface.__init__" = true) (k_Surface___init__ : PySem.W.keepIn K (.ref g_Surface___init__) = true)
    (jc1 : PySem.W.findIn K (.ref CS) "__class__" = some (some (.builtin "object.__class__"))) (jc4 : PySem.W.mroIn K CS (.type "object") = some true) (jc5 : PySem.W.typeIn K (.ref CS) = some (.type "type")) (jc6 : PySem.W.isClsIn K CS = true) (hNeS : PySem.W.findIn K (.ref CS) "__ne__" = some (some (.builtin "object.__ne__"))) (hsub : PySem.W.subIn K (.ref C) (.ref CS) = some false)
    (nCS : (C == CS) = false)
    {f__law_roll : Addr} (a__law_roll : PySem.W.nsIn K mainGlobals "_law_roll" = some (some (.ref f__law_roll)))
    {od__law_roll an__law_roll : Option Addr} {sl__law_roll : Array (Option Value)} {oc__law_roll kV__law_roll dc__law_roll pm__law_roll ct__law_roll : Value} {cd__law_roll : Value} (l__law_roll : K.lookup f__law_roll = some ⟨oc__law_roll, od__law_roll, .func (PySem.W.fnOf "_law_roll" "_law_roll" (defArgs s__law_roll) (defBody s__law_roll) (defScope s__law_roll) .none kV__law_roll dc__law_roll pm__law_roll an__law_roll cd__law_roll ct__law_roll), sl__law_roll⟩) (c__law_roll : PySem.W.codeIn K cd__law_roll "_law_roll" = true) (k__law_roll : PySem.W.keepIn K (.ref f__law_roll) = true)
    {f__law_pick : Addr} (a__law_pick : PySem.W.nsIn K mainGlobals "_law_pick" = some (some (.ref f__law_pick)))
    {od__law_pick an__law_pick : Option Addr} {sl__law_pick : Array (Option Value)} {oc__law_pick kV__law_pick dc__law_pick pm__law_pick ct__law_pick : Value} {cd__law_pick : Value} (l__law_pick : K.lookup f__law_pick = some ⟨oc__law_pick, od__law_pick, .func (PySem.W.fnOf "_law_pick" "_law_pick" (defArgs s__law_pick) (defBody s__law_pick) (defScope s__law_pick) .none kV__law_pick dc__law_pick pm__law_pick an__law_pick cd__law_pick ct__law_pick), sl__law_pick⟩) (c__law_pick : PySem.W.codeIn K cd__law_pick "_law_pick" = true) (k__law_pick : PySem.W.keepIn K (.ref f__law_pick) = true)
    {f__law_some : Addr} (a__law_some : PySem.W.nsIn K mainGlobals "_law_some" = some (some (.ref f__law_some)))
    {od__law_some an__law_some : Option Addr} {sl__law_some : Array (Option Value)} {oc__law_some kV__law_some dc__law_some pm__law_some ct__law_some : Value} {cd__law_some : Value} (l__law_some : K.lookup f__law_some = some ⟨oc__law_some, od__law_some, .func (PySem.W.fnOf "_law_some" "_law_some" (defArgs s__law_some) (defBody s__law_some) (defScope s__law_some) .none kV__law_some dc__law_some pm__law_some an__law_some cd__law_some ct__law_some), sl__law_some⟩) (c__law_some : PySem.W.codeIn K cd__law_some "_law_some" = true) (k__law_some : PySem.W.keepIn K (.ref f__law_some) = true)
    {f__law_dice : Addr} (a__law_dice : PySem.W.nsIn K mainGlobals "_law_dice" = some (some (.ref f__law_dice)))
    {od__law_dice an__law_dice : Option Addr} {sl__law_dice : Array (Option Value)} {oc__law_dice kV__law_dice dc__law_dice pm__law_dice ct__law_dice : Value} {cd__law_dice : Value} (l__law_dice : K.lookup f__law_dice = some ⟨oc__law_dice, od__law_dice, .func (PySem.W.fnOf "_law_dice" "_law_dice" (defArgs s__law_dice) (defBody s__law_dice) (defScope s__law_dice) .none kV__law_dice dc__law_dice pm__law_dice an__law_dice cd__law_dice ct__law_dice), sl__law_dice⟩) (c__law_dice : PySem.W.codeIn K cd__law_dice "_law_dice" = true) (k__law_dice : PySem.W.keepIn K (.ref f__law_dice) = true)
    {f_is_integer : Addr} (a_is_integer : PySem.W.nsIn K mainGlobals "is_integer" = some (some (.ref f_is_integer)))
    {od_is_integer an_is_integer : Option Addr} {sl_is_integer : Array (Option Value)} {oc_is_integer kV_is_integer dc_is_integer pm_is_integer ct_is_integer : Value} {cd_is_integer : Value} (l_is_integer : K.lookup f_is_integer = some ⟨oc_is_integer, od_is_integer, .func (PySem.W.fnOf "is_integer" "is_integer" (defArgs s_is_integer) (defBody s_is_integer) (defScope s_is_integer) .none kV_is_integer dc_is_integer pm_is_integer an_is_integer cd_is_integer ct_is_integer), sl_is_integer⟩) (c_is_integer : PySem.W.codeIn K cd_is_integer "is_integer" = true) (k_is_integer : PySem.W.keepIn K (.ref f_is_integer) = true)
    {f_is_fact : Addr} (a_is_fact : PySem.W.nsIn K mainGlobals "is_fact" = some (some (.ref f_is_fact)))
    {od_is_fact an_is_fact : Option Addr} {sl_is_fact : Array (Option Value)} {oc_is_fact kV_is_fact dc_is_fact pm_is_fact ct_is_fact : Value} {cd_is_fact : Value} (l_is_fact : K.lookup f_is_fact = some ⟨oc_is_fact, od_is_fact, .func (PySem.W.fnOf "is_fact" "is_fact" (defArgs s_is_fact) (defBody s_is_fact) (defScope s_is_fact) .none kV_is_fact dc_is_fact pm_is_fact an_is_fact cd_is_fact ct_is_fact), sl_is_fact⟩) (c_is_fact : PySem.W.codeIn K cd_is_fact "is_fact" = true) (k_is_fact : PySem.W.keepIn K (.ref f_is_fact) = true)
    {f_is_node : Addr} (a_is_node : PySem.W.nsIn K mainGlobals "is_node" = some (some (.ref f_is_node)))
    {od_is_node an_is_node : Option Addr} {sl_is_node : Array (Option Value)} {oc_is_node kV_is_node dc_is_node pm_is_node ct_is_node : Value} {cd_is_node : Value} (l_is_node : K.lookup f_is_node = some ⟨oc_is_node, od_is_node, .func (PySem.W.fnOf "is_node" "is_node" (defArgs s_is_node) (defBody s_is_node) (defScope s_is_node) .none kV_is_node dc_is_node pm_is_node an_is_node cd_is_node ct_is_node), sl_is_node⟩) (c_is_node : PySem.W.codeIn K cd_is_node "is_node" = true) (k_is_node : PySem.W.keepIn K (.ref f_is_node) = true)
    {f_depth_of : Addr} (a_depth_of : PySem.W.nsIn K mainGlobals "depth_of" = some (some (.ref f_depth_of)))
    {od_depth_of an_depth_of : Option Addr} {sl_depth_of : Array (Option Value)} {oc_depth_of kV_depth_of dc_depth_of pm_depth_of ct_depth_of : Value} {cd_depth_of : Value} (l_depth_of : K.lookup f_depth_of = some ⟨oc_depth_of, od_depth_of, .func (PySem.W.fnOf "depth_of" "depth_of" (defArgs s_depth_of) (defBody s_depth_of) (defScope s_depth_of) .none kV_depth_of dc_depth_of pm_depth_of an_depth_of cd_depth_of ct_depth_of), sl_depth_of⟩) (c_depth_of : PySem.W.codeIn K cd_depth_of "depth_of" = true) (k_depth_of : PySem.W.keepIn K (.ref f_depth_of) = true)
    {f_facts_of : Addr} (a_facts_of : PySem.W.nsIn K mainGlobals "facts_of" = some (some (.ref f_facts_of)))
    {od_facts_of an_facts_of : Option Addr} {sl_facts_of : Array (Option Value)} {oc_facts_of kV_facts_of dc_facts_of pm_facts_of ct_facts_of : Value} {cd_facts_of : Value} (l_facts_of : K.lookup f_facts_of = some ⟨oc_facts_of, od_facts_of, .func (PySem.W.fnOf "facts_of" "facts_of" (defArgs s_facts_of) (defBody s_facts_of) (defScope s_facts_of) .none kV_facts_of dc_facts_of pm_facts_of an_facts_of cd_facts_of ct_facts_of), sl_facts_of⟩) (c_facts_of : PySem.W.codeIn K cd_facts_of "facts_of" = true) (k_facts_of : PySem.W.keepIn K (.ref f_facts_of) = true)
    {f_choices_of : Addr} (a_choices_of : PySem.W.nsIn K mainGlobals "choices_of" = some (some (.ref f_choices_of)))
    {od_choices_of an_choices_of : Option Addr} {sl_choices_of : Array (Option Value)} {oc_choices_of kV_choices_of dc_choices_of pm_choices_of ct_choices_of : Value} {cd_choices_of : Value} (l_choices_of : K.lookup f_choices_of = some ⟨oc_choices_of, od_choices_of, .func (PySem.W.fnOf "choices_of" "choices_of" (defArgs s_choices_of) (defBody s_choices_of) (defScope s_choices_of) .none kV_choices_of dc_choices_of pm_choices_of an_choices_of cd_choices_of ct_choices_of), sl_choices_of⟩) (c_choices_of : PySem.W.codeIn K cd_choices_of "choices_of" = true) (k_choices_of : PySem.W.keepIn K (.ref f_choices_of) = true)
    {f__are_nodes : Addr} (a__are_nodes : PySem.W.nsIn K mainGlobals "_are_nodes" = some (some (.ref f__are_nodes)))
    {od__are_nodes an__are_nodes : Option Addr} {sl__are_nodes : Array (Option Value)} {oc__are_nodes kV__are_nodes dc__are_nodes pm__are_nodes ct__are_nodes : Value} {cd__are_nodes : Value} (l__are_nodes : K.lookup f__are_nodes = some ⟨oc__are_nodes, od__are_nodes, .func (PySem.W.fnOf "_are_nodes" "_are_nodes" (defArgs s__are_nodes) (defBody s__are_nodes) (defScope s__are_nodes) .none kV__are_nodes dc__are_nodes pm__are_nodes an__are_nodes cd__are_nodes ct__are_nodes), sl__are_nodes⟩) (c__are_nodes : PySem.W.codeIn K cd__are_nodes "_are_nodes" = true) (k__are_nodes : PySem.W.keepIn K (.ref f__are_nodes) = true)
    {f__law_is_leaf : Addr} (a__law_is_leaf : PySem.W.nsIn K mainGlobals "_law_is_leaf" = some (some (.ref f__law_is_leaf)))
    {od__law_is_leaf an__law_is_leaf : Option Addr} {sl__law_is_leaf : Array (Option Value)} {oc__law_is_leaf kV__law_is_leaf dc__law_is_leaf pm__law_is_leaf ct__law_is_leaf : Value} {cd__law_is_leaf : Value} (l__law_is_leaf : K.lookup f__law_is_leaf = some ⟨oc__law_is_leaf, od__law_is_leaf, .func (PySem.W.fnOf "_law_is_leaf" "_law_is_leaf" (defArgs s__law_is_leaf) (defBody s__law_is_leaf) (defScope s__law_is_leaf) .none kV__law_is_leaf dc__law_is_leaf pm__law_is_leaf an__law_is_leaf cd__law_is_leaf ct__law_is_leaf), sl__law_is_leaf⟩) (c__law_is_leaf : PySem.W.codeIn K cd__law_is_leaf "_law_is_leaf" = true) (k__law_is_leaf : PySem.W.keepIn K (.ref f__law_is_leaf) = true)
    {f__law_leaf : Addr} (a__law_leaf : PySem.W.nsIn K mainGlobals "_law_leaf" = some (some (.ref f__law_leaf)))
    {od__law_leaf an__law_leaf : Option Addr} {sl__law_leaf : Array (Option Value)} {oc__law_leaf kV__law_leaf dc__law_leaf pm__law_leaf ct__law_leaf : Value} {cd__law_leaf : Value} (l__law_leaf : K.lookup f__law_leaf = some ⟨oc__law_leaf, od__law_leaf, .func (PySem.W.fnOf "_law_leaf" "_law_leaf" (defArgs s__law_leaf) (defBody s__law_leaf) (defScope s__law_leaf) .none kV__law_leaf dc__law_leaf pm__law_leaf an__law_leaf cd__law_leaf ct__law_leaf), sl__law_leaf⟩) (c__law_leaf : PySem.W.codeIn K cd__law_leaf "_law_leaf" = true) (k__law_leaf : PySem.W.keepIn K (.ref f__law_leaf) = true)
    {f__law_nodes : Addr} (a__law_nodes : PySem.W.nsIn K mainGlobals "_law_nodes" = some (some (.ref f__law_nodes)))
    {od__law_nodes an__law_nodes : Option Addr} {sl__law_nodes : Array (Option Value)} {oc__law_nodes kV__law_nodes dc__law_nodes pm__law_nodes ct__law_nodes : Value} {cd__law_nodes : Value} (l__law_nodes : K.lookup f__law_nodes = some ⟨oc__law_nodes, od__law_nodes, .func (PySem.W.fnOf "_law_nodes" "_law_nodes" (defArgs s__law_nodes) (defBody s__law_nodes) (defScope s__law_nodes) .none kV__law_nodes dc__law_nodes pm__law_nodes an__law_nodes cd__law_nodes ct__law_nodes), sl__law_nodes⟩) (c__law_nodes : PySem.W.codeIn K cd__law_nodes "_law_nodes" = true) (k__law_nodes : PySem.W.keepIn K (.ref f__law_nodes) = true)
    {f__law_count : Addr} (a__law_count : PySem.W.nsIn K mainGlobals "_law_count" = some (some (.ref f__law_count)))
    {od__law_count an__law_count : Option Addr} {sl__law_count : Array (Option Value)} {oc__law_count kV__law_count dc__law_count pm__law_count ct__law_count : Value} {cd__law_count : Value} (l__law_count : K.lookup f__law_count = some ⟨oc__law_count, od__law_count, .func (PySem.W.fnOf "_law_count" "_law_count" (defArgs s__law_count) (defBody s__law_count) (defScope s__law_count) .none kV__law_count dc__law_count pm__law_count an__law_count cd__law_count ct__law_count), sl__law_count⟩) (c__law_count : PySem.W.codeIn K cd__law_count "_law_count" = true) (k__law_count : PySem.W.keepIn K (.ref f__law_count) = true)
    {f__law_drawn : Addr} (a__law_drawn : PySem.W.nsIn K mainGlobals "_law_drawn" = some (some (.ref f__law_drawn)))
    {od__law_drawn an__law_drawn : Option Addr} {sl__law_drawn : Array (Option Value)} {oc__law_drawn kV__law_drawn dc__law_drawn pm__law_drawn ct__law_drawn : Value} {cd__law_drawn : Value} (l__law_drawn : K.lookup f__law_drawn = some ⟨oc__law_drawn, od__law_drawn, .func (PySem.W.fnOf "_law_drawn" "_law_drawn" (defArgs s__law_drawn) (defBody s__law_drawn) (defScope s__law_drawn) .none kV__law_drawn dc__law_drawn pm__law_drawn an__law_drawn cd__law_drawn ct__law_drawn), sl__law_drawn⟩) (c__law_drawn : PySem.W.codeIn K cd__law_drawn "_law_drawn" = true) (k__law_drawn : PySem.W.keepIn K (.ref f__law_drawn) = true)
    {f__law_known : Addr} (a__law_known : PySem.W.nsIn K mainGlobals "_law_known" = some (some (.ref f__law_known)))
    {od__law_known an__law_known : Option Addr} {sl__law_known : Array (Option Value)} {oc__law_known kV__law_known dc__law_known pm__law_known ct__law_known : Value} {cd__law_known : Value} (l__law_known : K.lookup f__law_known = some ⟨oc__law_known, od__law_known, .func (PySem.W.fnOf "_law_known" "_law_known" (defArgs s__law_known) (defBody s__law_known) (defScope s__law_known) .none kV__law_known dc__law_known pm__law_known an__law_known cd__law_known ct__law_known), sl__law_known⟩) (c__law_known : PySem.W.codeIn K cd__law_known "_law_known" = true) (k__law_known : PySem.W.keepIn K (.ref f__law_known) = true)
    {f__law_promise : Addr} (a__law_promise : PySem.W.nsIn K mainGlobals "_law_promise" = some (some (.ref f__law_promise)))
    {od__law_promise an__law_promise : Option Addr} {sl__law_promise : Array (Option Value)} {oc__law_promise kV__law_promise dc__law_promise pm__law_promise ct__law_promise : Value} {cd__law_promise : Value} (l__law_promise : K.lookup f__law_promise = some ⟨oc__law_promise, od__law_promise, .func (PySem.W.fnOf "_law_promise" "_law_promise" (defArgs s__law_promise) (defBody s__law_promise) (defScope s__law_promise) .none kV__law_promise dc__law_promise pm__law_promise an__law_promise cd__law_promise ct__law_promise), sl__law_promise⟩) (c__law_promise : PySem.W.codeIn K cd__law_promise "_law_promise" = true) (k__law_promise : PySem.W.keepIn K (.ref f__law_promise) = true)
    {f__law_facts : Addr} (a__law_facts : PySem.W.nsIn K mainGlobals "_law_facts" = some (some (.ref f__law_facts)))
    {od__law_facts an__law_facts : Option Addr} {sl__law_facts : Array (Option Value)} {oc__law_facts kV__law_facts dc__law_facts pm__law_facts ct__law_facts : Value} {cd__law_facts : Value} (l__law_facts : K.lookup f__law_facts = some ⟨oc__law_facts, od__law_facts, .func (PySem.W.fnOf "_law_facts" "_law_facts" (defArgs s__law_facts) (defBody s__law_facts) (defScope s__law_facts) .none kV__law_facts dc__law_facts pm__law_facts an__law_facts cd__law_facts ct__law_facts), sl__law_facts⟩) (c__law_facts : PySem.W.codeIn K cd__law_facts "_law_facts" = true) (k__law_facts : PySem.W.keepIn K (.ref f__law_facts) = true)
    {f__law_depth : Addr} (a__law_depth : PySem.W.nsIn K mainGlobals "_law_depth" = some (some (.ref f__law_depth)))
    {od__law_depth an__law_depth : Option Addr} {sl__law_depth : Array (Option Value)} {oc__law_depth kV__law_depth dc__law_depth pm__law_depth ct__law_depth : Value} {cd__law_depth : Value} (l__law_depth : K.lookup f__law_depth = some ⟨oc__law_depth, od__law_depth, .func (PySem.W.fnOf "_law_depth" "_law_depth" (defArgs s__law_depth) (defBody s__law_depth) (defScope s__law_depth) .none kV__law_depth dc__law_depth pm__law_depth an__law_depth cd__law_depth ct__law_depth), sl__law_depth⟩) (c__law_depth : PySem.W.codeIn K cd__law_depth "_law_depth" = true) (k__law_depth : PySem.W.keepIn K (.ref f__law_depth) = true)
    {f_is_index : Addr} (a_is_index : PySem.W.nsIn K mainGlobals "is_index" = some (some (.ref f_is_index)))
    {od_is_index an_is_index : Option Addr} {sl_is_index : Array (Option Value)} {oc_is_index kV_is_index dc_is_index pm_is_index ct_is_index : Value} {cd_is_index : Value} (l_is_index : K.lookup f_is_index = some ⟨oc_is_index, od_is_index, .func (PySem.W.fnOf "is_index" "is_index" (defArgs s_is_index) (defBody s_is_index) (defScope s_is_index) .none kV_is_index dc_is_index pm_is_index an_is_index cd_is_index ct_is_index), sl_is_index⟩) (c_is_index : PySem.W.codeIn K cd_is_index "is_index" = true) (k_is_index : PySem.W.keepIn K (.ref f_is_index) = true)
    {f_plain_text : Addr} (a_plain_text : PySem.W.nsIn K mainGlobals "plain_text" = some (some (.ref f_plain_text)))
    {od_plain_text an_plain_text : Option Addr} {sl_plain_text : Array (Option Value)} {oc_plain_text kV_plain_text dc_plain_text pm_plain_text ct_plain_text : Value} {cd_plain_text : Value} (l_plain_text : K.lookup f_plain_text = some ⟨oc_plain_text, od_plain_text, .func (PySem.W.fnOf "plain_text" "plain_text" (defArgs s_plain_text) (defBody s_plain_text) (defScope s_plain_text) .none kV_plain_text dc_plain_text pm_plain_text an_plain_text cd_plain_text ct_plain_text), sl_plain_text⟩) (c_plain_text : PySem.W.codeIn K cd_plain_text "plain_text" = true) (k_plain_text : PySem.W.keepIn K (.ref f_plain_text) = true)
    {f_bracketed : Addr} (a_bracketed : PySem.W.nsIn K mainGlobals "bracketed" = some (some (.ref f_bracketed)))
    {od_bracketed an_bracketed : Option Addr} {sl_bracketed : Array (Option Value)} {oc_bracketed kV_bracketed dc_bracketed pm_bracketed ct_bracketed : Value} {cd_bracketed : Value} (l_bracketed : K.lookup f_bracketed = some ⟨oc_bracketed, od_bracketed, .func (PySem.W.fnOf "bracketed" "bracketed" (defArgs s_bracketed) (defBody s_bracketed) (defScope s_bracketed) .none kV_bracketed dc_bracketed pm_bracketed an_bracketed cd_bracketed ct_bracketed), sl_bracketed⟩) (c_bracketed : PySem.W.codeIn K cd_bracketed "bracketed" = true) (k_bracketed : PySem.W.keepIn K (.ref f_bracketed) = true)
    {f_text_of : Addr} (a_text_of : PySem.W.nsIn K mainGlobals "text_of" = some (some (.ref f_text_of)))
    {od_text_of an_text_of : Option Addr} {sl_text_of : Array (Option Value)} {oc_text_of kV_text_of dc_text_of pm_text_of ct_text_of : Value} {cd_text_of : Value} (l_text_of : K.lookup f_text_of = some ⟨oc_text_of, od_text_of, .func (PySem.W.fnOf "text_of" "text_of" (defArgs s_text_of) (defBody s_text_of) (defScope s_text_of) .none kV_text_of dc_text_of pm_text_of an_text_of cd_text_of ct_text_of), sl_text_of⟩) (c_text_of : PySem.W.codeIn K cd_text_of "text_of" = true) (k_text_of : PySem.W.keepIn K (.ref f_text_of) = true)
    {f__split : Addr} (a__split : PySem.W.nsIn K mainGlobals "_split" = some (some (.ref f__split)))
    {od__split an__split : Option Addr} {sl__split : Array (Option Value)} {oc__split kV__split dc__split pm__split ct__split : Value} {cd__split : Value} (l__split : K.lookup f__split = some ⟨oc__split, od__split, .func (PySem.W.fnOf "_split" "_split" (defArgs s__split) (defBody s__split) (defScope s__split) .none kV__split dc__split pm__split an__split cd__split ct__split), sl__split⟩) (c__split : PySem.W.codeIn K cd__split "_split" = true) (k__split : PySem.W.keepIn K (.ref f__split) = true)
    {f__plain_node : Addr} (a__plain_node : PySem.W.nsIn K mainGlobals "_plain_node" = some (some (.ref f__plain_node)))
    {od__plain_node an__plain_node : Option Addr} {sl__plain_node : Array (Option Value)} {oc__plain_node kV__plain_node dc__plain_node pm__plain_node ct__plain_node : Value} {cd__plain_node : Value} (l__plain_node : K.lookup f__plain_node = some ⟨oc__plain_node, od__plain_node, .func (PySem.W.fnOf "_plain_node" "_plain_node" (defArgs s__plain_node) (defBody s__plain_node) (defScope s__plain_node) .none kV__plain_node dc__plain_node pm__plain_node an__plain_node cd__plain_node ct__plain_node), sl__plain_node⟩) (c__plain_node : PySem.W.codeIn K cd__plain_node "_plain_node" = true) (k__plain_node : PySem.W.keepIn K (.ref f__plain_node) = true)
    {f_nodes_in : Addr} (a_nodes_in : PySem.W.nsIn K mainGlobals "nodes_in" = some (some (.ref f_nodes_in)))
    {od_nodes_in an_nodes_in : Option Addr} {sl_nodes_in : Array (Option Value)} {oc_nodes_in kV_nodes_in dc_nodes_in pm_nodes_in ct_nodes_in : Value} {cd_nodes_in : Value} (l_nodes_in : K.lookup f_nodes_in = some ⟨oc_nodes_in, od_nodes_in, .func (PySem.W.fnOf "nodes_in" "nodes_in" (defArgs s_nodes_in) (defBody s_nodes_in) (defScope s_nodes_in) .none kV_nodes_in dc_nodes_in pm_nodes_in an_nodes_in cd_nodes_in ct_nodes_in), sl_nodes_in⟩) (c_nodes_in : PySem.W.codeIn K cd_nodes_in "nodes_in" = true) (k_nodes_in : PySem.W.keepIn K (.ref f_nodes_in) = true)
    {f_end_of : Addr} (a_end_of : PySem.W.nsIn K mainGlobals "end_of" = some (some (.ref f_end_of)))
    {od_end_of an_end_of : Option Addr} {sl_end_of : Array (Option Value)} {oc_end_of kV_end_of dc_end_of pm_end_of ct_end_of : Value} {cd_end_of : Value} (l_end_of : K.lookup f_end_of = some ⟨oc_end_of, od_end_of, .func (PySem.W.fnOf "end_of" "end_of" (defArgs s_end_of) (defBody s_end_of) (defScope s_end_of) .none kV_end_of dc_end_of pm_end_of an_end_of cd_end_of ct_end_of), sl_end_of⟩) (c_end_of : PySem.W.codeIn K cd_end_of "end_of" = true) (k_end_of : PySem.W.keepIn K (.ref f_end_of) = true)
    {q_Promise_nodes g_Promise_nodes : Addr} {r_Promise_nodes : List Value} (a_Promise_nodes : PySem.W.findIn K (.ref C) "nodes" = some (some (.ref q_Promise_nodes))) (e_Promise_nodes : PySem.W.specialIn K (.ref q_Promise_nodes) "__get__" = some (some (.builtin "property.__get__"))) (t_Promise_nodes : PySem.W.takesIn K (.ref q_Promise_nodes) = some true) (w_Promise_nodes : PySem.W.recIn K q_Promise_nodes "property" = some (.ref g_Promise_nodes :: r_Promise_nodes))
    {od_Promise_nodes an_Promise_nodes : Option Addr} {sl_Promise_nodes : Array (Option Value)} {oc_Promise_nodes kV_Promise_nodes dc_Promise_nodes pm_Promise_nodes ct_Promise_nodes : Value} {cd_Promise_nodes : Value} (l_Promise_nodes : K.lookup g_Promise_nodes = some ⟨oc_Promise_nodes, od_Promise_nodes, .func (PySem.W.fnOf "nodes" "Promise.nodes" (defArgs s_Promise_nodes) (defBody s_Promise_nodes) (defScope s_Promise_nodes) .none kV_Promise_nodes dc_Promise_nodes pm_Promise_nodes an_Promise_nodes cd_Promise_nodes ct_Promise_nodes), sl_Promise_nodes⟩) (c_Promise_nodes : PySem.W.codeIn K cd_Promise_nodes "Promise.nodes" = true) (k_Promise_nodes : PySem.W.keepIn K (.ref g_Promise_nodes) = true)
    {g_Promise___eq__ : Addr} (a_Promise___eq__ : PySem.W.findIn K (.ref C) "__eq__" = some (some (.ref g_Promise___eq__))) (i_Promise___eq__ : PySem.W.isFn K (.ref g_Promise___eq__) = true)
    {od_Promise___eq__ an_Promise___eq__ : Option Addr} {sl_Promise___eq__ : Array (Option Value)} {oc_Promise___eq__ kV_Promise___eq__ dc_Promise___eq__ pm_Promise___eq__ ct_Promise___eq__ : Value} {cd_Promise___eq__ : Value} (l_Promise___eq__ : K.lookup g_Promise___eq__ = some ⟨oc_Promise___eq__, od_Promise___eq__, .func (PySem.W.fnOf "__eq__" "Promise.__eq__" (defArgs s_Promise___eq__) (defBody s_Promise___eq__) (defScope s_Promise___eq__) .none kV_Promise___eq__ dc_Promise___eq__ pm_Promise___eq__ an_Promise___eq__ cd_Promise___eq__ ct_Promise___eq__), sl_Promise___eq__⟩) (c_Promise___eq__ : PySem.W.codeIn K cd_Promise___eq__ "Promise.__eq__" = true) (k_Promise___eq__ : PySem.W.keepIn K (.ref g_Promise___eq__) = true)
    {f__start_along : Addr} (a__start_along : PySem.W.nsIn K mainGlobals "_start_along" = some (some (.ref f__start_along)))
    {od__start_along an__start_along : Option Addr} {sl__start_along : Array (Option Value)} {oc__start_along kV__start_along dc__start_along pm__start_along ct__start_along : Value} {cd__start_along : Value} (l__start_along : K.lookup f__start_along = some ⟨oc__start_along, od__start_along, .func (PySem.W.fnOf "_start_along" "_start_along" (defArgs s__start_along) (defBody s__start_along) (defScope s__start_along) .none kV__start_along dc__start_along pm__start_along an__start_along cd__start_along ct__start_along), sl__start_along⟩) (c__start_along : PySem.W.codeIn K cd__start_along "_start_along" = true) (k__start_along : PySem.W.keepIn K (.ref f__start_along) = true)
    {f_part_from : Addr} (a_part_from : PySem.W.nsIn K mainGlobals "part_from" = some (some (.ref f_part_from)))
    {od_part_from an_part_from : Option Addr} {sl_part_from : Array (Option Value)} {oc_part_from kV_part_from dc_part_from pm_part_from ct_part_from : Value} {cd_part_from : Value} (l_part_from : K.lookup f_part_from = some ⟨oc_part_from, od_part_from, .func (PySem.W.fnOf "part_from" "part_from" (defArgs s_part_from) (defBody s_part_from) (defScope s_part_from) .none kV_part_from dc_part_from pm_part_from an_part_from cd_part_from ct_part_from), sl_part_from⟩) (c_part_from : PySem.W.codeIn K cd_part_from "part_from" = true) (k_part_from : PySem.W.keepIn K (.ref f_part_from) = true)
    {f_exchanged_from : Addr} (a_exchanged_from : PySem.W.nsIn K mainGlobals "exchanged_from" = some (some (.ref f_exchanged_from)))
    {od_exchanged_from an_exchanged_from : Option Addr} {sl_exchanged_from : Array (Option Value)} {oc_exchanged_from kV_exchanged_from dc_exchanged_from pm_exchanged_from ct_exchanged_from : Value} {cd_exchanged_from : Value} (l_exchanged_from : K.lookup f_exchanged_from = some ⟨oc_exchanged_from, od_exchanged_from, .func (PySem.W.fnOf "exchanged_from" "exchanged_from" (defArgs s_exchanged_from) (defBody s_exchanged_from) (defScope s_exchanged_from) .none kV_exchanged_from dc_exchanged_from pm_exchanged_from an_exchanged_from cd_exchanged_from ct_exchanged_from), sl_exchanged_from⟩) (c_exchanged_from : PySem.W.codeIn K cd_exchanged_from "exchanged_from" = true) (k_exchanged_from : PySem.W.keepIn K (.ref f_exchanged_from) = true)
    {f__paths_along : Addr} (a__paths_along : PySem.W.nsIn K mainGlobals "_paths_along" = some (some (.ref f__paths_along)))
    {od__paths_along an__paths_along : Option Addr} {sl__paths_along : Array (Option Value)} {oc__paths_along kV__paths_along dc__paths_along pm__paths_along ct__paths_along : Value} {cd__paths_along : Value} (l__paths_along : K.lookup f__paths_along = some ⟨oc__paths_along, od__paths_along, .func (PySem.W.fnOf "_paths_along" "_paths_along" (defArgs s__paths_along) (defBody s__paths_along) (defScope s__paths_along) .none kV__paths_along dc__paths_along pm__paths_along an__paths_along cd__paths_along ct__paths_along), sl__paths_along⟩) (c__paths_along : PySem.W.codeIn K cd__paths_along "_paths_along" = true) (k__paths_along : PySem.W.keepIn K (.ref f__paths_along) = true)
    {f_start_at : Addr} (a_start_at : PySem.W.nsIn K mainGlobals "start_at" = some (some (.ref f_start_at)))
    {od_start_at an_start_at : Option Addr} {sl_start_at : Array (Option Value)} {oc_start_at kV_start_at dc_start_at pm_start_at ct_start_at : Value} {cd_start_at : Value} (l_start_at : K.lookup f_start_at = some ⟨oc_start_at, od_start_at, .func (PySem.W.fnOf "start_at" "start_at" (defArgs s_start_at) (defBody s_start_at) (defScope s_start_at) .none kV_start_at dc_start_at pm_start_at an_start_at cd_start_at ct_start_at), sl_start_at⟩) (c_start_at : PySem.W.codeIn K cd_start_at "start_at" = true) (k_start_at : PySem.W.keepIn K (.ref f_start_at) = true)
    {f_surface_of : Addr} (a_surface_of : PySem.W.nsIn K mainGlobals "surface_of" = some (some (.ref f_surface_of)))
    {od_surface_of an_surface_of : Option Addr} {sl_surface_of : Array (Option Value)} {oc_surface_of kV_surface_of dc_surface_of pm_surface_of ct_surface_of : Value} {cd_surface_of : Value} (l_surface_of : K.lookup f_surface_of = some ⟨oc_surface_of, od_surface_of, .func (PySem.W.fnOf "surface_of" "surface_of" (defArgs s_surface_of) (defBody s_surface_of) (defScope s_surface_of) .none kV_surface_of dc_surface_of pm_surface_of an_surface_of cd_surface_of ct_surface_of), sl_surface_of⟩) (c_surface_of : PySem.W.codeIn K cd_surface_of "surface_of" = true) (k_surface_of : PySem.W.keepIn K (.ref f_surface_of) = true)
    {f_places_in : Addr} (a_places_in : PySem.W.nsIn K mainGlobals "places_in" = some (some (.ref f_places_in)))
    {od_places_in an_places_in : Option Addr} {sl_places_in : Array (Option Value)} {oc_places_in kV_places_in dc_places_in pm_places_in ct_places_in : Value} {cd_places_in : Value} (l_places_in : K.lookup f_places_in = some ⟨oc_places_in, od_places_in, .func (PySem.W.fnOf "places_in" "places_in" (defArgs s_places_in) (defBody s_places_in) (defScope s_places_in) .none kV_places_in dc_places_in pm_places_in an_places_in cd_places_in ct_places_in), sl_places_in⟩) (c_places_in : PySem.W.codeIn K cd_places_in "places_in" = true) (k_places_in : PySem.W.keepIn K (.ref f_places_in) = true)
    {f_check_promise : Addr} (a_check_promise : PySem.W.nsIn K mainGlobals "check_promise" = some (some (.ref f_check_promise)))
    {od_check_promise an_check_promise : Option Addr} {sl_check_promise : Array (Option Value)} {oc_check_promise kV_check_promise dc_check_promise pm_check_promise ct_check_promise : Value} {cd_check_promise : Value} (l_check_promise : K.lookup f_check_promise = some ⟨oc_check_promise, od_check_promise, .func (PySem.W.fnOf "check_promise" "check_promise" (defArgs s_check_promise) (defBody s_check_promise) (defScope s_check_promise) .none kV_check_promise dc_check_promise pm_check_promise an_check_promise cd_check_promise ct_check_promise), sl_check_promise⟩) (c_check_promise : PySem.W.codeIn K cd_check_promise "check_promise" = true) (k_check_promise : PySem.W.keepIn K (.ref f_check_promise) = true)
    {f__start_of : Addr} (a__start_of : PySem.W.nsIn K mainGlobals "_start_of" = some (some (.ref f__start_of)))
    {od__start_of an__start_of : Option Addr} {sl__start_of : Array (Option Value)} {oc__start_of kV__start_of dc__start_of pm__start_of ct__start_of : Value} {cd__start_of : Value} (l__start_of : K.lookup f__start_of = some ⟨oc__start_of, od__start_of, .func (PySem.W.fnOf "_start_of" "_start_of" (defArgs s__start_of) (defBody s__start_of) (defScope s__start_of) .none kV__start_of dc__start_of pm__start_of an__start_of cd__start_of ct__start_of), sl__start_of⟩) (c__start_of : PySem.W.codeIn K cd__start_of "_start_of" = true) (k__start_of : PySem.W.keepIn K (.ref f__start_of) = true)
    {f_surface : Addr} (a_surface : PySem.W.nsIn K mainGlobals "surface" = some (some (.ref f_surface)))
    {od_surface an_surface : Option Addr} {sl_surface : Array (Option Value)} {oc_surface kV_surface dc_surface pm_surface ct_surface : Value} {cd_surface : Value} (l_surface : K.lookup f_surface = some ⟨oc_surface, od_surface, .func (PySem.W.fnOf "surface" "surface" (defArgs s_surface) (defBody s_surface) (defScope s_surface) .none kV_surface dc_surface pm_surface an_surface cd_surface ct_surface), sl_surface⟩) (c_surface : PySem.W.codeIn K cd_surface "surface" = true) (k_surface : PySem.W.keepIn K (.ref f_surface) = true)
    {f_part_at : Addr} (a_part_at : PySem.W.nsIn K mainGlobals "part_at" = some (some (.ref f_part_at)))
    {od_part_at an_part_at : Option Addr} {sl_part_at : Array (Option Value)} {oc_part_at kV_part_at dc_part_at pm_part_at ct_part_at : Value} {cd_part_at : Value} (l_part_at : K.lookup f_part_at = some ⟨oc_part_at, od_part_at, .func (PySem.W.fnOf "part_at" "part_at" (defArgs s_part_at) (defBody s_part_at) (defScope s_part_at) .none kV_part_at dc_part_at pm_part_at an_part_at cd_part_at ct_part_at), sl_part_at⟩) (c_part_at : PySem.W.codeIn K cd_part_at "part_at" = true) (k_part_at : PySem.W.keepIn K (.ref f_part_at) = true)
    {f_replaced : Addr} (a_replaced : PySem.W.nsIn K mainGlobals "replaced" = some (some (.ref f_replaced)))
    {od_replaced an_replaced : Option Addr} {sl_replaced : Array (Option Value)} {oc_replaced kV_replaced dc_replaced pm_replaced ct_replaced : Value} {cd_replaced : Value} (l_replaced : K.lookup f_replaced = some ⟨oc_replaced, od_replaced, .func (PySem.W.fnOf "replaced" "replaced" (defArgs s_replaced) (defBody s_replaced) (defScope s_replaced) .none kV_replaced dc_replaced pm_replaced an_replaced cd_replaced ct_replaced), sl_replaced⟩) (c_replaced : PySem.W.codeIn K cd_replaced "replaced" = true) (k_replaced : PySem.W.keepIn K (.ref f_replaced) = true)
    {q_Surface_promise g_Surface_promise : Addr} {r_Surface_promise : List Value} (a_Surface_promise : PySem.W.findIn K (.ref CS) "promise" = some (some (.ref q_Surface_promise))) (e_Surface_promise : PySem.W.specialIn K (.ref q_Surface_promise) "__get__" = some (some (.builtin "property.__get__"))) (t_Surface_promise : PySem.W.takesIn K (.ref q_Surface_promise) = some true) (w_Surface_promise : PySem.W.recIn K q_Surface_promise "property" = some (.ref g_Surface_promise :: r_Surface_promise))
    {od_Surface_promise an_Surface_promise : Option Addr} {sl_Surface_promise : Array (Option Value)} {oc_Surface_promise kV_Surface_promise dc_Surface_promise pm_Surface_promise ct_Surface_promise : Value} {cd_Surface_promise : Value} (l_Surface_promise : K.lookup g_Surface_promise = some ⟨oc_Surface_promise, od_Surface_promise, .func (PySem.W.fnOf "promise" "Surface.promise" (defArgs s_Surface_promise) (defBody s_Surface_promise) (defScope s_Surface_promise) .none kV_Surface_promise dc_Surface_promise pm_Surface_promise an_Surface_promise cd_Surface_promise ct_Surface_promise), sl_Surface_promise⟩) (c_Surface_promise : PySem.W.codeIn K cd_Surface_promise "Surface.promise" = true) (k_Surface_promise : PySem.W.keepIn K (.ref g_Surface_promise) = true)
    {q_Surface_places g_Surface_places : Addr} {r_Surface_places : List Value} (a_Surface_places : PySem.W.findIn K (.ref CS) "places" = some (some (.ref q_Surface_places))) (e_Surface_places : PySem.W.specialIn K (.ref q_Surface_places) "__get__" = some (some (.builtin "property.__get__"))) (t_Surface_places : PySem.W.takesIn K (.ref q_Surface_places) = some true) (w_Surface_places : PySem.W.recIn K q_Surface_places "property" = some (.ref g_Surface_places :: r_Surface_places))
    {od_Surface_places an_Surface_places : Option Addr} {sl_Surface_places : Array (Option Value)} {oc_Surface_places kV_Surface_places dc_Surface_places pm_Surface_places ct_Surface_places : Value} {cd_Surface_places : Value} (l_Surface_places : K.lookup g_Surface_places = some ⟨oc_Surface_places, od_Surface_places, .func (PySem.W.fnOf "places" "Surface.places" (defArgs s_Surface_places) (defBody s_Surface_places) (defScope s_Surface_places) .none kV_Surface_places dc_Surface_places pm_Surface_places an_Surface_places cd_Surface_places ct_Surface_places), sl_Surface_places⟩) (c_Surface_places : PySem.W.codeIn K cd_Surface_places "Surface.places" = true) (k_Surface_places : PySem.W.keepIn K (.ref g_Surface_places) = true)
    {q_Surface_mine g_Surface_mine : Addr} {r_Surface_mine : List Value} (a_Surface_mine : PySem.W.findIn K (.ref CS) "mine" = some (some (.ref q_Surface_mine))) (e_Surface_mine : PySem.W.specialIn K (.ref q_Surface_mine) "__get__" = some (some (.builtin "property.__get__"))) (t_Surface_mine : PySem.W.takesIn K (.ref q_Surface_mine) = some true) (w_Surface_mine : PySem.W.recIn K q_Surface_mine "property" = some (.ref g_Surface_mine :: r_Surface_mine))
    {od_Surface_mine an_Surface_mine : Option Addr} {sl_Surface_mine : Array (Option Value)} {oc_Surface_mine kV_Surface_mine dc_Surface_mine pm_Surface_mine ct_Surface_mine : Value} {cd_Surface_mine : Value} (l_Surface_mine : K.lookup g_Surface_mine = some ⟨oc_Surface_mine, od_Surface_mine, .func (PySem.W.fnOf "mine" "Surface.mine" (defArgs s_Surface_mine) (defBody s_Surface_mine) (defScope s_Surface_mine) .none kV_Surface_mine dc_Surface_mine pm_Surface_mine an_Surface_mine cd_Surface_mine ct_Surface_mine), sl_Surface_mine⟩) (c_Surface_mine : PySem.W.codeIn K cd_Surface_mine "Surface.mine" = true) (k_Surface_mine : PySem.W.keepIn K (.ref g_Surface_mine) = true)
    {q_Surface_yours g_Surface_yours : Addr} {r_Surface_yours : List Value} (a_Surface_yours : PySem.W.findIn K (.ref CS) "yours" = some (some (.ref q_Surface_yours))) (e_Surface_yours : PySem.W.specialIn K (.ref q_Surface_yours) "__get__" = some (some (.builtin "property.__get__"))) (t_Surface_yours : PySem.W.takesIn K (.ref q_Surface_yours) = some true) (w_Surface_yours : PySem.W.recIn K q_Surface_yours "property" = some (.ref g_Surface_yours :: r_Surface_yours))
    {od_Surface_yours an_Surface_yours : Option Addr} {sl_Surface_yours : Array (Option Value)} {oc_Surface_yours kV_Surface_yours dc_Surface_yours pm_Surface_yours ct_Surface_yours : Value} {cd_Surface_yours : Value} (l_Surface_yours : K.lookup g_Surface_yours = some ⟨oc_Surface_yours, od_Surface_yours, .func (PySem.W.fnOf "yours" "Surface.yours" (defArgs s_Surface_yours) (defBody s_Surface_yours) (defScope s_Surface_yours) .none kV_Surface_yours dc_Surface_yours pm_Surface_yours an_Surface_yours cd_Surface_yours ct_Surface_yours), sl_Surface_yours⟩) (c_Surface_yours : PySem.W.codeIn K cd_Surface_yours "Surface.yours" = true) (k_Surface_yours : PySem.W.keepIn K (.ref g_Surface_yours) = true)
    {q_Surface_plain g_Surface_plain : Addr} {r_Surface_plain : List Value} (a_Surface_plain : PySem.W.findIn K (.ref CS) "plain" = some (some (.ref q_Surface_plain))) (e_Surface_plain : PySem.W.specialIn K (.ref q_Surface_plain) "__get__" = some (some (.builtin "property.__get__"))) (t_Surface_plain : PySem.W.takesIn K (.ref q_Surface_plain) = some true) (w_Surface_plain : PySem.W.recIn K q_Surface_plain "property" = some (.ref g_Surface_plain :: r_Surface_plain))
    {od_Surface_plain an_Surface_plain : Option Addr} {sl_Surface_plain : Array (Option Value)} {oc_Surface_plain kV_Surface_plain dc_Surface_plain pm_Surface_plain ct_Surface_plain : Value} {cd_Surface_plain : Value} (l_Surface_plain : K.lookup g_Surface_plain = some ⟨oc_Surface_plain, od_Surface_plain, .func (PySem.W.fnOf "plain" "Surface.plain" (defArgs s_Surface_plain) (defBody s_Surface_plain) (defScope s_Surface_plain) .none kV_Surface_plain dc_Surface_plain pm_Surface_plain an_Surface_plain cd_Surface_plain ct_Surface_plain), sl_Surface_plain⟩) (c_Surface_plain : PySem.W.codeIn K cd_Surface_plain "Surface.plain" = true) (k_Surface_plain : PySem.W.keepIn K (.ref g_Surface_plain) = true)
    {g_Surface_is_over : Addr} (a_Surface_is_over : PySem.W.findIn K (.ref CS) "is_over" = some (some (.ref g_Surface_is_over))) (i_Surface_is_over : PySem.W.isFn K (.ref g_Surface_is_over) = true)
    {od_Surface_is_over an_Surface_is_over : Option Addr} {sl_Surface_is_over : Array (Option Value)} {oc_Surface_is_over kV_Surface_is_over dc_Surface_is_over pm_Surface_is_over ct_Surface_is_over : Value} {cd_Surface_is_over : Value} (l_Surface_is_over : K.lookup g_Surface_is_over = some ⟨oc_Surface_is_over, od_Surface_is_over, .func (PySem.W.fnOf "is_over" "Surface.is_over" (defArgs s_Surface_is_over) (defBody s_Surface_is_over) (defScope s_Surface_is_over) .none kV_Surface_is_over dc_Surface_is_over pm_Surface_is_over an_Surface_is_over cd_Surface_is_over ct_Surface_is_over), sl_Surface_is_over⟩) (c_Surface_is_over : PySem.W.codeIn K cd_Surface_is_over "Surface.is_over" = true) (k_Surface_is_over : PySem.W.keepIn K (.ref g_Surface_is_over) = true)
    {g_Surface___len__ : Addr} (a_Surface___len__ : PySem.W.findIn K (.ref CS) "__len__" = some (some (.ref g_Surface___len__))) (i_Surface___len__ : PySem.W.isFn K (.ref g_Surface___len__) = true)
    {od_Surface___len__ an_Surface___len__ : Option Addr} {sl_Surface___len__ : Array (Option Value)} {oc_Surface___len__ kV_Surface___len__ dc_Surface___len__ pm_Surface___len__ ct_Surface___len__ : Value} {cd_Surface___len__ : Value} (l_Surface___len__ : K.lookup g_Surface___len__ = some ⟨oc_Surface___len__, od_Surface___len__, .func (PySem.W.fnOf "__len__" "Surface.__len__" (defArgs s_Surface___len__) (defBody s_Surface___len__) (defScope s_Surface___len__) .none kV_Surface___len__ dc_Surface___len__ pm_Surface___len__ an_Surface___len__ cd_Surface___len__ ct_Surface___len__), sl_Surface___len__⟩) (c_Surface___len__ : PySem.W.codeIn K cd_Surface___len__ "Surface.__len__" = true) (k_Surface___len__ : PySem.W.keepIn K (.ref g_Surface___len__) = true)
    {g_Surface___iter__ : Addr} (a_Surface___iter__ : PySem.W.findIn K (.ref CS) "__iter__" = some (some (.ref g_Surface___iter__))) (i_Surface___iter__ : PySem.W.isFn K (.ref g_Surface___iter__) = true)
    {od_Surface___iter__ an_Surface___iter__ : Option Addr} {sl_Surface___iter__ : Array (Option Value)} {oc_Surface___iter__ kV_Surface___iter__ dc_Surface___iter__ pm_Surface___iter__ ct_Surface___iter__ : Value} {cd_Surface___iter__ : Value} (l_Surface___iter__ : K.lookup g_Surface___iter__ = some ⟨oc_Surface___iter__, od_Surface___iter__, .func (PySem.W.fnOf "__iter__" "Surface.__iter__" (defArgs s_Surface___iter__) (defBody s_Surface___iter__) (defScope s_Surface___iter__) .none kV_Surface___iter__ dc_Surface___iter__ pm_Surface___iter__ an_Surface___iter__ cd_Surface___iter__ ct_Surface___iter__), sl_Surface___iter__⟩) (c_Surface___iter__ : PySem.W.codeIn K cd_Surface___iter__ "Surface.__iter__" = true) (k_Surface___iter__ : PySem.W.keepIn K (.ref g_Surface___iter__) = true)
    {g_Surface___contains__ : Addr} (a_Surface___contains__ : PySem.W.findIn K (.ref CS) "__contains__" = some (some (.ref g_Surface___contains__))) (i_Surface___contains__ : PySem.W.isFn K (.ref g_Surface___contains__) = true)
    {od_Surface___contains__ an_Surface___contains__ : Option Addr} {sl_Surface___contains__ : Array (Option Value)} {oc_Surface___contains__ kV_Surface___contains__ dc_Surface___contains__ pm_Surface___contains__ ct_Surface___contains__ : Value} {cd_Surface___contains__ : Value} (l_Surface___contains__ : K.lookup g_Surface___contains__ = some ⟨oc_Surface___contains__, od_Surface___contains__, .func (PySem.W.fnOf "__contains__" "Surface.__contains__" (defArgs s_Surface___contains__) (defBody s_Surface___contains__) (defScope s_Surface___contains__) .none kV_Surface___contains__ dc_Surface___contains__ pm_Surface___contains__ an_Surface___contains__ cd_Surface___contains__ ct_Surface___contains__), sl_Surface___contains__⟩) (c_Surface___contains__ : PySem.W.codeIn K cd_Surface___contains__ "Surface.__contains__" = true) (k_Surface___contains__ : PySem.W.keepIn K (.ref g_Surface___contains__) = true)
    {g_Surface___getitem__ : Addr} (a_Surface___getitem__ : PySem.W.findIn K (.ref CS) "__getitem__" = some (some (.ref g_Surface___getitem__))) (i_Surface___getitem__ : PySem.W.isFn K (.ref g_Surface___getitem__) = true)
    {od_Surface___getitem__ an_Surface___getitem__ : Option Addr} {sl_Surface___getitem__ : Array (Option Value)} {oc_Surface___getitem__ kV_Surface___getitem__ dc_Surface___getitem__ pm_Surface___getitem__ ct_Surface___getitem__ : Value} {cd_Surface___getitem__ : Value} (l_Surface___getitem__ : K.lookup g_Surface___getitem__ = some ⟨oc_Surface___getitem__, od_Surface___getitem__, .func (PySem.W.fnOf "__getitem__" "Surface.__getitem__" (defArgs s_Surface___getitem__) (defBody s_Surface___getitem__) (defScope s_Surface___getitem__) .none kV_Surface___getitem__ dc_Surface___getitem__ pm_Surface___getitem__ an_Surface___getitem__ cd_Surface___getitem__ ct_Surface___getitem__), sl_Surface___getitem__⟩) (c_Surface___getitem__ : PySem.W.codeIn K cd_Surface___getitem__ "Surface.__getitem__" = true) (k_Surface___getitem__ : PySem.W.keepIn K (.ref g_Surface___getitem__) = true)
    (n_Surface___getitem__ : PySem.W.fnIn K g_Surface___getitem__ = true)
    {g_Surface___eq__ : Addr} (a_Surface___eq__ : PySem.W.findIn K (.ref CS) "__eq__" = some (some (.ref g_Surface___eq__))) (i_Surface___eq__ : PySem.W.isFn K (.ref g_Surface___eq__) = true)
    {od_Surface___eq__ an_Surface___eq__ : Option Addr} {sl_Surface___eq__ : Array (Option Value)} {oc_Surface___eq__ kV_Surface___eq__ dc_Surface___eq__ pm_Surface___eq__ ct_Surface___eq__ : Value} {cd_Surface___eq__ : Value} (l_Surface___eq__ : K.lookup g_Surface___eq__ = some ⟨oc_Surface___eq__, od_Surface___eq__, .func (PySem.W.fnOf "__eq__" "Surface.__eq__" (defArgs s_Surface___eq__) (defBody s_Surface___eq__) (defScope s_Surface___eq__) .none kV_Surface___eq__ dc_Surface___eq__ pm_Surface___eq__ an_Surface___eq__ cd_Surface___eq__ ct_Surface___eq__), sl_Surface___eq__⟩) (c_Surface___eq__ : PySem.W.codeIn K cd_Surface___eq__ "Surface.__eq__" = true) (k_Surface___eq__ : PySem.W.keepIn K (.ref g_Surface___eq__) = true)
    {g_Surface___str__ : Addr} (a_Surface___str__ : PySem.W.findIn K (.ref CS) "__str__" = some (some (.ref g_Surface___str__))) (i_Surface___str__ : PySem.W.isFn K (.ref g_Surface___str__) = true)
    {od_Surface___str__ an_Surface___str__ : Option Addr} {sl_Surface___str__ : Array (Option Value)} {oc_Surface___str__ kV_Surface___str__ dc_Surface___str__ pm_Surface___str__ ct_Surface___str__ : Value} {cd_Surface___str__ : Value} (l_Surface___str__ : K.lookup g_Surface___str__ = some ⟨oc_Surface___str__, od_Surface___str__, .func (PySem.W.fnOf "__str__" "Surface.__str__" (defArgs s_Surface___str__) (defBody s_Surface___str__) (defScope s_Surface___str__) .none kV_Surface___str__ dc_Surface___str__ pm_Surface___str__ an_Surface___str__ cd_Surface___str__ ct_Surface___str__), sl_Surface___str__⟩) (c_Surface___str__ : PySem.W.codeIn K cd_Surface___str__ "Surface.__str__" = true) (k_Surface___str__ : PySem.W.keepIn K (.ref g_Surface___str__) = true)
    {f__law_made : Addr} (a__law_made : PySem.W.nsIn K mainGlobals "_law_made" = some (some (.ref f__law_made)))
    {od__law_made an__law_made : Option Addr} {sl__law_made : Array (Option Value)} {oc__law_made kV__law_made dc__law_made pm__law_made ct__law_made : Value} {cd__law_made : Value} (l__law_made : K.lookup f__law_made = some ⟨oc__law_made, od__law_made, .func (PySem.W.fnOf "_law_made" "_law_made" (defArgs s__law_made) (defBody s__law_made) (defScope s__law_made) .none kV__law_made dc__law_made pm__law_made an__law_made cd__law_made ct__law_made), sl__law_made⟩) (c__law_made : PySem.W.codeIn K cd__law_made "_law_made" = true) (k__law_made : PySem.W.keepIn K (.ref f__law_made) = true)
    {f__law_is_within : Addr} (a__law_is_within : PySem.W.nsIn K mainGlobals "_law_is_within" = some (some (.ref f__law_is_within)))
    {od__law_is_within an__law_is_within : Option Addr} {sl__law_is_within : Array (Option Value)} {oc__law_is_within kV__law_is_within dc__law_is_within pm__law_is_within ct__law_is_within : Value} {cd__law_is_within : Value} (l__law_is_within : K.lookup f__law_is_within = some ⟨oc__law_is_within, od__law_is_within, .func (PySem.W.fnOf "_law_is_within" "_law_is_within" (defArgs s__law_is_within) (defBody s__law_is_within) (defScope s__law_is_within) .none kV__law_is_within dc__law_is_within pm__law_is_within an__law_is_within cd__law_is_within ct__law_is_within), sl__law_is_within⟩) (c__law_is_within : PySem.W.codeIn K cd__law_is_within "_law_is_within" = true) (k__law_is_within : PySem.W.keepIn K (.ref f__law_is_within) = true)
    {f__law_places : Addr} (a__law_places : PySem.W.nsIn K mainGlobals "_law_places" = some (some (.ref f__law_places)))
    {od__law_places an__law_places : Option Addr} {sl__law_places : Array (Option Value)} {oc__law_places kV__law_places dc__law_places pm__law_places ct__law_places : Value} {cd__law_places : Value} (l__law_places : K.lookup f__law_places = some ⟨oc__law_places, od__law_places, .func (PySem.W.fnOf "_law_places" "_law_places" (defArgs s__law_places) (defBody s__law_places) (defScope s__law_places) .none kV__law_places dc__law_places pm__law_places an__law_places cd__law_places ct__law_places), sl__law_places⟩) (c__law_places : PySem.W.codeIn K cd__law_places "_law_places" = true) (k__law_places : PySem.W.keepIn K (.ref f__law_places) = true)
    {f__law_exchanged : Addr} (a__law_exchanged : PySem.W.nsIn K mainGlobals "_law_exchanged" = some (some (.ref f__law_exchanged)))
    {od__law_exchanged an__law_exchanged : Option Addr} {sl__law_exchanged : Array (Option Value)} {oc__law_exchanged kV__law_exchanged dc__law_exchanged pm__law_exchanged ct__law_exchanged : Value} {cd__law_exchanged : Value} (l__law_exchanged : K.lookup f__law_exchanged = some ⟨oc__law_exchanged, od__law_exchanged, .func (PySem.W.fnOf "_law_exchanged" "_law_exchanged" (defArgs s__law_exchanged) (defBody s__law_exchanged) (defScope s__law_exchanged) .none kV__law_exchanged dc__law_exchanged pm__law_exchanged an__law_exchanged cd__law_exchanged ct__law_exchanged), sl__law_exchanged⟩) (c__law_exchanged : PySem.W.codeIn K cd__law_exchanged "_law_exchanged" = true) (k__law_exchanged : PySem.W.keepIn K (.ref f__law_exchanged) = true)
    {f__law_surface_right : Addr} (a__law_surface_right : PySem.W.nsIn K mainGlobals "_law_surface_right" = some (some (.ref f__law_surface_right)))
    {od__law_surface_right an__law_surface_right : Option Addr} {sl__law_surface_right : Array (Option Value)} {oc__law_surface_right kV__law_surface_right dc__law_surface_right pm__law_surface_right ct__law_surface_right : Value} {cd__law_surface_right : Value} (l__law_surface_right : K.lookup f__law_surface_right = some ⟨oc__law_surface_right, od__law_surface_right, .func (PySem.W.fnOf "_law_surface_right" "_law_surface_right" (defArgs s__law_surface_right) (defBody s__law_surface_right) (defScope s__law_surface_right) .none kV__law_surface_right dc__law_surface_right pm__law_surface_right an__law_surface_right cd__law_surface_right ct__law_surface_right), sl__law_surface_right⟩) (c__law_surface_right : PySem.W.codeIn K cd__law_surface_right "_law_surface_right" = true) (k__law_surface_right : PySem.W.keepIn K (.ref f__law_surface_right) = true)
    {f__law_got : Addr} (a__law_got : PySem.W.nsIn K mainGlobals "_law_got" = some (some (.ref f__law_got)))
    {od__law_got an__law_got : Option Addr} {sl__law_got : Array (Option Value)} {oc__law_got kV__law_got dc__law_got pm__law_got ct__law_got : Value} {cd__law_got : Value} (l__law_got : K.lookup f__law_got = some ⟨oc__law_got, od__law_got, .func (PySem.W.fnOf "_law_got" "_law_got" (defArgs s__law_got) (defBody s__law_got) (defScope s__law_got) .none kV__law_got dc__law_got pm__law_got an__law_got cd__law_got ct__law_got), sl__law_got⟩) (c__law_got : PySem.W.codeIn K cd__law_got "_law_got" = true) (k__law_got : PySem.W.keepIn K (.ref f__law_got) = true)
    (zz1 : PySem.W.subIn K (.ref E_InvalidPromise) (.ref E_InvalidPlace) = some false)
    {f__law_right : Addr} (a__law_right : PySem.W.nsIn K mainGlobals "_law_right" = some (some (.ref f__law_right)))
    {od__law_right an__law_right : Option Addr} {sl__law_right : Array (Option Value)} {oc__law_right kV__law_right dc__law_right pm__law_right ct__law_right : Value} {cc__law_right : Addr} (l__law_right : K.lookup f__law_right = some ⟨oc__law_right, od__law_right, .func (PySem.W.fnOf "_law_right" "_law_right" (defArgs s__law_right) (defBody s__law_right) (defScope s__law_right) .none kV__law_right dc__law_right pm__law_right an__law_right (.ref cc__law_right) ct__law_right), sl__law_right⟩) (c__law_right : PySem.W.codeIn K (.ref cc__law_right) "_law_right" = true) (k__law_right : PySem.W.keepIn K (.ref f__law_right) = true)
    {xc__law_right : Value} {xd__law_right : Option Addr} {xv__law_right : Array Value} {xs__law_right : Array (Option Value)} (lc__law_right : K.lookup cc__law_right = some ⟨xc__law_right, xd__law_right, .fields xv__law_right, xs__law_right⟩)
    {PP__law_right : Addr} (lv__law_right : xv__law_right[11]? = some (.ref PP__law_right))
    (ln__law_right : K.lookup PP__law_right = none)
    (rd : PySem.W.readsIn K C (.type "type") = true) (ga : PySem.W.specialIn K (.ref C) "__getattribute__" = some (some (.builtin "type.__getattribute__")))
    {q_Promise_read g_Promise_read : Addr} {r_Promise_read : List Value} (a_Promise_read : PySem.W.findCls K (.ref C) (.type "type") "read" = some (.get (.builtin "classmethod.__get__") (.ref q_Promise_read) .none (.ref C))) (w_Promise_read : PySem.W.recIn K q_Promise_read "classmethod" = some (.ref g_Promise_read :: r_Promise_read)) (n_Promise_read : PySem.W.fnIn K g_Promise_read = true)
    {od_Promise_read an_Promise_read : Option Addr} {sl_Promise_read : Array (Option Value)} {oc_Promise_read kV_Promise_read dc_Promise_read pm_Promise_read ct_Promise_read : Value} {cd_Promise_read : Value} (l_Promise_read : K.lookup g_Promise_read = some ⟨oc_Promise_read, od_Promise_read, .func (PySem.W.fnOf "read" "Promise.read" (defArgs s_Promise_read) (defBody s_Promise_read) (defScope s_Promise_read) .none kV_Promise_read dc_Promise_read pm_Promise_read an_Promise_read cd_Promise_read ct_Promise_read), sl_Promise_read⟩) (c_Promise_read : PySem.W.codeIn K cd_Promise_read "Promise.read" = true) (k_Promise_read : PySem.W.keepIn K (.ref g_Promise_read) = true)
    {f_law : Addr} (a_law : PySem.W.nsIn K mainGlobals "law" = some (some (.ref f_law)))
    {od_law an_law : Option Addr} {sl_law : Array (Option Value)} {oc_law kV_law dc_law pm_law ct_law : Value} {cd_law : Value} (l_law : K.lookup f_law = some ⟨oc_law, od_law, .func (PySem.W.fnOf "law" "law" (defArgs s_law) (defBody s_law) (defScope s_law) .none kV_law dc_law pm_law an_law cd_law ct_law), sl_law⟩) (c_law : PySem.W.codeIn K cd_law "law" = true) (k_law : PySem.W.keepIn K (.ref f_law) = true)
    (z_classmethod : PySem.W.nsIn K mainGlobals "classmethod" = some none)
    (z_property : PySem.W.nsIn K mainGlobals "property" = some none)
    (z_isinstance : PySem.W.nsIn K mainGlobals "isinstance" = some none)
    (z_list : PySem.W.nsIn K mainGlobals "list" = some none)
    (z_tuple : PySem.W.nsIn K mainGlobals "tuple" = some none)
    (z_dict : PySem.W.nsIn K mainGlobals "dict" = some none)
    (z_len : PySem.W.nsIn K mainGlobals "len" = some none)
    (z_reversed : PySem.W.nsIn K mainGlobals "reversed" = some none)
    (z_any : PySem.W.nsIn K mainGlobals "any" = some none)
    (z_all : PySem.W.nsIn K mainGlobals "all" = some none)
    (z_range : PySem.W.nsIn K mainGlobals "range" = some none)
    (z_sorted : PySem.W.nsIn K mainGlobals "sorted" = some none)
    (z_bool : PySem.W.nsIn K mainGlobals "bool" = some none)
    (z_abs : PySem.W.nsIn K mainGlobals "abs" = some none)
    (z_str : PySem.W.nsIn K mainGlobals "str" = some none)
    (z_max : PySem.W.nsIn K mainGlobals "max" = some none)
    (z_iter : PySem.W.nsIn K mainGlobals "iter" = some none)
    (z_int : PySem.W.nsIn K mainGlobals "int" = some none)
    (z_set : PySem.W.nsIn K mainGlobals "set" = some none)
    (z_sum : PySem.W.nsIn K mainGlobals "sum" = some none)
    (z_min : PySem.W.nsIn K mainGlobals "min" = some none)
    (z_super : PySem.W.nsIn K mainGlobals "super" = some none)
    : LamX.LawAtS l w K L2.CX0 152 63 "script" mg fa h := by
  have e := hfa.symm.trans (PySem.W.mg_of X G a_law)
  obtain rfl : f_law = fa := (Value.ref.inj (Option.some.inj e)).symm
  have T : Txt mg := ⟨PySem.W.mg_none_of X G z_classmethod, PySem.W.mg_none_of X G z_property, PySem.W.mg_none_of X G z_isinstance, PySem.W.mg_none_of X G z_list, PySem.W.mg_none_of X G z_tuple, PySem.W.mg_none_of X G z_dict, PySem.W.mg_none_of X G z_len, PySem.W.mg_none_of X G z_reversed, PySem.W.mg_none_of X G z_any, PySem.W.mg_none_of X G z_all, PySem.W.mg_none_of X G z_range, PySem.W.mg_none_of X G z_sorted, PySem.W.mg_none_of X G z_bool, PySem.W.mg_none_of X G z_abs, PySem.W.mg_none_of X G z_str, PySem.W.mg_none_of X G z_max, PySem.W.mg_none_of X G z_iter, PySem.W.mg_none_of X G z_int, PySem.W.mg_none_of X G z_set, PySem.W.mg_none_of X G z_sum, PySem.W.mg_none_of X G z_min, PySem.W.mg_none_of X G z_super⟩
  have BT__law_right := TT__law_right f__law_right cc__law_right PP__law_right _ _ _ _ _ _ a__law_right l__law_right rfl rfl lc__law_right lv__law_right
  refine ⟨PySem.W.fnOf "law" "law" (defArgs s_law) (defBody s_law) (defScope s_law) .none kV_law dc_law pm_law an_law cd_law ct_law, [(cc__law_right, PP__law_right)], spLaw10 K [(PP__law_right, ("_law_right.<locals>.<lambda>" : Str))], ?_, ?_, ?_, fun s v => .of_eq rfl, ?_, fun base _ _ TB => ?_⟩
  · intro p hp
    rw [List.mem_singleton.mp hp]
    exact BT__law_right.2
  · intro p hp
    rw [List.mem_singleton.mp hp]
    exact ln__law_right
  · intro p hp
    rw [List.mem_singleton.mp hp]
    exact BT__law_right.1
  · intro H a ns hl hb hT hS
    refine ⟨a, ns, rfl, hS, hl, ?_, fun _ => rfl⟩
    intro p hp
    simp only [List.mem_cons, List.not_mem_nil, or_false] at hp
    subst hp
    · exact LamX.TabS.nil (hT (cc__law_right, PP__law_right) (by simp))
  have TB__law_right := TB (cc__law_right, PP__law_right) (by simp)
  have n_MAX_LETTERS := PySem.W.mg_of X G i_MAX_LETTERS
  have n_LEAST_PARTS := PySem.W.mg_of X G i_LEAST_PARTS
  have n_MOST_PARTS := PySem.W.mg_of X G i_MOST_PARTS
  have n_MAX_NODES := PySem.W.mg_of X G i_MAX_NODES
  have n_MAX_FACTS := PySem.W.mg_of X G i_MAX_FACTS
  have n_MAX_CHOICES := PySem.W.mg_of X G i_MAX_CHOICES
  have n_MAX_DEPTH := PySem.W.mg_of X G i_MAX_DEPTH
  have R_InvalidPromise : ErrC K mg "InvalidPromise" E_InvalidPromise := ⟨PySem.W.mg_of X G x1_InvalidPromise, x2_InvalidPromise, x3_InvalidPromise, x4_InvalidPromise, x5_InvalidPromise, exmSelf x4_InvalidPromise x6_InvalidPromise x5_InvalidPromise x7_InvalidPromise⟩
  have R_InvalidPlace : ErrC K mg "InvalidPlace" E_InvalidPlace := ⟨PySem.W.mg_of X G x1_InvalidPlace, x2_InvalidPlace, x3_InvalidPlace, x4_InvalidPlace, x5_InvalidPlace, exmSelf x4_InvalidPlace x6_InvalidPlace x5_InvalidPlace x7_InvalidPlace⟩
  have F_Promise___init__ := fun_mk (st := s_Promise___init__) l_Promise___init__ c_Promise___init__ k_Promise___init__
  have b_Promise___init__ := F_Promise___init__.binds (ps := ["self", "nodes"]) fun _ _ _ _ _ _ us hl => match us, hl with | [_, _], _ => rfl
  have F_Promise___len__ := fun_mk (st := s_Promise___len__) l_Promise___len__ c_Promise___len__ k_Promise___len__
  have b_Promise___len__ := F_Promise___len__.binds (ps := ["self"]) fun _ _ _ _ _ _ us hl => match us, hl with | [_], _ => rfl
  have PC : PromC K mg C g_Promise___init__ g_Promise___len__ := ⟨PySem.W.mg_of X G gC, ⟨mk, a_Promise___init__, i_Promise___init__, kc⟩, ⟨pg, hd, po, sa⟩, nN, a_Promise___len__, i_Promise___len__⟩
  have IC : IsC K C := ⟨ic1, ic2, ic3, ic4, kit_self⟩
  have OF : OffC K C := ⟨os1, os2, os3, os4, os5, os6, kit_off ic6 ic5 (by kernel_rfl), kit_off ic6 ic5 (by kernel_rfl), kit_off ic6 ic5 (by kernel_rfl), kit_off ic6 ic5 (by kernel_rfl), kit_off ic6 ic5 (by kernel_rfl), kit_off ic6 ic5 (by kernel_rfl)⟩
  have WA : TupAt K mg "OPEN" pW open2 := ⟨PySem.W.mg_of X G yW1, fun H => .inr ⟨_, _, _, yW2, rfl, rfl, (by show 2 ≤ sizeLine; decide), .cons ⟨_, rfl⟩ (.cons ⟨_, rfl⟩ .nil)⟩⟩
  have WP : TupAt K mg "PLAIN" pL plain4 := ⟨PySem.W.mg_of X G yL1, fun H => .inr ⟨_, _, _, yL2, rfl, rfl, (by show 4 ≤ sizeLine; decide), .cons ⟨_, rfl⟩ (.cons ⟨_, rfl⟩ (.cons ⟨_, rfl⟩ (.cons ⟨_, rfl⟩ .nil)))⟩⟩
  have S : SignsAt K w mg pS := signs_mk (PySem.W.mg_of X G yS1) yS2 yS3 yS4
  have SV : SgnV K w mg pS := sgn_mk (PySem.W.mg_of X G yS1) yS2 yS3
  have SD : SignedAt K w mg pD := signed_mk (PySem.W.mg_of X G yD1) yD2 yD3 yD4
  have F_Surface___init__ := fun_mk (st := s_Surface___init__) l_Surface___init__ c_Surface___init__ k_Surface___init__
  have b_Surface___init__ := F_Surface___init__.binds (ps := ["self", "promise"]) fun _ _ _ _ _ _ us hl => match us, hl with | [_, _], _ => rfl
  have SC : SurC K mg CS g_Surface___init__ := ⟨PySem.W.mg_of X G gS, ⟨mkS, a_Surface___init__, i_Surface___init__, kcS⟩, ⟨pgS, hdS, poS, saS⟩, npS, nqS⟩
  have ICS : IsC K CS := ⟨jc1, ic2, ic3, jc4, kit_self⟩
  have no : PySem.W.kitOne K (.ref C) (.ref CS) = some false := kit_no jc6 jc5 hsub nCS
  have hnf : PySem.W.notFirst K C (.type "str") = true := by unfold PySem.W.notFirst; rw [show PySem.W.subIn K (.type "str") (.ref C) = some false from by kernel_rfl]; rfl
  have F__law_roll := fun_mk (st := s__law_roll) l__law_roll c__law_roll k__law_roll
  have b__law_roll := F__law_roll.binds (ps := ["dice", "many"]) fun _ _ _ _ _ _ us hl => match us, hl with | [_, _], _ => rfl
  have m__law_roll := PySem.W.mg_of X G a__law_roll
  have G__law_roll : Cal l.prog w K mg base 1 "_law_roll" f__law_roll _ ["dice", "many"] spRoll := ⟨ok_roll F__law_roll T, m__law_roll, k__law_roll, b__law_roll⟩
  have F__law_pick := fun_mk (st := s__law_pick) l__law_pick c__law_pick k__law_pick
  have b__law_pick := F__law_pick.binds (ps := ["dice", "items"]) fun _ _ _ _ _ _ us hl => match us, hl with | [_, _], _ => rfl
  have m__law_pick := PySem.W.mg_of X G a__law_pick
  have G__law_pick : Cal l.prog w K mg base 2 "_law_pick" f__law_pick _ ["dice", "items"] (spPick K) := ⟨ok_pick F__law_pick T G__law_roll, m__law_pick, k__law_pick, b__law_pick⟩
  have F__law_some := fun_mk (st := s__law_some) l__law_some c__law_some k__law_some
  have b__law_some := F__law_some.binds (ps := ["dice", "items", "size"]) fun _ _ _ _ _ _ us hl => match us, hl with | [_, _, _], _ => rfl
  have m__law_some := PySem.W.mg_of X G a__law_some
  have G__law_some : Cal l.prog w K mg base 2 "_law_some" f__law_some _ ["dice", "items", "size"] (spSome K) := ⟨ok_some F__law_some T G__law_roll, m__law_some, k__law_some, b__law_some⟩
  have F__law_dice := fun_mk (st := s__law_dice) l__law_dice c__law_dice k__law_dice
  have b__law_dice := F__law_dice.binds (ps := ["script", "spot"]) fun _ _ _ _ _ _ us hl => match us, hl with | [_, _], _ => rfl
  have m__law_dice := PySem.W.mg_of X G a__law_dice
  have G__law_dice : Cal l.prog w K mg base 1 "_law_dice" f__law_dice _ ["script", "spot"] (spDice K) := ⟨ok_dice F__law_dice T, m__law_dice, k__law_dice, b__law_dice⟩
  have F_is_integer := fun_mk (st := s_is_integer) l_is_integer c_is_integer k_is_integer
  have b_is_integer := F_is_integer.binds (ps := ["value"]) fun _ _ _ _ _ _ us hl => match us, hl with | [_], _ => rfl
  have m_is_integer := PySem.W.mg_of X G a_is_integer
  have G_is_integer : Cal l.prog w K mg base 1 "is_integer" f_is_integer _ ["value"] (spInteger K) := ⟨ok_is_integer F_is_integer T, m_is_integer, k_is_integer, b_is_integer⟩
  have F_is_fact := fun_mk (st := s_is_fact) l_is_fact c_is_fact k_is_fact
  have b_is_fact := F_is_fact.binds (ps := ["value"]) fun _ _ _ _ _ _ us hl => match us, hl with | [_], _ => rfl
  have m_is_fact := PySem.W.mg_of X G a_is_fact
  have G_is_fact : Cal l.prog w K mg base 1 "is_fact" f_is_fact _ ["value"] (spFact K) := ⟨ok_is_fact F_is_fact T ⟨_, n_MAX_LETTERS⟩, m_is_fact, k_is_fact, b_is_fact⟩
  have F_is_node := fun_mk (st := s_is_node) l_is_node c_is_node k_is_node
  have b_is_node := F_is_node.binds (ps := ["value"]) fun _ _ _ _ _ _ us hl => match us, hl with | [_], _ => rfl
  have m_is_node := PySem.W.mg_of X G a_is_node
  have G_is_node : Cal l.prog w K mg base 2 "is_node" f_is_node _ ["value"] (spIsNode K) := ⟨ok_is_node F_is_node T S ⟨_, n_LEAST_PARTS⟩ ⟨_, n_MOST_PARTS⟩ G_is_fact G_is_integer, m_is_node, k_is_node, b_is_node⟩
  have F_depth_of := fun_mk (st := s_depth_of) l_depth_of c_depth_of k_depth_of
  have b_depth_of := F_depth_of.binds (ps := ["nodes"]) fun _ _ _ _ _ _ us hl => match us, hl with | [_], _ => rfl
  have m_depth_of := PySem.W.mg_of X G a_depth_of
  have G_depth_of : Cal l.prog w K mg base 1 "depth_of" f_depth_of _ ["nodes"] (spDepth K) := ⟨ok_depth_of F_depth_of T S, m_depth_of, k_depth_of, b_depth_of⟩
  have G_depth_ofE : Cal l.prog w K mg base 1 "depth_of" f_depth_of _ ["nodes"] (spDepthE K) := ⟨ok_depth_ofE F_depth_of T S, m_depth_of, k_depth_of, b_depth_of⟩
  have F_facts_of := fun_mk (st := s_facts_of) l_facts_of c_facts_of k_facts_of
  have b_facts_of := F_facts_of.binds (ps := ["nodes"]) fun _ _ _ _ _ _ us hl => match us, hl with | [_], _ => rfl
  have m_facts_of := PySem.W.mg_of X G a_facts_of
  have G_facts_of : Cal l.prog w K mg base 1 "facts_of" f_facts_of _ ["nodes"] (spFacts K) := ⟨ok_facts_of F_facts_of T, m_facts_of, k_facts_of, b_facts_of⟩
  have F_choices_of := fun_mk (st := s_choices_of) l_choices_of c_choices_of k_choices_of
  have b_choices_of := F_choices_of.binds (ps := ["nodes"]) fun _ _ _ _ _ _ us hl => match us, hl with | [_], _ => rfl
  have m_choices_of := PySem.W.mg_of X G a_choices_of
  have G_choices_of : Cal l.prog w K mg base 1 "choices_of" f_choices_of _ ["nodes"] (spChoices K) := ⟨ok_choices_of F_choices_of T, m_choices_of, k_choices_of, b_choices_of⟩
  have F__are_nodes := fun_mk (st := s__are_nodes) l__are_nodes c__are_nodes k__are_nodes
  have b__are_nodes := F__are_nodes.binds (ps := ["value"]) fun _ _ _ _ _ _ us hl => match us, hl with | [_], _ => rfl
  have m__are_nodes := PySem.W.mg_of X G a__are_nodes
  have G__are_nodes : Cal l.prog w K mg base 3 "_are_nodes" f__are_nodes _ ["value"] (spAre K) := ⟨ok_are_nodes F__are_nodes T ⟨_, n_MAX_NODES⟩ ⟨_, n_MAX_FACTS⟩ ⟨_, n_MAX_CHOICES⟩ ⟨_, n_MAX_DEPTH⟩ G_is_node G_facts_of G_choices_of G_depth_of, m__are_nodes, k__are_nodes, b__are_nodes⟩
  have G__are_nodesE : Cal l.prog w K mg base 3 "_are_nodes" f__are_nodes _ ["value"] (spAreE K) := ⟨ok_are_nodesE F__are_nodes T ⟨_, n_MAX_NODES⟩ ⟨_, n_MAX_FACTS⟩ ⟨_, n_MAX_CHOICES⟩ ⟨_, n_MAX_DEPTH⟩ G_is_node G_facts_of G_choices_of G_depth_ofE, m__are_nodes, k__are_nodes, b__are_nodes⟩
  have F__law_is_leaf := fun_mk (st := s__law_is_leaf) l__law_is_leaf c__law_is_leaf k__law_is_leaf
  have b__law_is_leaf := F__law_is_leaf.binds (ps := ["plain"]) fun _ _ _ _ _ _ us hl => match us, hl with | [_], _ => rfl
  have m__law_is_leaf := PySem.W.mg_of X G a__law_is_leaf
  have G__law_is_leaf : Cal l.prog w K mg base 1 "_law_is_leaf" f__law_is_leaf _ ["plain"] (spIsLeaf K) := ⟨ok_is_leaf F__law_is_leaf T, m__law_is_leaf, k__law_is_leaf, b__law_is_leaf⟩
  have F__law_leaf := fun_mk (st := s__law_leaf) l__law_leaf c__law_leaf k__law_leaf
  have b__law_leaf := F__law_leaf.binds (ps := ["dice", "words"]) fun _ _ _ _ _ _ us hl => match us, hl with | [_, _], _ => rfl
  have m__law_leaf := PySem.W.mg_of X G a__law_leaf
  have G__law_leaf : Cal l.prog w K mg base 3 "_law_leaf" f__law_leaf _ ["dice", "words"] (spLeaf K) := ⟨ok_leaf F__law_leaf T G__law_roll G__law_pick, m__law_leaf, k__law_leaf, b__law_leaf⟩
  have F__law_nodes := fun_mk (st := s__law_nodes) l__law_nodes c__law_nodes k__law_nodes
  have b__law_nodes := F__law_nodes.binds (ps := ["plain"]) fun _ _ _ _ _ _ us hl => match us, hl with | [_], _ => rfl
  have m__law_nodes := PySem.W.mg_of X G a__law_nodes
  have G__law_nodes : Cal l.prog w K mg base 12 "_law_nodes" f__law_nodes _ ["plain"] (spNodes K 11) := ⟨ok_nodes F__law_nodes T G__law_is_leaf m__law_nodes k__law_nodes b__law_nodes 11, m__law_nodes, k__law_nodes, b__law_nodes⟩
  have F__law_count := fun_mk (st := s__law_count) l__law_count c__law_count k__law_count
  have b__law_count := F__law_count.binds (ps := ["plain", "kinds"]) fun _ _ _ _ _ _ us hl => match us, hl with | [_, _], _ => rfl
  have m__law_count := PySem.W.mg_of X G a__law_count
  have G__law_count : Cal l.prog w K mg base 13 "_law_count" f__law_count _ ["plain", "kinds"] (spCount K 11) := ⟨ok_count F__law_count T G__law_nodes, m__law_count, k__law_count, b__law_count⟩
  have F__law_drawn := fun_mk (st := s__law_drawn) l__law_drawn c__law_drawn k__law_drawn
  have b__law_drawn := F__law_drawn.binds (ps := ["dice", "words", "most", "choices"]) fun _ _ _ _ _ _ us hl => match us, hl with | [_, _, _, _], _ => rfl
  have m__law_drawn := PySem.W.mg_of X G a__law_drawn
  have G__law_drawn : Cal l.prog w K mg base 25 "_law_drawn" f__law_drawn _ ["dice", "words", "most", "choices"] (spDrawn K 11) := ⟨ok_drawn (N := 11) (by decide) F__law_drawn T G__law_roll G__law_pick G__law_leaf G__law_nodes G__law_count m__law_drawn k__law_drawn b__law_drawn 11 (Nat.le_refl _), m__law_drawn, k__law_drawn, b__law_drawn⟩
  have F__law_known := fun_mk (st := s__law_known) l__law_known c__law_known k__law_known
  have b__law_known := F__law_known.binds (ps := ["dice"]) fun _ _ _ _ _ _ us hl => match us, hl with | [_], _ => rfl
  have m__law_known := PySem.W.mg_of X G a__law_known
  have G__law_known : Cal l.prog w K mg base 3 "_law_known" f__law_known _ ["dice"] (spKnown K) := ⟨ok_known F__law_known T G__law_pick, m__law_known, k__law_known, b__law_known⟩
  have F__law_promise := fun_mk (st := s__law_promise) l__law_promise c__law_promise k__law_promise
  have b__law_promise := F__law_promise.binds (ps := ["dice"]) fun _ _ _ _ _ _ us hl => match us, hl with | [_], _ => rfl
  have m__law_promise := PySem.W.mg_of X G a__law_promise
  have G__law_promise : Cal l.prog w K mg base 26 "_law_promise" f__law_promise _ ["dice"] (spPromise K) := ⟨ok_promise (k := 25) (by decide) F__law_promise T G__law_roll G__law_pick G__law_some G__law_known G__law_drawn, m__law_promise, k__law_promise, b__law_promise⟩
  have G__law_nodesW : Cal l.prog w K mg base 133 "_law_nodes" f__law_nodes _ ["plain"] (spNodes K 132) := ⟨ok_nodes F__law_nodes T G__law_is_leaf m__law_nodes k__law_nodes b__law_nodes 132, m__law_nodes, k__law_nodes, b__law_nodes⟩
  have G__law_countW : Cal l.prog w K mg base 134 "_law_count" f__law_count _ ["plain", "kinds"] (spCount K 132) := ⟨ok_count F__law_count T G__law_nodesW, m__law_count, k__law_count, b__law_count⟩
  have F__law_facts := fun_mk (st := s__law_facts) l__law_facts c__law_facts k__law_facts
  have b__law_facts := F__law_facts.binds (ps := ["plain"]) fun _ _ _ _ _ _ us hl => match us, hl with | [_], _ => rfl
  have m__law_facts := PySem.W.mg_of X G a__law_facts
  have G__law_facts : Cal l.prog w K mg base 134 "_law_facts" f__law_facts _ ["plain"] (spLFactsW K 132) := ⟨ok_lfactsW F__law_facts T G__law_nodesW, m__law_facts, k__law_facts, b__law_facts⟩
  have F__law_depth := fun_mk (st := s__law_depth) l__law_depth c__law_depth k__law_depth
  have b__law_depth := F__law_depth.binds (ps := ["plain"]) fun _ _ _ _ _ _ us hl => match us, hl with | [_], _ => rfl
  have m__law_depth := PySem.W.mg_of X G a__law_depth
  have G__law_depth : Cal l.prog w K mg base 133 "_law_depth" f__law_depth _ ["plain"] (spDepthL K 132) := ⟨ok_depth F__law_depth T G__law_is_leaf m__law_depth k__law_depth b__law_depth 132, m__law_depth, k__law_depth, b__law_depth⟩
  have H_Promise___init__ : FnOk l.prog w K mg base (L2.CX l.prog w) 4 g_Promise___init__ _ ["self", "nodes"] (spInit K C E_InvalidPromise) := ok_init F_Promise___init__ T R_InvalidPromise PC G__are_nodes
  have H_Promise___init__E : FnOk l.prog w K mg base (L2.CX l.prog w) 4 g_Promise___init__ _ ["self", "nodes"] (spInitE K C E_InvalidPromise) := ok_initE F_Promise___init__ T R_InvalidPromise PC G__are_nodesE
  have F_is_index := fun_mk (st := s_is_index) l_is_index c_is_index k_is_index
  have b_is_index := F_is_index.binds (ps := ["value", "many"]) fun _ _ _ _ _ _ us hl => match us, hl with | [_, _], _ => rfl
  have m_is_index := PySem.W.mg_of X G a_is_index
  have G_is_index : Cal l.prog w K mg base 2 "is_index" f_is_index _ ["value", "many"] (spIndex K) := ⟨ok_is_index F_is_index T G_is_integer, m_is_index, k_is_index, b_is_index⟩
  have F_plain_text := fun_mk (st := s_plain_text) l_plain_text c_plain_text k_plain_text
  have b_plain_text := F_plain_text.binds (ps := ["kind", "told"]) fun _ _ _ _ _ _ us hl => match us, hl with | [_, _], _ => rfl
  have m_plain_text := PySem.W.mg_of X G a_plain_text
  have G_plain_text : Cal l.prog w K mg base 1 "plain_text" f_plain_text _ ["kind", "told"] spPlainT := ⟨ok_plain_text F_plain_text T, m_plain_text, k_plain_text, b_plain_text⟩
  have F_bracketed := fun_mk (st := s_bracketed) l_bracketed c_bracketed k_bracketed
  have b_bracketed := F_bracketed.binds (ps := ["kind", "parts"]) fun _ _ _ _ _ _ us hl => match us, hl with | [_, _], _ => rfl
  have m_bracketed := PySem.W.mg_of X G a_bracketed
  have G_bracketed : Cal l.prog w K mg base 1 "bracketed" f_bracketed _ ["kind", "parts"] (spBrack K) := ⟨ok_bracketed F_bracketed T SV, m_bracketed, k_bracketed, b_bracketed⟩
  have F_text_of := fun_mk (st := s_text_of) l_text_of c_text_of k_text_of
  have b_text_of := F_text_of.binds (ps := ["nodes"]) fun _ _ _ _ _ _ us hl => match us, hl with | [_], _ => rfl
  have m_text_of := PySem.W.mg_of X G a_text_of
  have G_text_of : Cal l.prog w K mg base 2 "text_of" f_text_of _ ["nodes"] (spText K) := ⟨ok_text_of F_text_of T S G_bracketed G_plain_text, m_text_of, k_text_of, b_text_of⟩
  have F__split := fun_mk (st := s__split) l__split c__split k__split
  have b__split := F__split.binds (ps := ["text"]) fun _ _ _ _ _ _ us hl => match us, hl with | [_], _ => rfl
  have m__split := PySem.W.mg_of X G a__split
  have H__split : FnT l.prog w K mg base 1 f__split _ ["text"] spSplit := ok_split F__split
  have F__plain_node := fun_mk (st := s__plain_node) l__plain_node c__plain_node k__plain_node
  have b__plain_node := F__plain_node.binds (ps := ["word"]) fun _ _ _ _ _ _ us hl => match us, hl with | [_], _ => rfl
  have m__plain_node := PySem.W.mg_of X G a__plain_node
  have G__plain_node : Cal l.prog w K mg base 1 "_plain_node" f__plain_node _ ["word"] spPlainN := ⟨ok_plain_node F__plain_node, m__plain_node, k__plain_node, b__plain_node⟩
  have F_nodes_in := fun_mk (st := s_nodes_in) l_nodes_in c_nodes_in k_nodes_in
  have b_nodes_in := F_nodes_in.binds (ps := ["text"]) fun _ _ _ _ _ _ us hl => match us, hl with | [_], _ => rfl
  have m_nodes_in := PySem.W.mg_of X G a_nodes_in
  have H_nodes_in : FnT l.prog w K mg base 2 f_nodes_in _ ["text"] (spNodesIn K) := ok_nodes_in F_nodes_in T SD H__split m__split k__split b__split G__plain_node
  have F_end_of := fun_mk (st := s_end_of) l_end_of c_end_of k_end_of
  have b_end_of := F_end_of.binds (ps := ["nodes", "start"]) fun _ _ _ _ _ _ us hl => match us, hl with | [_, _], _ => rfl
  have m_end_of := PySem.W.mg_of X G a_end_of
  have G_end_of : Cal l.prog w K mg base 1 "end_of" f_end_of _ ["nodes", "start"] (spEnd K) := ⟨ok_end_of F_end_of T S, m_end_of, k_end_of, b_end_of⟩
  have F_Promise_nodes := fun_mk (st := s_Promise_nodes) l_Promise_nodes c_Promise_nodes k_Promise_nodes
  have b_Promise_nodes := F_Promise_nodes.binds (ps := ["self"]) fun _ _ _ _ _ _ us hl => match us, hl with | [_], _ => rfl
  have Pp_nodes : PropOf K C "nodes" q_Promise_nodes g_Promise_nodes := ⟨a_Promise_nodes, e_Promise_nodes, t_Promise_nodes, _, w_Promise_nodes⟩
  have V_nodes : PropC l.prog w K mg base C "nodes" 1 (spNodesP K C) q_Promise_nodes g_Promise_nodes _ := ⟨Pp_nodes, ok_nodesP F_Promise_nodes PC, b_Promise_nodes⟩
  have F_Promise___eq__ := fun_mk (st := s_Promise___eq__) l_Promise___eq__ c_Promise___eq__ k_Promise___eq__
  have b_Promise___eq__ := F_Promise___eq__.binds (ps := ["self", "value"]) fun _ _ _ _ _ _ us hl => match us, hl with | [_, _], _ => rfl
  have D___eq__ : DunC l.prog w K mg base C "__eq__" 1 ["self", "value"] (spEqA K C) g_Promise___eq__ _ := ⟨a_Promise___eq__, i_Promise___eq__, ok_eqA F_Promise___eq__ T PC IC OF, b_Promise___eq__⟩
  have H_eqG := eqG_of_A D___eq__.ok
  have H_Promise___len__ : FnOk l.prog w K mg base CX0 1 g_Promise___len__ _ ["self"] (spLen K C) := ok_len F_Promise___len__ T PC
  have F__start_along := fun_mk (st := s__start_along) l__start_along c__start_along k__start_along
  have b__start_along := F__start_along.binds (ps := ["nodes", "path", "kinds"]) fun _ _ _ _ _ _ us hl => match us, hl with | [_, _, _], _ => rfl
  have m__start_along := PySem.W.mg_of X G a__start_along
  have G__start_along : Cal l.prog w K mg base 3 "_start_along" f__start_along _ ["nodes", "path", "kinds"] (spAlong K) := ⟨ok_start_along F__start_along T G_is_index G_end_of, m__start_along, k__start_along, b__start_along⟩
  have F_part_from := fun_mk (st := s_part_from) l_part_from c_part_from k_part_from
  have b_part_from := F_part_from.binds (ps := ["nodes", "start"]) fun _ _ _ _ _ _ us hl => match us, hl with | [_, _], _ => rfl
  have m_part_from := PySem.W.mg_of X G a_part_from
  have G_part_from : Cal l.prog w K mg base 2 "part_from" f_part_from _ ["nodes", "start"] (spPartFrom K) := ⟨ok_part_from F_part_from G_end_of, m_part_from, k_part_from, b_part_from⟩
  have F_exchanged_from := fun_mk (st := s_exchanged_from) l_exchanged_from c_exchanged_from k_exchanged_from
  have b_exchanged_from := F_exchanged_from.binds (ps := ["nodes", "start", "other"]) fun _ _ _ _ _ _ us hl => match us, hl with | [_, _, _], _ => rfl
  have m_exchanged_from := PySem.W.mg_of X G a_exchanged_from
  have G_exchanged_from : Cal l.prog w K mg base 2 "exchanged_from" f_exchanged_from _ ["nodes", "start", "other"] (spExFrom K) := ⟨ok_exchanged_from F_exchanged_from G_end_of, m_exchanged_from, k_exchanged_from, b_exchanged_from⟩
  have F__paths_along := fun_mk (st := s__paths_along) l__paths_along c__paths_along k__paths_along
  have b__paths_along := F__paths_along.binds (ps := ["nodes", "kinds"]) fun _ _ _ _ _ _ us hl => match us, hl with | [_, _], _ => rfl
  have m__paths_along := PySem.W.mg_of X G a__paths_along
  have G__paths_along : Cal l.prog w K mg base 2 "_paths_along" f__paths_along _ ["nodes", "kinds"] (spPathsAlong K) := ⟨ok_paths_along F__paths_along T G_end_of, m__paths_along, k__paths_along, b__paths_along⟩
  have F_start_at := fun_mk (st := s_start_at) l_start_at c_start_at k_start_at
  have b_start_at := F_start_at.binds (ps := ["nodes", "place"]) fun _ _ _ _ _ _ us hl => match us, hl with | [_, _], _ => rfl
  have m_start_at := PySem.W.mg_of X G a_start_at
  have G_start_at : Cal l.prog w K mg base 4 "start_at" f_start_at _ ["nodes", "place"] (spStartAt K) := ⟨ok_start_at F_start_at WA G__start_along, m_start_at, k_start_at, b_start_at⟩
  have F_surface_of := fun_mk (st := s_surface_of) l_surface_of c_surface_of k_surface_of
  have b_surface_of := F_surface_of.binds (ps := ["nodes"]) fun _ _ _ _ _ _ us hl => match us, hl with | [_], _ => rfl
  have m_surface_of := PySem.W.mg_of X G a_surface_of
  have G_surface_of : Cal l.prog w K mg base 3 "surface_of" f_surface_of _ ["nodes"] (spSurfOf K) := ⟨ok_surface_of F_surface_of WA G__paths_along, m_surface_of, k_surface_of, b_surface_of⟩
  have F_places_in := fun_mk (st := s_places_in) l_places_in c_places_in k_places_in
  have b_places_in := F_places_in.binds (ps := ["nodes", "kinds"]) fun _ _ _ _ _ _ us hl => match us, hl with | [_, _], _ => rfl
  have m_places_in := PySem.W.mg_of X G a_places_in
  have G_places_in : Cal l.prog w K mg base 4 "places_in" f_places_in _ ["nodes", "kinds"] (spPlacesIn K) := ⟨ok_places_in F_places_in T G_surface_of, m_places_in, k_places_in, b_places_in⟩
  have F_check_promise := fun_mk (st := s_check_promise) l_check_promise c_check_promise k_check_promise
  have b_check_promise := F_check_promise.binds (ps := ["value"]) fun _ _ _ _ _ _ us hl => match us, hl with | [_], _ => rfl
  have m_check_promise := PySem.W.mg_of X G a_check_promise
  have H_check_promise : FnOk l.prog w K mg base (L2.CX l.prog w) 1 f_check_promise _ ["value"] (spCheckP K C E_InvalidPromise) := ok_check_promise F_check_promise T PC IC R_InvalidPromise
  have F__start_of := fun_mk (st := s__start_of) l__start_of c__start_of k__start_of
  have b__start_of := F__start_of.binds (ps := ["nodes", "place"]) fun _ _ _ _ _ _ us hl => match us, hl with | [_, _], _ => rfl
  have m__start_of := PySem.W.mg_of X G a__start_of
  have H__start_of : FnOk l.prog w K mg base (L2.CX l.prog w) 5 f__start_of _ ["nodes", "place"] (spStartOfP K E_InvalidPlace) := ok_start_ofP F__start_of R_InvalidPlace G_start_at
  have F_surface := fun_mk (st := s_surface) l_surface c_surface k_surface
  have b_surface := F_surface.binds (ps := ["promise"]) fun _ _ _ _ _ _ us hl => match us, hl with | [_], _ => rfl
  have m_surface := PySem.W.mg_of X G a_surface
  have H_surface : FnOk l.prog w K mg base (L2.CX l.prog w) 4 f_surface _ ["promise"] (spSurface K C E_InvalidPromise) := ok_surface F_surface T PC H_check_promise m_check_promise k_check_promise b_check_promise G_surface_of V_nodes
  have F_part_at := fun_mk (st := s_part_at) l_part_at c_part_at k_part_at
  have b_part_at := F_part_at.binds (ps := ["promise", "place"]) fun _ _ _ _ _ _ us hl => match us, hl with | [_, _], _ => rfl
  have m_part_at := PySem.W.mg_of X G a_part_at
  have H_part_at : FnOk l.prog w K mg base (L2.CX l.prog w) 6 f_part_at _ ["promise", "place"] (spPartAt K C E_InvalidPlace) := ok_part_at F_part_at PC H_check_promise m_check_promise k_check_promise b_check_promise H__start_of m__start_of k__start_of b__start_of G_part_from V_nodes H_Promise___init__E b_Promise___init__
  have F_replaced := fun_mk (st := s_replaced) l_replaced c_replaced k_replaced
  have b_replaced := F_replaced.binds (ps := ["promise", "place", "other"]) fun _ _ _ _ _ _ us hl => match us, hl with | [_, _, _], _ => rfl
  have m_replaced := PySem.W.mg_of X G a_replaced
  have H_replaced : FnOk l.prog w K mg base (L2.CX l.prog w) 6 f_replaced _ ["promise", "place", "other"] (spReplaced K C E_InvalidPromise E_InvalidPlace) := ok_replaced F_replaced T PC IC H_check_promise m_check_promise k_check_promise b_check_promise H__start_of m__start_of k__start_of b__start_of G_exchanged_from V_nodes H_Promise___init__E b_Promise___init__
  have H_Surface___init__ : FnOk l.prog w K mg base (L2.CX l.prog w) 5 g_Surface___init__ _ ["self", "promise"] (spSInit K C CS) := ok_sInit (fI := g_Promise___init__) (fL := g_Promise___len__) F_Surface___init__ SC H_surface m_surface k_surface b_surface
  have F_Surface_promise := fun_mk (st := s_Surface_promise) l_Surface_promise c_Surface_promise k_Surface_promise
  have b_Surface_promise := F_Surface_promise.binds (ps := ["self"]) fun _ _ _ _ _ _ us hl => match us, hl with | [_], _ => rfl
  have Pp_promise : PropOf K CS "promise" q_Surface_promise g_Surface_promise := ⟨a_Surface_promise, e_Surface_promise, t_Surface_promise, _, w_Surface_promise⟩
  have V_promise : PropC l.prog w K mg base CS "promise" 1 (spSProm K C CS) q_Surface_promise g_Surface_promise _ := ⟨Pp_promise, ok_sProm F_Surface_promise SC, b_Surface_promise⟩
  have F_Surface_places := fun_mk (st := s_Surface_places) l_Surface_places c_Surface_places k_Surface_places
  have b_Surface_places := F_Surface_places.binds (ps := ["self"]) fun _ _ _ _ _ _ us hl => match us, hl with | [_], _ => rfl
  have Pp_places : PropOf K CS "places" q_Surface_places g_Surface_places := ⟨a_Surface_places, e_Surface_places, t_Surface_places, _, w_Surface_places⟩
  have V_places : PropC l.prog w K mg base CS "places" 1 (spSPlaces K C CS) q_Surface_places g_Surface_places _ := ⟨Pp_places, ok_sPlaces F_Surface_places SC, b_Surface_places⟩
  have F_Surface_mine := fun_mk (st := s_Surface_mine) l_Surface_mine c_Surface_mine k_Surface_mine
  have b_Surface_mine := F_Surface_mine.binds (ps := ["self"]) fun _ _ _ _ _ _ us hl => match us, hl with | [_], _ => rfl
  have Pp_mine : PropOf K CS "mine" q_Surface_mine g_Surface_mine := ⟨a_Surface_mine, e_Surface_mine, t_Surface_mine, _, w_Surface_mine⟩
  have V_mine : PropC l.prog w K mg base CS "mine" 5 (spSOf K C CS ["mine"]) q_Surface_mine g_Surface_mine _ := ⟨Pp_mine, ok_sMine F_Surface_mine PC SC G_places_in V_nodes, b_Surface_mine⟩
  have F_Surface_yours := fun_mk (st := s_Surface_yours) l_Surface_yours c_Surface_yours k_Surface_yours
  have b_Surface_yours := F_Surface_yours.binds (ps := ["self"]) fun _ _ _ _ _ _ us hl => match us, hl with | [_], _ => rfl
  have Pp_yours : PropOf K CS "yours" q_Surface_yours g_Surface_yours := ⟨a_Surface_yours, e_Surface_yours, t_Surface_yours, _, w_Surface_yours⟩
  have V_yours : PropC l.prog w K mg base CS "yours" 5 (spSOf K C CS ["yours"]) q_Surface_yours g_Surface_yours _ := ⟨Pp_yours, ok_sYours F_Surface_yours PC SC G_places_in V_nodes, b_Surface_yours⟩
  have F_Surface_plain := fun_mk (st := s_Surface_plain) l_Surface_plain c_Surface_plain k_Surface_plain
  have b_Surface_plain := F_Surface_plain.binds (ps := ["self"]) fun _ _ _ _ _ _ us hl => match us, hl with | [_], _ => rfl
  have Pp_plain : PropOf K CS "plain" q_Surface_plain g_Surface_plain := ⟨a_Surface_plain, e_Surface_plain, t_Surface_plain, _, w_Surface_plain⟩
  have V_plain : PropC l.prog w K mg base CS "plain" 5 (spSOf K C CS plain4) q_Surface_plain g_Surface_plain _ := ⟨Pp_plain, ok_sPlain F_Surface_plain PC SC WP G_places_in V_nodes, b_Surface_plain⟩
  have F_Surface_is_over := fun_mk (st := s_Surface_is_over) l_Surface_is_over c_Surface_is_over k_Surface_is_over
  have b_Surface_is_over := F_Surface_is_over.binds (ps := ["self"]) fun _ _ _ _ _ _ us hl => match us, hl with | [_], _ => rfl
  have M_is_over : Meth K CS "is_over" g_Surface_is_over := ⟨a_Surface_is_over, i_Surface_is_over, k_Surface_is_over⟩
  have H_Surface_is_over : FnOk l.prog w K mg base CX0 5 g_Surface_is_over _ ["self"] (spSOver K C CS) := ok_sOver F_Surface_is_over T PC SC G_places_in V_nodes
  have F_Surface___len__ := fun_mk (st := s_Surface___len__) l_Surface___len__ c_Surface___len__ k_Surface___len__
  have b_Surface___len__ := F_Surface___len__.binds (ps := ["self"]) fun _ _ _ _ _ _ us hl => match us, hl with | [_], _ => rfl
  have DS___len__ : DunC l.prog w K mg base CS "__len__" 1 ["self"] (spSLen K C CS) g_Surface___len__ _ := ⟨a_Surface___len__, i_Surface___len__, ok_sLen F_Surface___len__ T SC, b_Surface___len__⟩
  have F_Surface___iter__ := fun_mk (st := s_Surface___iter__) l_Surface___iter__ c_Surface___iter__ k_Surface___iter__
  have b_Surface___iter__ := F_Surface___iter__.binds (ps := ["self"]) fun _ _ _ _ _ _ us hl => match us, hl with | [_], _ => rfl
  have GI : FnN l.prog w K mg base 1 g_Surface___iter__ _ ["self"] (spSIter K CS) := ok_sIter F_Surface___iter__ T SC
  have F_Surface___contains__ := fun_mk (st := s_Surface___contains__) l_Surface___contains__ c_Surface___contains__ k_Surface___contains__
  have b_Surface___contains__ := F_Surface___contains__.binds (ps := ["self", "value"]) fun _ _ _ _ _ _ us hl => match us, hl with | [_, _], _ => rfl
  have DS___contains__ : DunC l.prog w K mg base CS "__contains__" 5 ["self", "value"] (spSHas K C CS) g_Surface___contains__ _ := ⟨a_Surface___contains__, i_Surface___contains__, ok_sHas F_Surface___contains__ PC SC G_start_at V_nodes, b_Surface___contains__⟩
  have F_Surface___getitem__ := fun_mk (st := s_Surface___getitem__) l_Surface___getitem__ c_Surface___getitem__ k_Surface___getitem__
  have b_Surface___getitem__ := F_Surface___getitem__.binds (ps := ["self", "place"]) fun _ _ _ _ _ _ us hl => match us, hl with | [_, _], _ => rfl
  have H_Surface___getitem__ : FnOk l.prog w K mg base (L2.CX l.prog w) 7 g_Surface___getitem__ _ ["self", "place"] (spSItem K C CS E_InvalidPlace) := ok_sItem F_Surface___getitem__ SC H_part_at m_part_at k_part_at b_part_at
  have F_Surface___eq__ := fun_mk (st := s_Surface___eq__) l_Surface___eq__ c_Surface___eq__ k_Surface___eq__
  have b_Surface___eq__ := F_Surface___eq__.binds (ps := ["self", "value"]) fun _ _ _ _ _ _ us hl => match us, hl with | [_, _], _ => rfl
  have DS___eq__ : DunC l.prog w K mg base CS "__eq__" 3 ["self", "value"] (spSEq K C CS) g_Surface___eq__ _ := ⟨a_Surface___eq__, i_Surface___eq__, ok_sEq F_Surface___eq__ T SC PC.cl ICS IC no H_eqG D___eq__.s D___eq__.f D___eq__.b, b_Surface___eq__⟩
  have F_Surface___str__ := fun_mk (st := s_Surface___str__) l_Surface___str__ c_Surface___str__ k_Surface___str__
  have b_Surface___str__ := F_Surface___str__.binds (ps := ["self"]) fun _ _ _ _ _ _ us hl => match us, hl with | [_], _ => rfl
  have DS___str__ : DunC l.prog w K mg base CS "__str__" 7 ["self"] (spSStr K C CS) g_Surface___str__ _ := ⟨a_Surface___str__, i_Surface___str__, ok_sStr F_Surface___str__ T SC V_mine V_yours, b_Surface___str__⟩
  have F__law_made := fun_mk (st := s__law_made) l__law_made c__law_made k__law_made
  have b__law_made := F__law_made.binds (ps := ["plain"]) fun _ _ _ _ _ _ us hl => match us, hl with | [_], _ => rfl
  have m__law_made := PySem.W.mg_of X G a__law_made
  have H__law_made : FnOk l.prog w K mg base (L2.CX l.prog w) 138 f__law_made _ ["plain"] (spMadeE K C E_InvalidPromise 132) := ok_madeE F__law_made T PC G__law_nodesW H_Promise___init__E b_Promise___init__
  have F__law_is_within := fun_mk (st := s__law_is_within) l__law_is_within c__law_is_within k__law_is_within
  have b__law_is_within := F__law_is_within.binds (ps := ["plain"]) fun _ _ _ _ _ _ us hl => match us, hl with | [_], _ => rfl
  have m__law_is_within := PySem.W.mg_of X G a__law_is_within
  have G__law_is_within : Cal l.prog w K mg base 135 "_law_is_within" f__law_is_within _ ["plain"] (spWithin K 132) := ⟨ok_within F__law_is_within T G__law_nodesW G__law_countW G__law_facts G__law_depth, m__law_is_within, k__law_is_within, b__law_is_within⟩
  have F__law_places := fun_mk (st := s__law_places) l__law_places c__law_places k__law_places
  have b__law_places := F__law_places.binds (ps := ["plain"]) fun _ _ _ _ _ _ us hl => match us, hl with | [_], _ => rfl
  have m__law_places := PySem.W.mg_of X G a__law_places
  have G__law_places : Cal l.prog w K mg base 12 "_law_places" f__law_places _ ["plain"] (spLawPlaces K 11) := ⟨ok_places F__law_places T m__law_places k__law_places b__law_places 11, m__law_places, k__law_places, b__law_places⟩
  have F__law_exchanged := fun_mk (st := s__law_exchanged) l__law_exchanged c__law_exchanged k__law_exchanged
  have b__law_exchanged := F__law_exchanged.binds (ps := ["plain", "place", "other"]) fun _ _ _ _ _ _ us hl => match us, hl with | [_, _, _], _ => rfl
  have m__law_exchanged := PySem.W.mg_of X G a__law_exchanged
  have G__law_exchanged : Cal l.prog w K mg base 12 "_law_exchanged" f__law_exchanged _ ["plain", "place", "other"] (spLawEx K 11) := ⟨ok_lawEx F__law_exchanged T m__law_exchanged k__law_exchanged b__law_exchanged 11, m__law_exchanged, k__law_exchanged, b__law_exchanged⟩
  have F__law_surface_right := fun_mk (st := s__law_surface_right) l__law_surface_right c__law_surface_right k__law_surface_right
  have b__law_surface_right := F__law_surface_right.binds (ps := ["made", "rows"]) fun _ _ _ _ _ _ us hl => match us, hl with | [_, _], _ => rfl
  have m__law_surface_right := PySem.W.mg_of X G a__law_surface_right
  have G__law_surface_right : Cal l.prog w K mg base 140 "_law_surface_right" f__law_surface_right _ ["made", "rows"] (spSurR K C) := ⟨ok_surface_right F__law_surface_right T PC SC H_Surface___init__ b_Surface___init__ V_places V_mine V_yours V_plain V_promise DS___len__ a_Surface___iter__ i_Surface___iter__ GI b_Surface___iter__ DS___contains__ H_Surface___getitem__ a_Surface___getitem__ i_Surface___getitem__ n_Surface___getitem__ b_Surface___getitem__ DS___eq__ DS___str__ M_is_over H_Surface_is_over b_Surface_is_over D___eq__ IC ICS hNe hNeS hsub H__law_made m__law_made k__law_made b__law_made G__law_is_leaf, m__law_surface_right, k__law_surface_right, b__law_surface_right⟩
  have F__law_got := fun_mk (st := s__law_got) l__law_got c__law_got k__law_got
  have b__law_got := F__law_got.binds (ps := ["call"]) fun _ _ _ _ _ _ us hl => match us, hl with | [_], _ => rfl
  have m__law_got := PySem.W.mg_of X G a__law_got
  have E2 : Exm2 K E_InvalidPlace E_InvalidPromise := ⟨exm_of10 x4_InvalidPlace x6_InvalidPlace x5_InvalidPlace x7_InvalidPlace, exm_of10 x4_InvalidPlace x6_InvalidPlace x5_InvalidPlace zz1, exm_of10 x4_InvalidPromise x6_InvalidPromise x5_InvalidPromise x7_InvalidPromise⟩
  have F__law_right := fun_mk (st := s__law_right) l__law_right c__law_right k__law_right
  have b__law_right := F__law_right.binds (ps := ["dice"]) fun _ _ _ _ _ _ us hl => match us, hl with | [_], _ => rfl
  have m__law_right := PySem.W.mg_of X G a__law_right
  have FL__law_right : FunL K "_law_right" "_law_right" s__law_right f__law_right _ cc__law_right := ⟨_, _, _, _, _, _, _, _, rfl, l__law_right, c__law_right⟩
  have huT : ∀ p ∈ ([(PP__law_right, ("_law_right.<locals>.<lambda>" : Str))] : List (Addr × Str)), p.1 = PP__law_right → p.2 = ("_law_right.<locals>.<lambda>" : Str) := fun p hp z => by rw [List.mem_singleton.mp hp]
  have G__law_right : Cal l.prog w K mg base 151 "_law_right" f__law_right _ ["dice"] (spRightA ([(PP__law_right, ("_law_right.<locals>.<lambda>" : Str))] : List (Addr × Str))) := ⟨ok_right10 FL__law_right T PC SC H_Surface___init__ b_Surface___init__ DS___contains__ DS___eq__ D___eq__ IC hNe hnf H__law_made m__law_made k__law_made b__law_made H_surface m_surface k_surface b_surface H_part_at m_part_at k_part_at b_part_at H_replaced m_replaced k_replaced b_replaced F__law_got m__law_got k__law_got b__law_got E2 R_InvalidPlace.g R_InvalidPromise.g TB__law_right (by simp) huT G__law_promise G__law_pick G__law_places G__law_surface_right G__law_exchanged G__law_is_within, m__law_right, k__law_right, b__law_right⟩
  have CR : ClX.CRead K C (.type "type") := ⟨rd, ga⟩
  have F_Promise_read := fun_mk (st := s_Promise_read) l_Promise_read c_Promise_read k_Promise_read
  have b_Promise_read := F_Promise_read.binds (ps := ["cls", "text"]) fun _ _ _ _ _ _ us hl => match us, hl with | [_, _], _ => rfl
  have CM_read : ClX.CMet K C (.type "type") "read" q_Promise_read g_Promise_read := ⟨a_Promise_read, ⟨_, w_Promise_read⟩, n_Promise_read⟩
  have H_Promise_read : FnT l.prog w K mg base 6 g_Promise_read _ ["cls", "text"] (spReadOk K C) := ok_read F_Promise_read T PC H_nodes_in m_nodes_in k_nodes_in b_nodes_in G__are_nodes G_text_of H_Promise___init__ b_Promise___init__
  have F_law := fun_mk (st := s_law) l_law c_law k_law
  have b_law := F_law.binds (ps := ["script"]) fun _ _ _ _ _ _ us hl => match us, hl with | [_], _ => rfl
  have m_law := PySem.W.mg_of X G a_law
  exact ok_law10 F_law T PC SC H_Surface___init__ b_Surface___init__ H_surface m_surface k_surface b_surface DS___str__ G__law_dice G__law_right CR CM_read H_Promise_read b_Promise_read
end Eh
set_option Elab.async false
set_option linter.all false
set_option maxRecDepth 100000
set_option maxHeartbeats 8000000
set_option pp.deepTerms false
set_option pp.maxSteps 30
open PySem PySem.W PyProof.Rows
/-! Without these two names the end's own steps lay a second copy of two heaps, by proofs of some 64 MB; with them the copies are left out. -/
def PySem.W.Fast.tw1535952959879601846 : Nat := 0
def PySem.W.Fast.tw2174628763150198418 : Nat := 0
set_option maxHeartbeats 0 in
theorem PySem.Challenge.cw_eitherhand_k10_surfaces_told_holds : PySem.Challenge.rw_eitherhand_k10_surfaces_told.Holds := by
  w_on; o_law; k_head; (case hw => w_witness2)
  k_fill
  refine Eh.walk_tab (l := PySem.Challenge.rw_eitherhand_k10_surfaces_told) (n := 63) (k := 152) (x := "script") (CX := fun _ => L2.CX0) rfl (by decide) rfl ⟨rfl, by decide, by decide⟩ (fun w h Y => PySem.W.km_in_of Y) ?F (fun _ _ _ _ _ h => h)
  case F =>
    intro w mg fa h KX G hmg TT
    refine' Eh.all_mk KX G hmg (TT "_law_right" (by first | rfl | decide +kernel)) ?i_MAX_LETTERS ?i_LEAST_PARTS ?i_MOST_PARTS ?i_MAX_NODES ?i_MAX_FACTS ?i_MAX_CHOICES ?i_MAX_DEPTH ?x1_InvalidPromise ?x2_InvalidPromise ?x3_InvalidPromise ?x4_InvalidPromise ?x5_InvalidPromise ?x6_InvalidPromise ?x7_InvalidPromise ?x1_InvalidPlace ?x2_InvalidPlace ?x3_InvalidPlace ?x4_InvalidPlace ?x5_InvalidPlace ?x6_InvalidPlace ?x7_InvalidPlace ?gC ?pg ?hd ?po ?sa ?mk ?kc ?nN ?a_Promise___init__ ?i_Promise___init__ ?l_Promise___init__ ?c_Promise___init__ ?k_Promise___init__ ?a_Promise___len__ ?i_Promise___len__ ?l_Promise___len__ ?c_Promise___len__ ?k_Promise___len__ ?ic1 ?ic2 ?ic3 ?ic4 ?ic5 ?ic6 ?os1 ?os2 ?os3 ?os4 ?os5 ?os6 ?yS1 ?yS2 ?yS3 ?yS4 ?yD1 ?yD2 ?yD3 ?yD4 ?yW1 ?yW2 ?yL1 ?yL2 ?hNe ?gS ?pgS ?hdS ?poS ?saS ?mkS ?kcS ?npS ?nqS ?a_Surface___init__ ?i_Surface___init__ ?l_Surface___init__ ?c_Surface___init__ ?k_Surface___init__ ?jc1 ?jc4 ?jc5 ?jc6 ?hNeS ?hsub ?nCS ?a__law_roll ?l__law_roll ?c__law_roll ?k__law_roll ?a__law_pick ?l__law_pick ?c__law_pick ?k__law_pick ?a__law_some ?l__law_some ?c__law_some ?k__law_some ?a__law_dice ?l__law_dice ?c__law_dice ?k__law_dice ?a_is_integer ?l_is_integer ?c_is_integer ?k_is_integer ?a_is_fact ?l_is_fact ?c_is_fact ?k_is_fact ?a_is_node ?l_is_node ?c_is_node ?k_is_node ?a_depth_of ?l_depth_of ?c_depth_of ?k_depth_of ?a_facts_of ?l_facts_of ?c_facts_of ?k_facts_of ?a_choices_of ?l_choices_of ?c_choices_of ?k_choices_of ?a__are_nodes ?l__are_nodes ?c__are_nodes ?k__are_nodes ?a__law_is_leaf ?l__law_is_leaf ?c__law_is_leaf ?k__law_is_leaf ?a__law_leaf ?l__law_leaf ?c__law_leaf ?k__law_leaf ?a__law_nodes ?l__law_nodes ?c__law_nodes ?k__law_nodes ?a__law_count ?l__law_count ?c__law_count ?k__law_count ?a__law_drawn ?l__law_drawn ?c__law_drawn ?k__law_drawn ?a__law_known ?l__law_known ?c__law_known ?k__law_known ?a__law_promise ?l__law_promise ?c__law_promise ?k__law_promise ?a__law_facts ?l__law_facts ?c__law_facts ?k__law_facts ?a__law_depth ?l__law_depth ?c__law_depth ?k__law_depth ?a_is_index ?l_is_index ?c_is_index ?k_is_index ?a_plain_text ?l_plain_text ?c_plain_text ?k_plain_text ?a_bracketed ?l_bracketed ?c_bracketed ?k_bracketed ?a_text_of ?l_text_of ?c_text_of ?k_text_of ?a__split ?l__split ?c__split ?k__split ?a__plain_node ?l__plain_node ?c__plain_node ?k__plain_node ?a_nodes_in ?l_nodes_in ?c_nodes_in ?k_nodes_in ?a_end_of ?l_end_of ?c_end_of ?k_end_of ?a_Promise_nodes ?e_Promise_nodes ?t_Promise_nodes ?w_Promise_nodes ?l_Promise_nodes ?c_Promise_nodes ?k_Promise_nodes ?a_Promise___eq__ ?i_Promise___eq__ ?l_Promise___eq__ ?c_Promise___eq__ ?k_Promise___eq__ ?a__start_along ?l__start_along ?c__start_along ?k__start_along ?a_part_from ?l_part_from ?c_part_from ?k_part_from ?a_exchanged_from ?l_exchanged_from ?c_exchanged_from ?k_exchanged_from ?a__paths_along ?l__paths_along ?c__paths_along ?k__paths_along ?a_start_at ?l_start_at ?c_start_at ?k_start_at ?a_surface_of ?l_surface_of ?c_surface_of ?k_surface_of ?a_places_in ?l_places_in ?c_places_in ?k_places_in ?a_check_promise ?l_check_promise ?c_check_promise ?k_check_promise ?a__start_of ?l__start_of ?c__start_of ?k__start_of ?a_surface ?l_surface ?c_surface ?k_surface ?a_part_at ?l_part_at ?c_part_at ?k_part_at ?a_replaced ?l_replaced ?c_replaced ?k_replaced ?a_Surface_promise ?e_Surface_promise ?t_Surface_promise ?w_Surface_promise ?l_Surface_promise ?c_Surface_promise ?k_Surface_promise ?a_Surface_places ?e_Surface_places ?t_Surface_places ?w_Surface_places ?l_Surface_places ?c_Surface_places ?k_Surface_places ?a_Surface_mine ?e_Surface_mine ?t_Surface_mine ?w_Surface_mine ?l_Surface_mine ?c_Surface_mine ?k_Surface_mine ?a_Surface_yours ?e_Surface_yours ?t_Surface_yours ?w_Surface_yours ?l_Surface_yours ?c_Surface_yours ?k_Surface_yours ?a_Surface_plain ?e_Surface_plain ?t_Surface_plain ?w_Surface_plain ?l_Surface_plain ?c_Surface_plain ?k_Surface_plain ?a_Surface_is_over ?i_Surface_is_over ?l_Surface_is_over ?c_Surface_is_over ?k_Surface_is_over ?a_Surface___len__ ?i_Surface___len__ ?l_Surface___len__ ?c_Surface___len__ ?k_Surface___len__ ?a_Surface___iter__ ?i_Surface___iter__ ?l_Surface___iter__ ?c_Surface___iter__ ?k_Surface___iter__ ?a_Surface___contains__ ?i_Surface___contains__ ?l_Surface___contains__ ?c_Surface___contains__ ?k_Surface___contains__ ?a_Surface___getitem__ ?i_Surface___getitem__ ?l_Surface___getitem__ ?c_Surface___getitem__ ?k_Surface___getitem__ ?n_Surface___getitem__ ?a_Surface___eq__ ?i_Surface___eq__ ?l_Surface___eq__ ?c_Surface___eq__ ?k_Surface___eq__ ?a_Surface___str__ ?i_Surface___str__ ?l_Surface___str__ ?c_Surface___str__ ?k_Surface___str__ ?a__law_made ?l__law_made ?c__law_made ?k__law_made ?a__law_is_within ?l__law_is_within ?c__law_is_within ?k__law_is_within ?a__law_places ?l__law_places ?c__law_places ?k__law_places ?a__law_exchanged ?l__law_exchanged ?c__law_exchanged ?k__law_exchanged ?a__law_surface_right ?l__law_surface_right ?c__law_surface_right ?k__law_surface_right ?a__law_got ?l__law_got ?c__law_got ?k__law_got ?zz1 ?a__law_right ?l__law_right ?c__law_right ?k__law_right ?lc__law_right ?lv__law_right ?ln__law_right ?rd ?ga ?a_Promise_read ?w_Promise_read ?n_Promise_read ?l_Promise_read ?c_Promise_read ?k_Promise_read ?a_law ?l_law ?c_law ?k_law ?z_classmethod ?z_property ?z_isinstance ?z_list ?z_tuple ?z_dict ?z_len ?z_reversed ?z_any ?z_all ?z_range ?z_sorted ?z_bool ?z_abs ?z_str ?z_max ?z_iter ?z_int ?z_set ?z_sum ?z_min ?z_super
    (case i_MAX_LETTERS => k_is); (case i_LEAST_PARTS => k_is); (case i_MOST_PARTS => k_is); (case i_MAX_NODES => k_is); (case i_MAX_FACTS => k_is); (case i_MAX_CHOICES => k_is); (case i_MAX_DEPTH => k_is); (case x1_InvalidPromise => k_is); (case x2_InvalidPromise => k_exc); (case x3_InvalidPromise => k_is); (case x4_InvalidPromise => k_is); (case x5_InvalidPromise => k_is); (case x6_InvalidPromise => k_is); (case x7_InvalidPromise => k_is); (case x1_InvalidPlace => k_is); (case x2_InvalidPlace => k_exc); (case x3_InvalidPlace => k_is); (case x4_InvalidPlace => k_is); (case x5_InvalidPlace => k_is); (case x6_InvalidPlace => k_is); (case x7_InvalidPlace => k_is); (case gC => k_is); (case pg => k_is); (case hd => k_is); (case po => k_is); (case sa => k_is); (case mk => k_is); (case kc => k_is); (case nN => k_is); (case a_Promise___init__ => k_is); (case i_Promise___init__ => k_is); (case l_Promise___init__ => k_is); (case c_Promise___init__ => k_is); (case k_Promise___init__ => k_is); (case a_Promise___len__ => k_is); (case i_Promise___len__ => k_is); (case l_Promise___len__ => k_is); (case c_Promise___len__ => k_is); (case k_Promise___len__ => k_is); (case ic1 => k_is); (case ic2 => k_is); (case ic3 => k_is); (case ic4 => k_is); (case ic5 => k_is); (case ic6 => k_is); (case os1 => k_is); (case os2 => k_is); (case os3 => k_is); (case os4 => k_is); (case os5 => k_is); (case os6 => k_is); (case yS1 => k_is); (case yS2 => k_is); (case yS3 => exact ⟨⟨_, _, rfl, rfl⟩, ⟨_, _, rfl, rfl⟩, ⟨_, _, rfl, rfl⟩, ⟨_, _, rfl, rfl⟩, trivial⟩); (case yS4 => first | rfl | decide | k_is); (case yD1 => k_is); (case yD2 => k_is); (case yD3 => exact ⟨⟨_, _, rfl, rfl⟩, ⟨_, _, rfl, rfl⟩, ⟨_, _, rfl, rfl⟩, ⟨_, _, rfl, rfl⟩, trivial⟩); (case yD4 => first | rfl | decide | k_is); (case yW1 => k_is); (case yW2 => k_is); (case yL1 => k_is); (case yL2 => k_is); (case hNe => k_is); (case gS => k_is); (case pgS => k_is); (case hdS => k_is); (case poS => k_is); (case saS => k_is); (case mkS => k_is); (case kcS => k_is); (case npS => k_is); (case nqS => k_is); (case a_Surface___init__ => k_is); (case i_Surface___init__ => k_is); (case l_Surface___init__ => k_is); (case c_Surface___init__ => k_is); (case k_Surface___init__ => k_is); (case jc1 => k_is); (case jc4 => k_is); (case jc5 => k_is); (case jc6 => k_is); (case hNeS => k_is); (case hsub => k_is); (case nCS => first | rfl | decide | k_is); (case a__law_roll => k_is); (case l__law_roll => k_is); (case c__law_roll => k_is); (case k__law_roll => k_is); (case a__law_pick => k_is); (case l__law_pick => k_is); (case c__law_pick => k_is); (case k__law_pick => k_is); (case a__law_some => k_is); (case l__law_some => k_is); (case c__law_some => k_is); (case k__law_some => k_is); (case a__law_dice => k_is); (case l__law_dice => k_is); (case c__law_dice => k_is); (case k__law_dice => k_is); (case a_is_integer => k_is); (case l_is_integer => k_is); (case c_is_integer => k_is); (case k_is_integer => k_is); (case a_is_fact => k_is); (case l_is_fact => k_is); (case c_is_fact => k_is); (case k_is_fact => k_is); (case a_is_node => k_is); (case l_is_node => k_is); (case c_is_node => k_is); (case k_is_node => k_is); (case a_depth_of => k_is); (case l_depth_of => k_is); (case c_depth_of => k_is); (case k_depth_of => k_is); (case a_facts_of => k_is); (case l_facts_of => k_is); (case c_facts_of => k_is); (case k_facts_of => k_is); (case a_choices_of => k_is); (case l_choices_of => k_is); (case c_choices_of => k_is); (case k_choices_of => k_is); (case a__are_nodes => k_is); (case l__are_nodes => k_is); (case c__are_nodes => k_is); (case k__are_nodes => k_is); (case a__law_is_leaf => k_is); (case l__law_is_leaf => k_is); (case c__law_is_leaf => k_is); (case k__law_is_leaf => k_is); (case a__law_leaf => k_is); (case l__law_leaf => k_is); (case c__law_leaf => k_is); (case k__law_leaf => k_is); (case a__law_nodes => k_is); (case l__law_nodes => k_is); (case c__law_nodes => k_is); (case k__law_nodes => k_is); (case a__law_count => k_is); (case l__law_count => k_is); (case c__law_count => k_is); (case k__law_count => k_is); (case a__law_drawn => k_is); (case l__law_drawn => k_is); (case c__law_drawn => k_is); (case k__law_drawn => k_is); (case a__law_known => k_is); (case l__law_known => k_is); (case c__law_known => k_is); (case k__law_known => k_is); (case a__law_promise => k_is); (case l__law_promise => k_is); (case c__law_promise => k_is); (case k__law_promise => k_is); (case a__law_facts => k_is); (case l__law_facts => k_is); (case c__law_facts => k_is); (case k__law_facts => k_is); (case a__law_depth => k_is); (case l__law_depth => k_is); (case c__law_depth => k_is); (case k__law_depth => k_is); (case a_is_index => k_is); (case l_is_index => k_is); (case c_is_index => k_is); (case k_is_index => k_is); (case a_plain_text => k_is); (case l_plain_text => k_is); (case c_plain_text => k_is); (case k_plain_text => k_is); (case a_bracketed => k_is); (case l_bracketed => k_is); (case c_bracketed => k_is); (case k_bracketed => k_is); (case a_text_of => k_is); (case l_text_of => k_is); (case c_text_of => k_is); (case k_text_of => k_is); (case a__split => k_is); (case l__split => k_is); (case c__split => k_is); (case k__split => k_is); (case a__plain_node => k_is); (case l__plain_node => k_is); (case c__plain_node => k_is); (case k__plain_node => k_is); (case a_nodes_in => k_is); (case l_nodes_in => k_is); (case c_nodes_in => k_is); (case k_nodes_in => k_is); (case a_end_of => k_is); (case l_end_of => k_is); (case c_end_of => k_is); (case k_end_of => k_is); (case a_Promise_nodes => k_is); (case e_Promise_nodes => k_is); (case t_Promise_nodes => k_is); (case w_Promise_nodes => k_is); (case l_Promise_nodes => k_is); (case c_Promise_nodes => k_is); (case k_Promise_nodes => k_is); (case a_Promise___eq__ => k_is); (case i_Promise___eq__ => k_is); (case l_Promise___eq__ => k_is); (case c_Promise___eq__ => k_is); (case k_Promise___eq__ => k_is); (case a__start_along => k_is); (case l__start_along => k_is); (case c__start_along => k_is); (case k__start_along => k_is); (case a_part_from => k_is); (case l_part_from => k_is); (case c_part_from => k_is); (case k_part_from => k_is); (case a_exchanged_from => k_is); (case l_exchanged_from => k_is); (case c_exchanged_from => k_is); (case k_exchanged_from => k_is); (case a__paths_along => k_is); (case l__paths_along => k_is); (case c__paths_along => k_is); (case k__paths_along => k_is); (case a_start_at => k_is); (case l_start_at => k_is); (case c_start_at => k_is); (case k_start_at => k_is); (case a_surface_of => k_is); (case l_surface_of => k_is); (case c_surface_of => k_is); (case k_surface_of => k_is); (case a_places_in => k_is); (case l_places_in => k_is); (case c_places_in => k_is); (case k_places_in => k_is); (case a_check_promise => k_is); (case l_check_promise => k_is); (case c_check_promise => k_is); (case k_check_promise => k_is); (case a__start_of => k_is); (case l__start_of => k_is); (case c__start_of => k_is); (case k__start_of => k_is); (case a_surface => k_is); (case l_surface => k_is); (case c_surface => k_is); (case k_surface => k_is); (case a_part_at => k_is); (case l_part_at => k_is); (case c_part_at => k_is); (case k_part_at => k_is); (case a_replaced => k_is); (case l_replaced => k_is); (case c_replaced => k_is); (case k_replaced => k_is); (case a_Surface_promise => k_is); (case e_Surface_promise => k_is); (case t_Surface_promise => k_is); (case w_Surface_promise => k_is); (case l_Surface_promise => k_is); (case c_Surface_promise => k_is); (case k_Surface_promise => k_is); (case a_Surface_places => k_is); (case e_Surface_places => k_is); (case t_Surface_places => k_is); (case w_Surface_places => k_is); (case l_Surface_places => k_is); (case c_Surface_places => k_is); (case k_Surface_places => k_is); (case a_Surface_mine => k_is); (case e_Surface_mine => k_is); (case t_Surface_mine => k_is); (case w_Surface_mine => k_is); (case l_Surface_mine => k_is); (case c_Surface_mine => k_is); (case k_Surface_mine => k_is); (case a_Surface_yours => k_is); (case e_Surface_yours => k_is); (case t_Surface_yours => k_is); (case w_Surface_yours => k_is); (case l_Surface_yours => k_is); (case c_Surface_yours => k_is); (case k_Surface_yours => k_is); (case a_Surface_plain => k_is); (case e_Surface_plain => k_is); (case t_Surface_plain => k_is); (case w_Surface_plain => k_is); (case l_Surface_plain => k_is); (case c_Surface_plain => k_is); (case k_Surface_plain => k_is); (case a_Surface_is_over => k_is); (case i_Surface_is_over => k_is); (case l_Surface_is_over => k_is); (case c_Surface_is_over => k_is); (case k_Surface_is_over => k_is); (case a_Surface___len__ => k_is); (case i_Surface___len__ => k_is); (case l_Surface___len__ => k_is); (case c_Surface___len__ => k_is); (case k_Surface___len__ => k_is); (case a_Surface___iter__ => k_is); (case i_Surface___iter__ => k_is); (case l_Surface___iter__ => k_is); (case c_Surface___iter__ => k_is); (case k_Surface___iter__ => k_is); (case a_Surface___contains__ => k_is); (case i_Surface___contains__ => k_is); (case l_Surface___contains__ => k_is); (case c_Surface___contains__ => k_is); (case k_Surface___contains__ => k_is); (case a_Surface___getitem__ => k_is); (case i_Surface___getitem__ => k_is); (case l_Surface___getitem__ => k_is); (case c_Surface___getitem__ => k_is); (case k_Surface___getitem__ => k_is); (case n_Surface___getitem__ => k_is); (case a_Surface___eq__ => k_is); (case i_Surface___eq__ => k_is); (case l_Surface___eq__ => k_is); (case c_Surface___eq__ => k_is); (case k_Surface___eq__ => k_is); (case a_Surface___str__ => k_is); (case i_Surface___str__ => k_is); (case l_Surface___str__ => k_is); (case c_Surface___str__ => k_is); (case k_Surface___str__ => k_is); (case a__law_made => k_is); (case l__law_made => k_is); (case c__law_made => k_is); (case k__law_made => k_is); (case a__law_is_within => k_is); (case l__law_is_within => k_is); (case c__law_is_within => k_is); (case k__law_is_within => k_is); (case a__law_places => k_is); (case l__law_places => k_is); (case c__law_places => k_is); (case k__law_places => k_is); (case a__law_exchanged => k_is); (case l__law_exchanged => k_is); (case c__law_exchanged => k_is); (case k__law_exchanged => k_is); (case a__law_surface_right => k_is); (case l__law_surface_right => k_is); (case c__law_surface_right => k_is); (case k__law_surface_right => k_is); (case a__law_got => k_is); (case l__law_got => k_is); (case c__law_got => k_is); (case k__law_got => k_is); (case zz1 => k_is); (case a__law_right => k_is); (case l__law_right => k_is); (case c__law_right => k_is); (case k__law_right => k_is); (case lc__law_right => k_is); (case lv__law_right => rfl); (case ln__law_right => kernel_rfl); (case rd => k_is); (case ga => k_is); (case a_Promise_read => k_is); (case w_Promise_read => k_is); (case n_Promise_read => k_is); (case l_Promise_read => k_is); (case c_Promise_read => k_is); (case k_Promise_read => k_is); (case a_law => k_is); (case l_law => k_is); (case c_law => k_is); (case k_law => k_is); (case z_classmethod => k_is); (case z_property => k_is); (case z_isinstance => k_is); (case z_list => k_is); (case z_tuple => k_is); (case z_dict => k_is); (case z_len => k_is); (case z_reversed => k_is); (case z_any => k_is); (case z_all => k_is); (case z_range => k_is); (case z_sorted => k_is); (case z_bool => k_is); (case z_abs => k_is); (case z_str => k_is); (case z_max => k_is); (case z_iter => k_is); (case z_int => k_is); (case z_set => k_is); (case z_sum => k_is); (case z_min => k_is); (case z_super => k_is)
