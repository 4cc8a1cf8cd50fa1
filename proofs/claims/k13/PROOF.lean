import PyProof.Rows.All
import Wide.All
import OpenK.AllK
import Wide.FinOn
import PySem.Challenge.RW_eitherhand_k13_whole_calls_in_any_order
import HandS.ForMost
import HandS.Wide
import HandS.IsInst
import HandS.RaiseMore
import HandS.Text
import HandS.TupSets
import KE.KDictKeyed
import KE.KeyNested
import PyProof.FactsAll.dict_1
import PyProof.FactsAll.subtypes_3
import PyProof.FactsAll.subtypes_4
import HandS.ExcOwn
import HandS.WordsExc
import HandS.TryOnly
import HandS.Strs
import KE.GoesSet
import HandS.DictComp
import HandS.Style
import HandS.OwnIter
import HandS.Rev
import HandS.Property
import HandS.TupAny
import HandS.OwnEq
import HandS.ClsMeth
import HandS.IterNext
import HandS.IterVal
import PyProof.FactsAll.tuple_iterator_1
import HandS.Replace
import HandS.ReplaceLit
import HandS.CallLocal
import HandS.Deep
import HandS.Dict
import HandS.WordsDict
import HandS.Lambda
import KE.KDictZip
import HandS.ExcValue
import KE.KDictCopyH
import KE.KDictPairs
import KE.KDictDisplayH
import HandS.RevRange
import HandS.Conv
import KE.LtData
import HandS.SortOrd
import HandS.SortRule
import KE.KDictSum
import HandS.SuiteRaise
import HandS.RaiseFrom
import HandS.ExcCtx
import HandS.Star
import HandS.FStr
import HandS.Small
import KE.SortData
import PyProof.Rows.SortWalk
set_option Elab.async false
set_option linter.all false
set_option maxRecDepth 100000
namespace Eh
open PySem PySem.Spec PyProof.Rows L2
def topS (i : Nat) : Stmt := PySem.Challenge.pw_eitherhand_k13_whole_calls_in_any_order.main.body.getD i (.Pass ⟨0, 0, 0, 0⟩)
abbrev s_is_integer : Stmt := topS 14
theorem sc_is_integer : FnScope ["value"] ["value"] (defScope s_is_integer) := ⟨rfl, rfl, rfl, by decide +kernel, rfl, by decide +kernel, by decide +kernel⟩
abbrev s_is_index : Stmt := topS 15
theorem sc_is_index : FnScope ["value", "many"] ["value", "many"] (defScope s_is_index) := ⟨rfl, rfl, rfl, by decide +kernel, rfl, by decide +kernel, by decide +kernel⟩
abbrev s_is_fact : Stmt := topS 16
theorem sc_is_fact : FnScope ["value", "letter"] ["value"] (defScope s_is_fact) := ⟨rfl, rfl, rfl, by decide +kernel, rfl, by decide +kernel, by decide +kernel⟩
abbrev s_is_hand : Stmt := topS 17
theorem sc_is_hand : FnScope ["value"] ["value"] (defScope s_is_hand) := ⟨rfl, rfl, rfl, by decide +kernel, rfl, by decide +kernel, by decide +kernel⟩
abbrev s_is_node : Stmt := topS 24
theorem sc_is_node : FnScope ["value", "kind", "told"] ["value"] (defScope s_is_node) := ⟨rfl, rfl, rfl, by decide +kernel, rfl, by decide +kernel, by decide +kernel⟩
abbrev s_depth_of : Stmt := topS 25
theorem sc_depth_of : FnScope ["nodes", "missing", "deepest", "kind", "told"] ["nodes"] (defScope s_depth_of) := ⟨rfl, rfl, rfl, by decide +kernel, rfl, by decide +kernel, by decide +kernel⟩
abbrev s_facts_of : Stmt := topS 26
theorem sc_facts_of : FnScope ["nodes", "kind", "told"] ["nodes"] (defScope s_facts_of) := ⟨rfl, rfl, rfl, by decide +kernel, rfl, by decide +kernel, by decide +kernel⟩
abbrev s_choices_of : Stmt := topS 27
theorem sc_choices_of : FnScope ["nodes", "kind", "_"] ["nodes"] (defScope s_choices_of) := ⟨rfl, rfl, rfl, by decide +kernel, rfl, by decide +kernel, by decide +kernel⟩
abbrev s_text_of : Stmt := topS 28
theorem sc_text_of : FnScope ["nodes", "texts", "kind", "told", "parts", "_"] ["nodes"] (defScope s_text_of) := ⟨rfl, rfl, rfl, by decide +kernel, rfl, by decide +kernel, by decide +kernel⟩
abbrev s_bracketed : Stmt := topS 29
theorem sc_bracketed : FnScope ["kind", "parts", "inner"] ["kind", "parts"] (defScope s_bracketed) := ⟨rfl, rfl, rfl, by decide +kernel, rfl, by decide +kernel, by decide +kernel⟩
abbrev s_plain_text : Stmt := topS 30
theorem sc_plain_text : FnScope ["kind", "told"] ["kind", "told"] (defScope s_plain_text) := ⟨rfl, rfl, rfl, by decide +kernel, rfl, by decide +kernel, by decide +kernel⟩
abbrev s_nodes_in : Stmt := topS 31
theorem sc_nodes_in : FnScope ["text", "kinds", "counts", "around", "word", "kind", "told", "at"] ["text"] (defScope s_nodes_in) := ⟨rfl, rfl, rfl, by decide +kernel, rfl, by decide +kernel, by decide +kernel⟩
abbrev s__split : Stmt := topS 32
theorem sc__split : FnScope ["text", "spaced"] ["text"] (defScope s__split) := ⟨rfl, rfl, rfl, by decide +kernel, rfl, by decide +kernel, by decide +kernel⟩
abbrev s__plain_node : Stmt := topS 33
theorem sc__plain_node : FnScope ["word"] ["word"] (defScope s__plain_node) := ⟨rfl, rfl, rfl, by decide +kernel, rfl, by decide +kernel, by decide +kernel⟩
abbrev s_parts_of : Stmt := topS 36
theorem sc_parts_of : FnScope ["nodes", "found", "start", "end"] ["nodes"] (defScope s_parts_of) := ⟨rfl, rfl, rfl, by decide +kernel, rfl, by decide +kernel, by decide +kernel⟩
abbrev s_end_of : Stmt := topS 37
theorem sc_end_of : FnScope ["nodes", "start", "missing", "end", "kind", "told"] ["nodes", "start"] (defScope s_end_of) := ⟨rfl, rfl, rfl, by decide +kernel, rfl, by decide +kernel, by decide +kernel⟩
abbrev s_start_at : Stmt := topS 42
theorem sc_start_at : FnScope ["nodes", "place"] ["nodes", "place"] (defScope s_start_at) := ⟨rfl, rfl, rfl, by decide +kernel, rfl, by decide +kernel, by decide +kernel⟩
abbrev s__start_along : Stmt := topS 43
theorem sc__start_along : FnScope ["nodes", "path", "kinds", "start", "index", "kind", "told", "_"] ["nodes", "path", "kinds"] (defScope s__start_along) := ⟨rfl, rfl, rfl, by decide +kernel, rfl, by decide +kernel, by decide +kernel⟩
abbrev s_part_from : Stmt := topS 44
theorem sc_part_from : FnScope ["nodes", "start"] ["nodes", "start"] (defScope s_part_from) := ⟨rfl, rfl, rfl, by decide +kernel, rfl, by decide +kernel, by decide +kernel⟩
abbrev s_exchanged_from : Stmt := topS 45
theorem sc_exchanged_from : FnScope ["nodes", "start", "other"] ["nodes", "start", "other"] (defScope s_exchanged_from) := ⟨rfl, rfl, rfl, by decide +kernel, rfl, by decide +kernel, by decide +kernel⟩
abbrev s_surface_of : Stmt := topS 46
theorem sc_surface_of : FnScope ["nodes"] ["nodes"] (defScope s_surface_of) := ⟨rfl, rfl, rfl, by decide +kernel, rfl, by decide +kernel, by decide +kernel⟩
abbrev s__paths_along : Stmt := topS 47
theorem sc__paths_along : FnScope ["nodes", "kinds", "found", "paths", "start", "path", "kind", "told", "index"] ["nodes", "kinds"] (defScope s__paths_along) := ⟨rfl, rfl, rfl, by decide +kernel, rfl, by decide +kernel, by decide +kernel⟩
abbrev s_places_in : Stmt := topS 48
theorem sc_places_in : FnScope ["nodes", "kinds", "place", "start"] ["nodes", "kinds"] (defScope s_places_in) := ⟨rfl, rfl, rfl, by decide +kernel, rfl, by decide +kernel, by decide +kernel⟩
abbrev s_calls_in : Stmt := topS 49
theorem sc_calls_in : FnScope ["nodes", "hand", "place", "start", "index"] ["nodes", "hand"] (defScope s_calls_in) := ⟨rfl, rfl, rfl, by decide +kernel, rfl, by decide +kernel, by decide +kernel⟩
abbrev s_hand_in : Stmt := topS 50
theorem sc_hand_in : FnScope ["nodes", "value", "place", "index", "start", "kind", "told", "hand"] ["nodes", "value"] (defScope s_hand_in) := ⟨rfl, rfl, rfl, by decide +kernel, rfl, by decide +kernel, by decide +kernel⟩
abbrev s_called_in : Stmt := topS 51
theorem sc_called_in : FnScope ["nodes", "call", "place", "index", "start", "parts"] ["nodes", "call"] (defScope s_called_in) := ⟨rfl, rfl, rfl, by decide +kernel, rfl, by decide +kernel, by decide +kernel⟩
abbrev s__are_nodes : Stmt := topS 58
theorem sc__are_nodes : FnScope ["value", "node"] ["value"] (defScope s__are_nodes) := ⟨rfl, rfl, rfl, by decide +kernel, rfl, by decide +kernel, by decide +kernel⟩
abbrev s_Promise___init__ : Stmt := inClass (topS 62) 0
theorem sc_Promise___init__ : FnScope ["self", "nodes"] ["self", "nodes"] (defScope s_Promise___init__) := ⟨rfl, rfl, rfl, by decide +kernel, rfl, by decide +kernel, by decide +kernel⟩
abbrev s_Promise_read : Stmt := inClass (topS 62) 1
theorem sc_Promise_read : FnScope ["cls", "text", "nodes"] ["cls", "text"] (defScope s_Promise_read) := ⟨rfl, rfl, rfl, by decide +kernel, rfl, by decide +kernel, by decide +kernel⟩
abbrev s_Promise_nodes : Stmt := inClass (topS 62) 6
theorem sc_Promise_nodes : FnScope ["self"] ["self"] (defScope s_Promise_nodes) := ⟨rfl, rfl, rfl, by decide +kernel, rfl, by decide +kernel, by decide +kernel⟩
abbrev s_Promise_text : Stmt := inClass (topS 62) 7
theorem sc_Promise_text : FnScope ["self"] ["self"] (defScope s_Promise_text) := ⟨rfl, rfl, rfl, by decide +kernel, rfl, by decide +kernel, by decide +kernel⟩
abbrev s_Promise_parts : Stmt := inClass (topS 62) 9
theorem sc_Promise_parts : FnScope ["self", "nodes"] ["self"] (defScope s_Promise_parts) := ⟨rfl, rfl, rfl, by decide +kernel, rfl, by decide +kernel, by decide +kernel⟩
abbrev s_Promise_choices : Stmt := inClass (topS 62) 11
theorem sc_Promise_choices : FnScope ["self"] ["self"] (defScope s_Promise_choices) := ⟨rfl, rfl, rfl, by decide +kernel, rfl, by decide +kernel, by decide +kernel⟩
abbrev s_Promise___len__ : Stmt := inClass (topS 62) 22
theorem sc_Promise___len__ : FnScope ["self"] ["self"] (defScope s_Promise___len__) := ⟨rfl, rfl, rfl, by decide +kernel, rfl, by decide +kernel, by decide +kernel⟩
abbrev s_Promise___eq__ : Stmt := inClass (topS 62) 26
theorem sc_Promise___eq__ : FnScope ["self", "value"] ["self", "value"] (defScope s_Promise___eq__) := ⟨rfl, rfl, rfl, by decide +kernel, rfl, by decide +kernel, by decide +kernel⟩
abbrev s_check_promise : Stmt := topS 65
theorem sc_check_promise : FnScope ["value"] ["value"] (defScope s_check_promise) := ⟨rfl, rfl, rfl, by decide +kernel, rfl, by decide +kernel, by decide +kernel⟩
abbrev s_check_hand : Stmt := topS 66
theorem sc_check_hand : FnScope ["value"] ["value"] (defScope s_check_hand) := ⟨rfl, rfl, rfl, by decide +kernel, rfl, by decide +kernel, by decide +kernel⟩
abbrev s__start_of : Stmt := topS 67
theorem sc__start_of : FnScope ["nodes", "place", "start"] ["nodes", "place"] (defScope s__start_of) := ⟨rfl, rfl, rfl, by decide +kernel, rfl, by decide +kernel, by decide +kernel⟩
abbrev s__hand_that_can : Stmt := topS 68
theorem sc__hand_that_can : FnScope ["nodes", "call", "hand"] ["nodes", "call"] (defScope s__hand_that_can) := ⟨rfl, rfl, rfl, by decide +kernel, rfl, by decide +kernel, by decide +kernel⟩
abbrev s_surface : Stmt := topS 69
theorem sc_surface : FnScope ["promise", "place", "_"] ["promise"] (defScope s_surface) := ⟨rfl, rfl, rfl, by decide +kernel, rfl, by decide +kernel, by decide +kernel⟩
abbrev s_part_at : Stmt := topS 70
theorem sc_part_at : FnScope ["promise", "place"] ["promise", "place"] (defScope s_part_at) := ⟨rfl, rfl, rfl, by decide +kernel, rfl, by decide +kernel, by decide +kernel⟩
abbrev s_calls : Stmt := topS 71
theorem sc_calls : FnScope ["promise", "hand"] ["promise", "hand"] (defScope s_calls) := ⟨rfl, rfl, rfl, by decide +kernel, rfl, by decide +kernel, by decide +kernel⟩
abbrev s_is_call : Stmt := topS 72
theorem sc_is_call : FnScope ["promise", "value"] ["promise", "value"] (defScope s_is_call) := ⟨rfl, rfl, rfl, by decide +kernel, rfl, by decide +kernel, by decide +kernel⟩
abbrev s_hand_of : Stmt := topS 73
theorem sc_hand_of : FnScope ["promise", "call"] ["promise", "call"] (defScope s_hand_of) := ⟨rfl, rfl, rfl, by decide +kernel, rfl, by decide +kernel, by decide +kernel⟩
abbrev s_called : Stmt := topS 74
theorem sc_called : FnScope ["promise", "call"] ["promise", "call"] (defScope s_called) := ⟨rfl, rfl, rfl, by decide +kernel, rfl, by decide +kernel, by decide +kernel⟩
abbrev s_replaced : Stmt := topS 75
theorem sc_replaced : FnScope ["promise", "place", "other", "start"] ["promise", "place", "other"] (defScope s_replaced) := ⟨rfl, rfl, rfl, by decide +kernel, rfl, by decide +kernel, by decide +kernel⟩
abbrev s_Surface___init__ : Stmt := inClass (topS 76) 0
theorem sc_Surface___init__ : FnScope ["self", "promise"] ["self", "promise"] (defScope s_Surface___init__) := ⟨rfl, rfl, rfl, by decide +kernel, rfl, by decide +kernel, by decide +kernel⟩
abbrev s_Surface_is_over : Stmt := inClass (topS 76) 8
theorem sc_Surface_is_over : FnScope ["self"] ["self"] (defScope s_Surface_is_over) := ⟨rfl, rfl, rfl, by decide +kernel, rfl, by decide +kernel, by decide +kernel⟩
abbrev s__law_dice : Stmt := topS 78
theorem sc__law_dice : FnScope ["script", "spot", "cell", "great", "blend"] ["script", "spot"] (defScope s__law_dice) := ⟨rfl, rfl, rfl, by decide +kernel, rfl, by decide +kernel, by decide +kernel⟩
abbrev s__law_roll : Stmt := topS 79
theorem sc__law_roll : FnScope ["dice", "many", "found", "one", "two"] ["dice", "many"] (defScope s__law_roll) := ⟨rfl, rfl, rfl, by decide +kernel, rfl, by decide +kernel, by decide +kernel⟩
abbrev s__law_pick : Stmt := topS 80
theorem sc__law_pick : FnScope ["dice", "items"] ["dice", "items"] (defScope s__law_pick) := ⟨rfl, rfl, rfl, by decide +kernel, rfl, by decide +kernel, by decide +kernel⟩
abbrev s__law_some : Stmt := topS 81
theorem sc__law_some : FnScope ["dice", "items", "size", "left", "turn"] ["dice", "items", "size"] (defScope s__law_some) := ⟨rfl, rfl, rfl, by decide +kernel, rfl, by decide +kernel, by decide +kernel⟩
abbrev s__law_is_leaf : Stmt := topS 82
theorem sc__law_is_leaf : FnScope ["plain"] ["plain"] (defScope s__law_is_leaf) := ⟨rfl, rfl, rfl, by decide +kernel, rfl, by decide +kernel, by decide +kernel⟩
abbrev s__law_leaf : Stmt := topS 83
theorem sc__law_leaf : FnScope ["dice", "words", "way"] ["dice", "words"] (defScope s__law_leaf) := ⟨rfl, rfl, rfl, by decide +kernel, rfl, by decide +kernel, by decide +kernel⟩
abbrev s__law_drawn : Stmt := topS 84
theorem sc__law_drawn : FnScope ["dice", "words", "most", "choices", "kind", "many", "left", "parts", "room", "at", "more", "share"] ["dice", "words", "most", "choices"] (defScope s__law_drawn) := ⟨rfl, rfl, rfl, by decide +kernel, rfl, by decide +kernel, by decide +kernel⟩
abbrev s__law_promise : Stmt := topS 85
theorem sc__law_promise : FnScope ["dice", "words", "word"] ["dice"] (defScope s__law_promise) := ⟨rfl, rfl, rfl, by decide +kernel, rfl, by decide +kernel, by decide +kernel⟩
abbrev s__law_known : Stmt := topS 86
theorem sc__law_known : FnScope ["dice", "a", "b", "c", "not_a", "not_b", "not_c", "some"] ["dice"] (defScope s__law_known) := ⟨rfl, rfl, rfl, by decide +kernel, rfl, by decide +kernel, by decide +kernel⟩
abbrev s__law_nodes : Stmt := topS 87
theorem sc__law_nodes : FnScope ["plain", "found", "part"] ["plain"] (defScope s__law_nodes) := ⟨rfl, rfl, rfl, by decide +kernel, rfl, by decide +kernel, by decide +kernel⟩
abbrev s__law_count : Stmt := topS 88
theorem sc__law_count : FnScope ["plain", "kinds", "node"] ["plain", "kinds"] (defScope s__law_count) := ⟨rfl, rfl, rfl, by decide +kernel, rfl, by decide +kernel, by decide +kernel⟩
abbrev s__law_made : Stmt := topS 89
theorem sc__law_made : FnScope ["plain"] ["plain"] (defScope s__law_made) := ⟨rfl, rfl, rfl, by decide +kernel, rfl, by decide +kernel, by decide +kernel⟩
abbrev s__law_all_calls : Stmt := topS 90
theorem sc__law_all_calls : FnScope ["made"] ["made"] (defScope s__law_all_calls) := ⟨rfl, rfl, rfl, by decide +kernel, rfl, by decide +kernel, by decide +kernel⟩
abbrev s__law_pair_right : Stmt := topS 91
theorem sc__law_pair_right : FnScope ["made", "one", "other", "first", "second", "part"] ["made", "one", "other"] (defScope s__law_pair_right) := ⟨rfl, rfl, rfl, by decide +kernel, rfl, by decide +kernel, by decide +kernel⟩
abbrev s__law_row_right : Stmt := topS 92
theorem sc__law_row_right : FnScope ["dice", "made", "turn", "rows", "call", "after", "gone", "one"] ["dice", "made"] (defScope s__law_row_right) := ⟨rfl, rfl, rfl, by decide +kernel, rfl, by decide +kernel, by decide +kernel⟩
abbrev s__law_right : Stmt := topS 93
theorem sc__law_right : FnScope ["dice", "plain", "made", "rows", "pairs", "one", "other", "call"] ["dice"] (defScope s__law_right) := ⟨rfl, rfl, rfl, by decide +kernel, rfl, by decide +kernel, by decide +kernel⟩
abbrev s_law : Stmt := topS 94
theorem sc_law : FnScope ["script", "spot", "dice", "turn", "copy"] ["script"] (defScope s_law) := ⟨rfl, rfl, rfl, by decide +kernel, rfl, by decide +kernel, by decide +kernel⟩
/-- the names of built-ins that the text reads and has not taken -/
structure Txt (mg : Str → Option Value) : Prop where
  classmethod_ : mg "classmethod" = none
  property_ : mg "property" = none
  isinstance_ : mg "isinstance" = none
  list_ : mg "list" = none
  tuple_ : mg "tuple" = none
  dict_ : mg "dict" = none
  len_ : mg "len" = none
  reversed_ : mg "reversed" = none
  any_ : mg "any" = none
  all_ : mg "all" = none
  range_ : mg "range" = none
  bool_ : mg "bool" = none
  abs_ : mg "abs" = none
  str_ : mg "str" = none
  max_ : mg "max" = none
  sorted_ : mg "sorted" = none
  iter_ : mg "iter" = none
  int_ : mg "int" = none
  sum_ : mg "sum" = none
  min_ : mg "min" = none
  super_ : mg "super" = none
  set_ : mg "set" = none
end Eh
set_option Elab.async false
set_option linter.all false
set_option maxRecDepth 100000
set_option maxHeartbeats 8000000
namespace Eh
open PySem PySem.Spec PyProof.Rows L2
section
variable {P : Program} {w : World} {κ : Type} [DecidableEq κ] {knd : HeapKind P w κ}
/-- what a set asks of its keys besides -/
structure SetSide (knd : HeapKind P w κ) : Prop where
  st : knd.Stays
  cls : ∀ {A : Around} {E : Value → Shared → Prop} {s : Shared} {k : κ} {a : Addr} {Q : Bool → Shared → Prop}, knd.is s.heap k a → Q false s → wpAny (model P w) A (ofAClassStatement 8 (.ref a)) Q E s
  byv : ∀ {A : Around} {E : Value → Shared → Prop} {s : Shared} {k : κ} {a : Addr} {Q : Bool → Shared → Prop}, knd.is s.heap k a → Q true s → wpAny (model P w) A (hashByValue 8 (.ref a)) Q E s
def eRows (knd : HeapKind P w κ) (L : List (κ × Addr)) : List (Int × Value) := L.map fun e => (knd.hash e.1, Value.ref e.2)
def eHash (knd : HeapKind P w κ) (L : List (κ × Addr)) : List Int := L.map fun e => knd.hash e.1
theorem eRows_len (L : List (κ × Addr)) : (eRows knd L).length = L.length := List.length_map _
theorem eHash_len (L : List (κ × Addr)) : (eHash knd L).length = L.length := List.length_map _
/-- the set at a, its rows in the table's order -/
structure HSet (knd : HeapKind P w κ) (h : Heap) (a : Addr) (L : List (κ × Addr)) (es : Array (Int × Value)) (ep : Nat) (t : SetTable) : Prop where
  obj : ∃ o, h.get? a = some o ∧ o.ExactSet ∧ o.data = .set es ep t
  row : es.toList = eRows knd L
  tab : TabOk t (eHash knd L)
  one : (L.map (·.1)).Nodup
  pl : t.plain = true
  ld : w.params.followText "set-order" = true ∨ t.led = true
  rm : L.length * 5 < t.mask * 3
  fw : L.length < 64
def Stand (knd : HeapKind P w κ) (h : Heap) (L : List (κ × Addr)) : Prop := ∀ e ∈ L, knd.is h e.1 e.2
variable {A : Around} {E : Value → Shared → Prop} {s : Shared} {a : Addr} {L : List (κ × Addr)} {es : Array (Int × Value)} {ep : Nat} {t : SetTable}
theorem size_of {es : Array (Int × Value)} {L : List (κ × Addr)} (h : es.toList = eRows knd L) : es.size = L.length := by
  rw [← Array.length_toList, h, eRows_len]
theorem HSet.place {h : Heap} (R : HSet knd h a L es ep t) : t.place.size = L.length := R.tab.sz.trans (eHash_len L)
theorem HSet.fit {h : Heap} (R : HSet knd h a L es ep t) : t.fits es.size = true := by
  have h1 := R.place
  have h2 := size_of R.row
  have h3 := R.rm
  unfold SetTable.fits SetTable.fill
  rw [R.tab.dm, Bool.and_eq_true, beq_iff_eq, decide_eq_true_eq, h1, h2]
  exact ⟨rfl, by show L.length + 0 ≤ t.mask; omega⟩
theorem row_at {i : Nat} {e : κ × Addr} (h : es.toList = eRows knd L) (hi : L[i]? = some e) : es[i]? = some (knd.hash e.1, Value.ref e.2) := by
  have : (eRows knd L)[i]? = some (knd.hash e.1, Value.ref e.2) := by unfold eRows; rw [List.getElem?_map, hi]; rfl
  rw [← Array.getElem?_toList, h, this]
theorem HSet.calm {h : Heap} (R : HSet knd h a L es ep t) : ¬ t.gaveWay = true := fun z => by
  unfold SetTable.gaveWay at z
  rw [mask_odd R.tab.mok] at z
  exact absurd z (by decide)
/-- a search among keys shows nothing -/
theorem unseen (S : SetSide knd) {k : κ} {b : Addr} {Q : Bool → Shared → Prop} (hk : knd.is s.heap k b) {ys : List Value} (hy : ∀ y ∈ ys, ∃ e : κ × Addr, y = Value.ref e.2 ∧ knd.is s.heap e.1 e.2) (q : Q false s) : wpAny (model P w) A (searchCouldBeSeen (.ref b) ys) Q E s := by
  unfold searchCouldBeSeen
  refine wpAny_bind (wpAny_forIn_list _ (fun left r s2 => r.1 = none ∧ s2 = s ∧ ∀ y ∈ left, ∃ e : κ × Addr, y = Value.ref e.2 ∧ knd.is s.heap e.1 e.2) _ (fun v left r s2 h => ?_) (fun r s2 h => ?_) _ _ ⟨rfl, rfl, hy⟩)
  · obtain ⟨_, rfl, all⟩ := h
    obtain ⟨e, rfl, he⟩ := all v List.mem_cons_self
    have rest : ∀ y ∈ left, ∃ e : κ × Addr, y = Value.ref e.2 ∧ knd.is s2.heap e.1 e.2 := fun y hy => all y (List.mem_cons_of_mem _ hy)
    dsimp only
    by_cases c : (b == e.2 || (carriedByValue (.ref b) && carriedByValue (.ref e.2))) = true
    · exact wp_if_pos c (wpAny_pure ⟨rfl, rfl, rest⟩)
    · refine wp_if_neg c (wpAny_bind (knd.quiet hk ?_)); simp only [Bool.not_true, Bool.false_eq_true, if_false]
      refine wpAny_bind (knd.quiet he ?_); simp only [Bool.not_true, Bool.false_eq_true, if_false]
      refine wpAny_bind (S.cls hk ?_); simp only [Bool.false_eq_true, if_false]
      refine wpAny_bind (S.cls he ?_); simp only [Bool.false_eq_true, if_false]
      exact wpAny_pure ⟨rfl, rfl, rest⟩
  · obtain ⟨r1, r2⟩ := r
    obtain ⟨hr, rfl, _⟩ := h
    obtain rfl : r1 = none := hr
    exact wpAny_pure q
/-- the c-th stop of the way of a hash -/
def stop (t : SetTable) (g : Int) (c : Nat) : SetTable.Probe := nth t.mask (runAt t.mask (SetTable.bits g % (t.mask + 1)) (SetTable.bits g)) c
theorem stop_add (t : SetTable) (g : Int) (c q : Nat) : nth t.mask (stop t g c) q = stop t g (c + q) := (nth_add t.mask c _ q).symm
theorem stop_clean (t : SetTable) (g : Int) (c : Nat) : (stop t g c).dummy = none := by
  have go : ∀ (n : Nat) (p : SetTable.Probe), p.dummy = none → (nth t.mask p n).dummy = none := fun n => by
    induction n with
    | zero => exact fun p h => h
    | succ n ih => exact fun p h => ih (adv t.mask p) (by unfold adv; split <;> exact h)
  exact go c _ rfl
/-- seeking a key from the c-th stop on -/
theorem seek (S : SetSide knd) (R : HSet knd s.heap a L es ep t) (hL : Stand knd s.heap L) {x : Addr} {k : κ} (hx : knd.is s.heap k x) (hu : knd.room A) {n : Nat} (hn : n < 10 * SetTable.turns t.mask)
    (free : way t.mask (knd.hash k) n ∉ t.place.toList) (full : ∀ c, c < n → way t.mask (knd.hash k) c ∈ t.place.toList) {Q : SetFound → Shared → Prop}
    (yes : k ∈ L.map (·.1) → Q (.there none) s) (no : k ∉ L.map (·.1) → Q (.free (way t.mask (knd.hash k) n) false) s) :
    ∀ (f c : Nat) (st : Option SetTable.Probe), st.getD (t.probeStart (knd.hash k)) = stop t (knd.hash k) c → c ≤ n → n - c < f →
      (∀ (i : Nat) e, L[i]? = some e → e.1 = k → ∃ c', c ≤ c' ∧ c' < n ∧ t.place.toList[i]? = some (way t.mask (knd.hash k) c')) →
      wpAny (model P w) A (setSearchFrom a (.ref x) (knd.hash k) true f st) Q E s
  | 0, c, st, _, _, hf, _ => absurd hf (Nat.not_lt_zero _)
  | f + 1, c, st, hst, hc, hf, ahead => by
    obtain ⟨o, ho, hex, hd⟩ := R.obj
    rw [setSearchFrom_succ]
    refine wpAny_bind (wpAny_setState_of ho hd R.fit (wp_if_neg R.calm ?_))
    try refine wpAny_bind (wpAny_pure ?_)
    have nxt : ∀ q, (nth t.mask (stop t (knd.hash k) c) q).j = way t.mask (knd.hash k) (c + q) := fun q => congrArg SetTable.Probe.j (stop_add t _ c q)
    have hash_at : ∀ (i : Nat) e, L[i]? = some e → (fun i => (es[i]?.map (·.1)).getD 0) i = knd.hash e.1 := fun i e he => by
      show (es[i]?.map (·.1)).getD 0 = _
      rw [row_at R.row he]
      rfl
    rcases go_spec t R.tab.ris R.tab.dm (fun i => (es[i]?.map (·.1)).getD 0) (knd.hash k) (10 * SetTable.turns t.mask) (n - c) _ (stop_clean t (knd.hash k) c) (by omega)
      (fun q hq => by rw [nxt]; exact full (c + q) (by omega)) (by rw [nxt, show c + (n - c) = n by omega]; exact free) with ⟨q, i, hq, hi, hh, before, pr⟩ | ⟨before, pr⟩
    · have pr2 : t.probe (fun i => (es[i]?.map (·.1)).getD 0) (knd.hash k) (st.getD (t.probeStart (knd.hash k))) = some (.candidate (way t.mask (knd.hash k) (c + q)) i (stop t (knd.hash k) (c + (q + 1)))) := by
        rw [hst, ← nxt, ← stop_add]
        exact pr
      rw [pr2]
      rw [nxt] at hi
      have hil : i < L.length := by
        have h1 := (List.getElem?_eq_some_iff.mp hi).1
        rw [Array.length_toList, R.place] at h1
        exact h1
      obtain ⟨e, he⟩ : ∃ e, L[i]? = some e := ⟨_, List.getElem?_eq_getElem hil⟩
      have hem := List.mem_of_getElem? he
      have live : t.slot (way t.mask (knd.hash k) (c + q)) = .live i := slot_live R.tab.ris hi
      have rest : wpAny (model P w) A (searchRest a (.ref x) (knd.hash k) true f es t (way t.mask (knd.hash k) (c + q)) i (stop t (knd.hash k) (c + (q + 1)))) Q E s := by
        unfold searchRest
        rw [row_at R.row he]
        refine wpAny_bind (wpAny_holding (knd.eqBool hu (hL e hem) hx (wpAny_bind (wpAny_setState_of ho hd R.fit ?_))))
        dsimp only
        by_cases same : e.1 = k
        · exact wp_if_pos (by simp [same]) (wpAny_pure (yes (List.mem_map.mpr ⟨e, hem, same⟩)))
        · refine wp_if_neg (by simp [same]) ?_
          try refine wpAny_bind (wpAny_pure ?_)
          rw [sameMem]
          simp only [if_true, live, row_at R.row he]
          refine wpAny_bind (wpAny_isSame_ref_self (wpAny_bind (wpAny_pure ?_)))
          simp only [if_true]
          refine wp_if_neg (by simp [same]) (seek S R hL hx hu hn free full yes no f (c + (q + 1)) _ rfl (by omega) (by omega) fun i0 e0 h0 hk0 => ?_)
          obtain ⟨c2, a1, a2, a3⟩ := ahead i0 e0 h0 hk0
          have ne1 : ¬ c2 < c + q := fun z => before (c2 - c) i0 (by omega) (by rw [nxt, show c + (c2 - c) = c2 by omega]; exact a3) ((hash_at i0 e0 h0).trans (congrArg knd.hash hk0))
          have ne2 : c2 ≠ c + q := fun z => by
            rw [z] at a3
            have l2 := slot_live R.tab.ris a3
            rw [live] at l2
            injection l2 with l2
            rw [← l2, he] at h0
            exact same ((congrArg Prod.fst (Option.some.inj h0)).trans hk0)
          exact ⟨c2, by omega, a2, a3⟩
      dsimp only
      by_cases hl : t.led = true
      · refine wp_if_neg (by simp [hl]) ?_
        try refine wpAny_bind (wpAny_pure ?_)
        exact rest
      · refine wp_if_pos (by simp [hl]) (wpAny_bind (unseen S hx (fun y hy => ?_) (wp_if_neg (by decide) ?_)))
        · obtain ⟨r, hr, rfl⟩ := List.mem_map.mp hy
          have hr1 : r ∈ es ∧ r.1 = knd.hash k := by simpa using hr
          have hr2 : r ∈ eRows knd L := by rw [← R.row]; simpa using hr1.1
          obtain ⟨e2, he2, rfl⟩ := List.mem_map.mp hr2
          exact ⟨e2, rfl, hL e2 he2⟩
        · try refine wpAny_bind (wpAny_pure ?_)
          exact rest
    · have pr2 : t.probe (fun i => (es[i]?.map (·.1)).getD 0) (knd.hash k) (st.getD (t.probeStart (knd.hash k))) = some (.empty (way t.mask (knd.hash k) n) none) := by
        have e2 := nxt (n - c)
        rw [show c + (n - c) = n by omega] at e2
        rw [hst, ← e2]
        exact pr
      rw [pr2]
      refine wpAny_pure (no fun hm => ?_)
      obtain ⟨e0, h0, hk0⟩ := List.mem_map.mp hm
      obtain ⟨i0, hi0⟩ := List.getElem?_of_mem h0
      obtain ⟨c2, a1, a2, a3⟩ := ahead i0 e0 hi0 hk0
      exact before (c2 - c) i0 (by omega) (by rw [nxt, show c + (c2 - c) = c2 by omega]; exact a3) ((hash_at i0 e0 hi0).trans (congrArg knd.hash hk0))
theorem seek_all (S : SetSide knd) (R : HSet knd s.heap a L es ep t) (hL : Stand knd s.heap L) {x : Addr} {k : κ} (hx : knd.is s.heap k x) (hu : knd.room A) {Q : SetFound → Shared → Prop} (yes : k ∈ L.map (·.1) → Q (.there none) s)
    (no : ∀ n, k ∉ L.map (·.1) → way t.mask (knd.hash k) n ∉ t.place.toList → (∀ c, c < n → way t.mask (knd.hash k) c ∈ t.place.toList) → Q (.free (way t.mask (knd.hash k) n) false) s) :
    wpAny (model P w) A (setSearch a (.ref x) (knd.hash k) true) Q E s := by
  have rm := R.rm
  obtain ⟨n, hn, free, full⟩ := R.tab.first (by rw [eHash_len]; omega) (knd.hash k)
  have few : 10 * SetTable.turns t.mask ≤ 1420 := by
    unfold SetTable.turns
    rcases R.tab.mok with e | e | e <;> omega
  unfold setSearch
  refine seek S R hL hx hu hn free full yes (fun h => no n h free full) 100000 0 none rfl (Nat.zero_le _) (by omega) fun i e he hk => ?_
  have hi : (eHash knd L)[i]? = some (knd.hash k) := by unfold eHash; rw [List.getElem?_map, he, ← hk]; rfl
  have hil : i < t.place.toList.length := by
    rw [Array.length_toList, R.place]
    exact (List.getElem?_eq_some_iff.mp he).1
  obtain ⟨c, hc, e2⟩ := R.tab.before free hi (List.getElem?_eq_getElem hil)
  exact ⟨c, Nat.zero_le _, hc, by rw [List.getElem?_eq_getElem hil, e2]⟩
end
end Eh
set_option Elab.async false
set_option linter.all false
set_option maxRecDepth 100000
set_option maxHeartbeats 8000000
namespace Eh
open PySem PySem.Spec PyProof.Rows L2
section
variable {P : Program} {w : World} {κ : Type} [DecidableEq κ] {knd : HeapKind P w κ}
variable {A : Around} {E : Value → Shared → Prop} {s : Shared} {a : Addr} {L : List (κ × Addr)} {es : Array (Int × Value)} {ep : Nat} {t : SetTable}
/-- the keys stay when the set changes -/
theorem Stand.set (st : knd.Stays) {h h' : Heap} {o : Obj} (hL : Stand knd h L) (ho : h.get? a = some o) (hd : o.data = .set es ep t) (sb : Heap.SameBut a h h') : Stand knd h' L := fun e he =>
  st.stays (fun b u vs n hb hv => (sb.2 b fun z => by
    subst z
    rw [ho] at hb
    cases hb
    rw [hd] at hv
    cases hv).trans hb) (hL e he)
theorem Stand.keep (st : knd.Stays) {h h' : Heap} (hL : Stand knd h L) (k : ∀ b o, h.get? b = some o → h'.get? b = some o) : Stand knd h' L := fun e he => st.stays (fun b u _ _ hb _ => k b u hb) (hL e he)
theorem HSet.keep {h h' : Heap} (R : HSet knd h a L es ep t) (k : ∀ o, h.get? a = some o → h'.get? a = some o) : HSet knd h' a L es ep t := by
  obtain ⟨⟨o, ho, r⟩, r2, r3, r4, r5, r6, r7, r8⟩ := R
  exact ⟨⟨o, k o ho, r⟩, r2, r3, r4, r5, r6, r7, r8⟩
theorem eRows_ins (L : List (κ × Addr)) (p : Nat) (e : κ × Addr) : eRows knd (L.take p ++ e :: L.drop p) = (eRows knd L).take p ++ (knd.hash e.1, Value.ref e.2) :: (eRows knd L).drop p := by
  unfold eRows
  rw [List.map_append, List.map_cons, List.map_take, List.map_drop]
theorem eHash_ins (L : List (κ × Addr)) (p : Nat) (e : κ × Addr) : eHash knd (L.take p ++ e :: L.drop p) = (eHash knd L).take p ++ knd.hash e.1 :: (eHash knd L).drop p := by
  unfold eHash
  rw [List.map_append, List.map_cons, List.map_take, List.map_drop]
/-- rows taken in another order -/
theorem in_order {order : Array Nat} (row : es.toList = eRows knd L) (hp : order.toList.Perm (List.range L.length)) : ∃ L2, (order.filterMap (es[·]?)).toList = eRows knd L2 ∧ L2.Perm L ∧ eHash knd L2 = order.toList.map fun i => (es.map (·.1)).getD i 0 := by
  have hz := size_of row
  have all : ∀ l : List Nat, (∀ i ∈ l, i < L.length) → l.filterMap (fun i => es[i]?) = eRows knd (l.filterMap fun i => L[i]?) ∧ eHash knd (l.filterMap fun i => L[i]?) = l.map fun i => (es.map (·.1)).getD i 0 := fun l => by
    induction l with
    | nil => exact fun _ => ⟨rfl, rfl⟩
    | cons i l ih =>
      intro h
      obtain ⟨e1, e2⟩ := ih fun j hj => h j (List.mem_cons_of_mem _ hj)
      obtain ⟨e, he⟩ : ∃ e, L[i]? = some e := ⟨_, List.getElem?_eq_getElem (h i List.mem_cons_self)⟩
      have er := row_at row he
      rw [List.filterMap_cons_some er, List.filterMap_cons_some he, e1]
      refine ⟨rfl, ?_⟩
      have em : (es.map (·.1))[i]? = some (knd.hash e.1) := by rw [Array.getElem?_map, er]; rfl
      rw [List.map_cons, ← e2, Array.getD_eq_getD_getElem?, em]
      rfl
  have whole : ∀ n, n ≤ L.length → (List.range n).filterMap (fun i => L[i]?) = L.take n := fun n => by
    induction n with
    | zero => exact fun _ => rfl
    | succ n ih =>
      intro hn
      have hg : L[n]? = some (L[n]'hn) := List.getElem?_eq_getElem hn
      rw [List.range_succ, List.filterMap_append, ih (by omega), List.take_succ, hg, List.filterMap_cons_some hg]
      rfl
  obtain ⟨e1, e2⟩ := all order.toList fun i hi => List.mem_range.mp (hp.mem_iff.mp hi)
  refine ⟨_, by rw [Array.toList_filterMap]; exact e1, ?_, e2⟩
  have h1 := hp.filterMap fun i => L[i]?
  rw [whole L.length (Nat.le_refl _), List.take_length] at h1
  exact h1
/-- the table laid anew -/
theorem lay_anew {o : Obj} (ho : s.heap.get? a = some o) (hex : o.ExactSet) (hd : o.data = .set es ep t) (row : es.toList = eRows knd L) (hz : t.place.size = L.length) (dm : t.dummies = #[]) (hm : L.length ≤ t.mask) (one : (L.map (·.1)).Nodup) (pl : t.plain = true)
    (ld : w.params.followText "set-order" = true ∨ t.led = true) (fw : L.length < 64) {wanted M : Nat} (hw : SetTable.sizeAbove wanted - 1 = M) (hM : MaskOk M) (hw2 : SetTable.sizeAbove wanted ≤ 128) (rm : L.length * 5 < M * 3) {Q : Unit → Shared → Prop}
    (q : ∀ h' L' es' ep' t', Heap.SameBut a s.heap h' → HSet knd h' a L' es' ep' t' → L'.Perm L → Q () { s with heap := h' }) : wpAny (model P w) A (setRelay a wanted) Q E s := by
  have sz := size_of row
  have fit : t.fits es.size = true := by
    unfold SetTable.fits SetTable.fill
    rw [dm, Bool.and_eq_true, beq_iff_eq, decide_eq_true_eq, hz, sz]
    exact ⟨rfl, by show L.length + 0 ≤ t.mask; omega⟩
  obtain ⟨t2, order, e1, hp, T, em, el, epl, _⟩ := relaid_ok t (hs := es.map (·.1)) (wanted := wanted) hw hM (by rw [Array.size_map, sz]; omega)
  rw [Array.size_map, sz] at hp
  obtain ⟨L2, r1, r2, r3⟩ := in_order row hp
  rw [← r3] at T
  have sz2 : (order.filterMap (es[·]?)).size = es.size := by rw [size_of r1, r2.length_eq, sz]
  rw [setRelay_eq]
  refine wpAny_bind (wpAny_setState_of ho hd fit (wp_if_neg (by rw [sizeLine_eq]; omega) ?_))
  try refine wpAny_bind (wpAny_pure ?_)
  rw [e1]
  refine wpAny_bind (wp_if_neg (by rw [sz2]; simp) ?_)
  try refine wpAny_bind (wpAny_pure ?_)
  refine wpAny_pure (wpAny_storeSet_of ho hd ?_ (by rw [sz2, sz, sizeLine_eq]; omega))
  have sb : Heap.SameBut a s.heap (s.heap.update a (Obj.putSet (order.filterMap (es[·]?)) t2)) := Heap.SameBut.update ..
  exact q _ L2 _ (ep + 1) t2 sb ⟨⟨_, store_at ho hd, ⟨hex.1, hex.2.1, hex.2.2⟩, rfl⟩, r1, T, (r2.map (·.1)).nodup_iff.mpr one, by rw [epl]; exact pl, by rw [el]; exact ld, by rw [r2.length_eq, em]; exact rm, by rw [r2.length_eq]; exact fw⟩ r2
/-- adding a key -/
theorem put_in_set (S : SetSide knd) (R : HSet knd s.heap a L es ep t) (hL : Stand knd s.heap L) {x : Addr} {k : κ} (hx : knd.is s.heap k x) (hu : knd.room A) (few : L.length + 1 < 64) {Q : Bool → Shared → Prop}
    (q : ∀ b h' L' es' ep' t', Heap.SameBut a s.heap h' → HSet knd h' a L' es' ep' t' → (k ∈ L.map (·.1) → L' = L) → (k ∉ L.map (·.1) → L'.Perm ((k, x) :: L)) → Q b { s with heap := h' }) :
    wpAny (model P w) A (setAddHashed a (.ref x) (knd.hash k)) Q E s := by
  obtain ⟨o, ho, hex, hd⟩ := R.obj
  have sz := size_of R.row
  have rm := R.rm
  unfold setAddHashed
  rw [show (100000 : Nat) = 99999 + 1 from rfl, setAddHashedIn_succ]
  refine wpAny_holding (wpAny_bind (wpAny_setState_of ho hd R.fit (wp_if_neg (by simp [byScan, Value.scannable]) ?_)))
  try refine wpAny_bind (wpAny_pure ?_)
  refine wpAny_bind (seek_all S R hL hx hu (fun hm => wpAny_pure (q false s.heap L es ep t (Heap.SameBut.refl a s.heap) R (fun _ => rfl) fun z => absurd hm z)) fun n hm free full => ?_)
  refine wpAny_bind (wpAny_setState_of ho hd R.fit ?_)
  obtain ⟨q1, q2, q3, q4, q5, q6, q7, q8, q9⟩ := R.tab.put free full
  have pl1 : (t.put (way t.mask (knd.hash k) n)).1.plain = true := by rw [q6]; exact R.pl
  dsimp only
  generalize t.put (way t.mask (knd.hash k) n) = pt at q1 q3 q4 q5 q6 q7 q8 q9 pl1 ⊢
  obtain ⟨t1, p⟩ := pt
  dsimp only at q1 q3 q4 q5 q6 q7 q8 q9 pl1 ⊢
  subst q1
  first
    | refine wpAny_bind (wp_if_pos pl1 (S.byv hx ?_))
    | refine wp_if_pos pl1 (wpAny_bind (S.byv hx ?_))
  simp only [if_true]
  generalize hj : SetTable.below t.place (way t.mask (knd.hash k) n) = j at q2 q3 ⊢
  have row1 : (SetTable.insertAt es j (knd.hash k, Value.ref x)).toList = eRows knd (L.take j ++ (k, x) :: L.drop j) := by rw [SetTable.toList_insertAt, eRows_ins, R.row]
  rw [← eHash_ins L j (k, x)] at q3
  have pm := put_perm L j (k, x)
  have one1 : ((L.take j ++ (k, x) :: L.drop j).map (·.1)).Nodup := (pm.map (·.1)).nodup_iff.mpr (List.nodup_cons.mpr ⟨hm, R.one⟩)
  have len1 := pm.length_eq
  rw [List.length_cons] at len1
  generalize L.take j ++ (k, x) :: L.drop j = L1 at pm len1 q3 one1 row1
  have sz1 := size_of row1
  generalize SetTable.insertAt es j (knd.hash k, Value.ref x) = es1 at row1 sz1 ⊢
  refine wpAny_bind (wpAny_storeSet_of ho hd ?_ (by rw [sz1, len1, sizeLine_eq]; omega))
  have sb : Heap.SameBut a s.heap (s.heap.update a (Obj.putSet es1 t1)) := Heap.SameBut.update ..
  have ho1 := store_at (es' := es1) (t' := t1) ho hd
  generalize s.heap.update a (Obj.putSet es1 t1) = h1 at sb ho1 ⊢
  have ld1 : w.params.followText "set-order" = true ∨ t1.led = true := by rw [q5]; exact R.ld
  have pz1 : t1.place.size = L1.length := q3.sz.trans (eHash_len L1)
  rw [eHash_len] at q9
  by_cases hf : t1.tooFull = true
  · have full1 : (L.length + 1) * 5 ≥ t1.mask * 3 := by
      have z := hf
      unfold SetTable.tooFull at z
      rw [decide_eq_true_eq, q9] at z
      exact z
    have two : (t.mask = 7 ∧ L.length = 4) ∨ (t.mask = 31 ∧ L.length = 18) := by
      rcases R.tab.mok with e | e | e
      · exact .inl ⟨e, by rw [q4] at full1; omega⟩
      · exact .inr ⟨e, by rw [q4] at full1; omega⟩
      · rw [q4] at full1; omega
    have go : ∀ M, SetTable.sizeAbove (SetTable.grown (es.size + 1)) - 1 = M → MaskOk M → SetTable.sizeAbove (SetTable.grown (es.size + 1)) ≤ 128 → (L.length + 1) * 5 < M * 3 →
        wpAny (model P w) A (setRelay a (SetTable.grown (es.size + 1))) (fun _ s' => wpAny (model P w) A (pure true) Q E s') E { s with heap := h1 } := fun M g1 g2 g3 g4 =>
      lay_anew (s := { s with heap := h1 }) ho1 ⟨hex.1, hex.2.1, hex.2.2⟩ rfl row1 pz1 q3.dm (by rw [len1, q4]; rcases two with ⟨e, e2⟩ | ⟨e, e2⟩ <;> omega) one1 pl1 ld1 (by omega) g1 g2 g3 (by rw [len1]; exact g4)
        fun h2 L2 es2 ep2 t2 sb2 R2 pm2 => wpAny_pure (q true h2 L2 es2 ep2 t2 (sb.trans sb2) R2 (fun z => absurd z hm) fun _ => pm2.trans pm)
    first
      | refine wpAny_bind (wp_if_pos (by simp [hf]) ?_)
      | refine wp_if_pos (by simp [hf]) (wpAny_bind ?_)
    rcases two with ⟨_, e2⟩ | ⟨_, e2⟩
    · exact go 31 (by rw [sz, e2, size_20]) (.inr (.inl rfl)) (by rw [sz, e2, size_20]; decide) (by omega)
    · exact go 127 (by rw [sz, e2, size_76]) (.inr (.inr rfl)) (by rw [sz, e2, size_76]; decide) (by omega)
  · have rm1 : L1.length * 5 < t1.mask * 3 := by
      have z := hf
      unfold SetTable.tooFull at z
      rw [decide_eq_true_eq, q9] at z
      rw [len1]
      omega
    first
      | refine wp_if_neg (by simp [hf]) ?_
      | refine wpAny_bind (wp_if_neg (by simp [hf]) (wpAny_pure ?_))
    exact wpAny_pure (q true h1 L1 es1 (ep + 1) t1 sb ⟨⟨_, ho1, ⟨hex.1, hex.2.1, hex.2.2⟩, rfl⟩, row1, q3, one1, pl1, ld1, rm1, by omega⟩ (fun z => absurd z hm) fun _ => pm)
end
end Eh
set_option Elab.async false
set_option linter.all false
set_option maxRecDepth 100000
set_option maxHeartbeats 8000000
namespace Eh
open PySem PySem.Spec PyProof.Rows L2
section
variable {P : Program} {w : World} {κ : Type} [DecidableEq κ] {knd : HeapKind P w κ}
variable {A : Around} {E : Value → Shared → Prop} {s : Shared}
/-- what a set of the first i keys has -/
structure Has (ks : List (κ × Addr)) (i : Nat) (L : List (κ × Addr)) : Prop where
  sub : ∀ e ∈ L, e ∈ ks.take i
  all : ∀ e ∈ ks.take i, e.1 ∈ L.map (·.1)
  len : L.length ≤ i
theorem Has.nil (ks : List (κ × Addr)) : Has ks 0 [] := ⟨fun _ h => (nomatch h), fun _ h => (nomatch (show _ ∈ [] from h)), Nat.le_refl _⟩
theorem take_one {α : Type} {l : List α} {i : Nat} {x : α} (h : l[i]? = some x) : l.take (i + 1) = l.take i ++ [x] := by rw [List.take_succ, h]; rfl
theorem Has.next {ks L L' : List (κ × Addr)} {i : Nat} {e : κ × Addr} (g : Has ks i L) (h : ks[i]? = some e) (c1 : e.1 ∈ L.map (·.1) → L' = L) (c2 : e.1 ∉ L.map (·.1) → L'.Perm ((e.1, e.2) :: L)) : Has ks (i + 1) L' := by
  by_cases c : e.1 ∈ L.map (·.1)
  · rw [c1 c]
    refine ⟨fun x hx => ?_, fun x hx => ?_, Nat.le_succ_of_le g.len⟩ <;> rw [take_one h] at *
    · exact List.mem_append_left _ (g.sub x hx)
    · rcases List.mem_append.mp hx with z | z
      · exact g.all x z
      · rw [List.mem_singleton.mp z]; exact c
  · have pm := c2 c
    refine ⟨fun x hx => ?_, fun x hx => ?_, by rw [pm.length_eq]; exact Nat.succ_le_succ g.len⟩ <;> rw [take_one h] at *
    · rcases List.mem_cons.mp (pm.mem_iff.mp hx) with z | z
      · rw [z]; exact List.mem_append_right _ (List.mem_singleton.mpr rfl)
      · exact List.mem_append_left _ (g.sub x z)
    · refine (pm.map (·.1)).mem_iff.mpr ?_
      rw [List.map_cons]
      rcases List.mem_append.mp hx with z | z
      · exact List.mem_cons_of_mem _ (g.all x z)
      · rw [List.mem_singleton.mp z]; exact List.mem_cons_self
abbrev newSet (w : World) : Obj := { cls := .type "set", dict := none, data := .set #[] 0 (.fresh 0 0 (!w.params.followText "set-order")) }
theorem HSet.new {h : Heap} {a : Addr} (ho : h.get? a = some (newSet w)) : HSet knd h a [] #[] 0 (.fresh 0 0 (!w.params.followText "set-order")) := by
  refine ⟨⟨_, ho, ⟨rfl, rfl, rfl⟩, rfl⟩, rfl, ⟨List.Pairwise.nil, rfl, rfl, .inl rfl, fun _ hx => (nomatch hx), fun i h j hi => (nomatch (show ([] : List Int)[i]? = some h from hi))⟩, List.nodup_nil, rfl, ?_, by show 0 * 5 < 7 * 3; decide, by show 0 < 64; decide⟩
  show _ ∨ (!w.params.followText "set-order") = true
  cases w.params.followText "set-order"
  · exact .inr rfl
  · exact .inl rfl
/-- the loop of set.update -/
theorem update_loop (S : SetSide knd) {I : Addr} {fp wr : List Addr} {G : Array GenState → Array GenState → Prop} {n : Nat} {Pv : Nat → Value → Prop} {St : Nat → Shared → Prop} {R : Result → Shared → Prop}
    (W : WalksS P w A.in1 I fp wr G n Pv St) (d : Addr) (hdf : d ∉ fp) (ks : List (κ × Addr)) (hn : n = ks.length) (few : ks.length < 64) (item : ∀ i v, Pv i v → ∃ e, ks[i]? = some e ∧ v = .ref e.2)
    (h0 : Heap) (hk : Stand knd h0 ks) (hd0 : h0.get? d = none) (hw0 : ∀ b ∈ wr, h0.get? b = none) (hu : knd.room A.in1) :
    ∀ (m i : Nat) (s : Shared), n - i = m → i ≤ n → St i s → (∀ b o, h0.get? b = some o → s.heap.get? b = some o) → (∃ L es ep t, HSet knd s.heap d L es ep t ∧ Has ks i L) →
      (∀ s' L es ep t, Moved (d :: wr) G s s' → HSet knd s'.heap d L es ep t → Has ks n L → (∀ b o, h0.get? b = some o → s'.heap.get? b = some o) → R (.ok (.ret .none)) s') →
      codeAny (model P w) A (.builtin "set.update.loop" ⟨[.ref d, .ref I], []⟩) R s := by
  have dw : d ∉ wr := fun h => hdf (W.sub _ h)
  have wide : ∀ b ∈ wr, b ∈ d :: wr := fun b hb => List.mem_cons_of_mem _ hb
  have still : ∀ {s1 s2 : Shared}, Moved wr G s1 s2 → (∀ b o, h0.get? b = some o → s1.heap.get? b = some o) → ∀ b o, h0.get? b = some o → s2.heap.get? b = some o := fun mv kp b o e => mv.heap b o (fun hb => by rw [hw0 b hb] at e; cases e) (kp b o e)
  have part : ∀ {i L}, Has ks i L → Stand knd h0 L := fun g e he => hk e (List.mem_of_mem_take (g.sub e he))
  intro m
  induction m with
  | zero =>
    intro i s hm hi hst kp ⟨L, es, ep, t, hS, g⟩ fin
    obtain rfl : i = n := by omega
    refine codeAny_builtin F.entry_set_update_loop ?_
    rw [Around.under_plainId F.plain_set_update_loop _]
    show wpAny _ A.in1 (pyNext (.ref I) >>= _) _ _ s
    refine wpAny_bind (W.done s _ _ hst fun s2 mv => ?_)
    show wpAny _ A.in1 (ret Value.none) _ _ s2
    exact wpAny_pure (fin s2 L es ep t (mv.mono wide) (hS.keep fun o e => mv.heap d o dw e) g (still mv kp))
  | succ m ih =>
    intro i s hm hi hst kp ⟨L, es, ep, t, hS, g⟩ fin
    have hlt : i < n := by omega
    refine codeAny_builtin F.entry_set_update_loop ?_
    rw [Around.under_plainId F.plain_set_update_loop _]
    show wpAny _ A.in1 (pyNext (.ref I) >>= _) _ _ s
    refine wpAny_bind (W.item i s _ _ hlt hst fun v s2 hP hst2 mv => ?_)
    obtain ⟨e, he, rfl⟩ := item i v hP
    have kp2 := still mv kp
    have hS2 : HSet knd s2.heap d L es ep t := hS.keep fun o e => mv.heap d o dw e
    have hx : knd.is s2.heap e.1 e.2 := Stand.keep S.st hk kp2 e (List.mem_of_getElem? he)
    have hL2 : Stand knd s2.heap L := (part g).keep S.st kp2
    show wpAny _ A.in1 (holding [Value.ref e.2] (setAdd d (.ref e.2)) >>= _) _ _ s2
    refine wpAny_bind (wpAny_holding ?_)
    unfold setAdd
    refine wpAny_holding (wpAny_bind (knd.pyHash hu hx ?_))
    refine put_in_set (s := { s2 with toks := s2.toks + knd.draws e.1 }) S hS2 hL2 hx hu (by have := g.len; omega) fun b h' L' es' ep' t' sb hS3 c1 c2 => ?_
    have kp3 : ∀ b o, h0.get? b = some o → h'.get? b = some o := fun b o z => (sb.2 b fun y => by rw [y, hd0] at z; cases z).trans (kp2 b o z)
    refine wpAny_pure ⟨plainId_quiet F.plain_set_update_loop _, ih (i + 1) _ (by omega) hlt (W.frame _ s2 _ _ hst2 (Nat.le_add_right _ _) fun b hb o z => ?_) kp3 ⟨L', es', ep', t', hS3, g.next he c1 c2⟩ fun s4 L4 es4 ep4 t4 mv4 hS4 g4 kp4 => ?_⟩
    · rw [sb.2 b fun y : b = d => hdf (by rw [← y]; exact hb)]
      exact z
    · refine fin s4 L4 es4 ep4 t4 (Moved.trans W.gtrans ((mv.mono wide).then_heap (Nat.le_add_right _ _) fun b o hb z => ?_) mv4) hS4 g4 kp4
      rw [sb.2 b fun y : b = d => hb (by rw [y]; exact List.mem_cons_self)]
      exact z
/-- set(xs), xs a list of keys -/
theorem set_of_list (S : SetSide knd) {l : Addr} {items : Array Value} (ks : List (κ × Addr)) {Q : Value → Shared → Prop} (hh : A.handled = none) (hl : s.heap.IsList l items) (hit : items.toList = ks.map fun e => Value.ref e.2)
    (hk : Stand knd s.heap ks) (few : ks.length < 64) (hu : knd.room A.in1.in1.in1)
    (q : ∀ (h' : Heap) (tk : Nat) L es ep t, HSet knd h' s.heap.objs.size L es ep t → Has ks ks.length L → (∀ b o, s.heap.get? b = some o → h'.get? b = some o) → Q (.ref s.heap.objs.size) { s with heap := h', toks := tk }) :
    wpAny (model P w) A (call (.type "set") [.ref l]) Q E s := by
  have isz : items.size = ks.length := by rw [← Array.length_toList, hit, List.length_map]
  obtain ⟨mc, mt, hmro⟩ := F.called_set.mro
  have hmade := F.called_set.made
  have hsub := F.called_set.sub
  have hnt := F.called_set.notType
  have hcc := F.called_set.canCreate
  have htc := F.typeCall_set_1 (.ref l)
  refine wpAny_call (codeAny_of_tree ?_)
  show wpAny _ _ (callAny (.type "set") _) _ _ _
  refine wpAny_pure ⟨Code.quiet_builtin _ (by decide +kernel), codeAny_builtin F.entry_type_call ?_⟩
  rw [Around.under_plain (weight_type_call_type "set" [.ref l] []) rfl]
  repeat (any_goals (first | assumption | wp_step))

  refine codeAny_mono (code_set_led1 (.ref l) (E := E) (Q₁ := fun obj s1 => obj = .ref s.heap.objs.size ∧ s1 = { s with heap := s.heap.push (newSet w) }) ⟨rfl, rfl⟩) fun r s1 hr => ?_
  match r, hr with
  | .error e, hr => exact hr
  | .ok (.ret obj), hr =>
    obtain ⟨rfl, rfl⟩ := hr
    have hnew : (s.heap.push (newSet w)).get? s.heap.objs.size = some (newSet w) := Heap.get?_push_size _ rfl
    have hT : Shared.TypeIs { s with heap := s.heap.push (newSet w) } (.ref s.heap.objs.size) "set" := ⟨_, hnew, rfl⟩
    have hli := F.called_set.init.lookup
    have hbi := F.called_set.init.bind (.ref s.heap.objs.size)
    repeat (any_goals (first | assumption | wp_step))

    refine codeAny_mono (codeAny_call_builtin (R := wants (fun r s2 => r = .none ∧ ∃ h' tk L es ep t, s2 = { s with heap := h', toks := tk } ∧ HSet knd h' s.heap.objs.size L es ep t ∧ Has ks ks.length L ∧ (∀ b o, s.heap.get? b = some o → h'.get? b = some o)) E)
      F.called_set.init.plain F.entry_set_init (check_set_init_1 hT ?_)) fun r2 s2 hr2 => ?_
    · obtain ⟨⟨oc, od, odt, osl⟩, hol, hcl, nl, hdl⟩ := hl
      simp only at hcl hdl
      subst hcl; subst hdl
      have hol2 : (s.heap.push (newSet w)).get? l = some { cls := .type "list", dict := od, data := .seq items nl, slots := osl } := Heap.get?_push_of_some _ hol
      have hsls := F.sub_list_set
      have hslf := F.sub_list_frozenset
      have hne : (Value.type "list" == Value.type "dict") = false := by decide
      have hl2 : (s.heap.push (newSet w)).IsList l items := ⟨_, hol2, rfl, nl, rfl⟩
      have hlS : l < s.heap.objs.size := Heap.lt_size hol
      unfold Builtin.«set.__init__» noKeywords Builtin.Frozenset.updateFrom
      generalize hPI : pyIter = PI
      wp_walk
      subst hPI

      refine wpAny_pyIter_list hl2 (wpAny_bind (wpAny_runValue ?_))
      have hh3 : A.in1.in1.in1.handled = none := by simp [hh]
      have lone : l ≠ (s.heap.push (newSet w)).objs.size := by rw [Heap.size_push]; exact Nat.ne_of_lt (Nat.lt_succ_of_lt hlS)
      have free : s.heap.objs.size ∉ [(s.heap.push (newSet w)).objs.size, l] := by
        rw [Heap.size_push]
        simp only [List.mem_cons, List.not_mem_nil, or_false, not_or]
        exact ⟨Nat.ne_of_lt (Nat.lt_succ_self _), Nat.ne_of_gt hlS⟩
      have item : ∀ (i : Nat) (v : Value), items[i]? = some v → ∃ e, ks[i]? = some e ∧ v = .ref e.2 := fun i v hv => by
        rw [← Array.getElem?_toList, hit, List.getElem?_map] at hv
        obtain ⟨e, he, rfl⟩ := Option.map_eq_some_iff.mp hv
        exact ⟨e, he, rfl⟩
      have beyond : ∀ b, s.heap.objs.size ≤ b → s.heap.get? b = none := fun b hb => by
        cases z : s.heap.get? b with
        | none => rfl
        | some o => exact absurd (Nat.lt_of_lt_of_le (Heap.lt_size z) hb) (Nat.lt_irrefl _)
      refine update_loop S ((Walks.list hh3 _ l lone items).toS) s.heap.objs.size free ks isz few item s.heap hk (beyond _ (Nat.le_refl _)) (fun b hb => beyond b (by rw [List.mem_singleton.mp hb, Heap.size_push]; exact Nat.le_succ _)) hu (items.size - 0) 0 _ (by omega) (Nat.zero_le _)
        ⟨⟨_, Heap.get?_push_size _ rfl, rfl, rfl⟩, (hl2.push _)⟩ (fun b o e => Heap.get?_push_of_some _ (Heap.get?_push_of_some _ e)) ⟨[], #[], 0, _, HSet.new (Heap.get?_push_of_some _ hnew), Has.nil ks⟩ fun s4 L es ep t mv hS g kp => ?_
      obtain ⟨h4, g4, d4, tk4, os4⟩ := s4
      obtain rfl : g4 = s.gens := mv.gens
      obtain rfl : d4 = s.drawn := mv.drawn
      obtain rfl : os4 = s.os := mv.os
      rw [isz] at g
      show wpAny _ _ _ _ _ _
      refine wpAny_pure ?_
      show wpAny _ _ (ret Value.none) _ _ _
      exact wpAny_pure ⟨rfl, h4, tk4, L, es, ep, t, rfl, hS, g, kp⟩

    · match r2, hr2 with
      | .error e, hr2 => exact hr2
      | .ok (.ret r), hr2 =>
        obtain ⟨rfl, h', tk, L, es, ep, t, rfl, hS, g, kp⟩ := hr2
        repeat (any_goals (first | assumption | wp_step))
        exact q _ _ _ _ _ _ hS g kp
end
end Eh
set_option Elab.async false
set_option linter.all false
set_option maxRecDepth 100000
namespace Eh
open PySem PySem.Spec PyProof.Rows L2
structure Cal (P : Program) (w : World) (K : PySem.W.Frag) (mg : Str → Option Value) (base : Heap) (k : Nat) (x : Str) (f : Addr) (fd : FuncData) (ps : List Str) (sp : Sp) : Prop where
  G : FnOk P w K mg base CX0 k f fd ps sp
  m : mg x = some (.ref f)
  k : PySem.W.keepIn K (.ref f) = true
  b : Binds K fd ps []
section
variable {X : Cx}
theorem op_powB : OpR X (binaryOp .Pow) (rI (fun i j => 0 ≤ j ∧ (Builtin.Int.intBits i : Int) * j ≤ 2 ^ 27) fun i j => .int (i ^ j.toNat)) :=
  opI fun _ _ _ _ _ _ _ hc q => pow_int hc.1 hc.2 q
end
/-- the list of the dice's three numbers stands at d -/
def D3 (H : Hp) (d : Addr) : Prop := ∃ g b c : Int, H d = some (.lst [.int g, .int b, .int c])
/-- from H to H' only the dice at d were turned, and new objects laid -/
structure Gr (d : Addr) (H H' : Hp) : Prop where
  dice : D3 H' d
  keep : ∀ a o, a ≠ d → H a = some o → H' a = some o
theorem Gr.refl {d : Addr} {H : Hp} (h : D3 H d) : Gr d H H := ⟨h, fun _ _ _ e => e⟩
theorem Gr.trans {d : Addr} {H H1 H2 : Hp} (a : Gr d H H1) (b : Gr d H1 H2) : Gr d H H2 := ⟨b.dice, fun p o n e => b.keep p o n (a.keep p o n e)⟩
theorem Gr.laid {d p : Addr} {H : Hp} {o : HO} (h : D3 H d) (n : H p = none) : Gr d H (upd H p o) := by
  obtain ⟨g, b, c, e⟩ := h
  exact ⟨⟨g, b, c, by rw [upd_ne (ne_of_none e n)]; exact e⟩, fun a u _ z => by rw [upd_ne (ne_of_none z n)]; exact z⟩
theorem D3.ne {d p : Addr} {H : Hp} (h : D3 H d) (n : H p = none) : p ≠ d := by
  obtain ⟨g, b, c, e⟩ := h
  exact (ne_of_none e n).symm
theorem Gr.seq {K : PySem.W.Frag} {d a : Addr} {H H' : Hp} {xs : List V} (r : Gr d H H') (n : a ≠ d) (h : SqL K H a xs) : SqL K H' a xs := by
  rcases h with (h | ⟨o, h⟩) | h
  · exact .inl (.inl (r.keep _ _ n h))
  · exact .inl (.inr ⟨o, r.keep _ _ n h⟩)
  · exact .inr h
theorem Gr.put {d l : Addr} {H H' : Hp} {o : HO} (r : Gr d H H') (n : H l = none) (m : l ≠ d) : Gr d H (upd H' l o) := by
  obtain ⟨g, b, c, e⟩ := r.dice
  exact ⟨⟨g, b, c, by rw [upd_ne m.symm]; exact e⟩, fun a u q z => by rw [upd_ne (ne_of_none z n)]; exact r.keep a u q z⟩
theorem Gr.free {d l : Addr} {H H' : Hp} (r : Gr d H H') (h : D3 H d) (n : H' l = none) : H l = none := by
  cases q : H l with
  | none => rfl
  | some o =>
    by_cases e : l = d
    · obtain ⟨g, b, c, z⟩ := r.dice
      rw [e, z] at n
      cases n
    · rw [r.keep l o e q] at n
      cases n
section
variable {P : Program} {w : World} {K : PySem.W.Frag} {mg : Str → Option Value} {base : Heap}
def spRoll : Sp := fun vs H Q _ => ∃ (d : Addr) (many : Int), vs = [.ref d, .int many] ∧ D3 H d ∧ 0 < many ∧ many < 1073741824 ∧
  ∀ (r : Int) H', 0 ≤ r → r < many → D3 H' d → (∀ a, a ≠ d → H' a = H a) → Q (.int r) H'
theorem fmod_in {i m : Int} (h : 0 < m) : 0 ≤ i.fmod m ∧ i.fmod m < m := by
  rw [Int.fmod_eq_emod_of_nonneg i (by omega)]
  exact ⟨Int.emod_nonneg i (by omega), Int.emod_lt_of_pos i h⟩
theorem in64 {x : Int} (h : 0 ≤ x ∧ x < 2305843009213693951) : -(2 ^ 64) < x ∧ x < 2 ^ 64 := by omega
theorem in64' {x : Int} (h : 0 ≤ x ∧ x < 2305843009213693807) : -(2 ^ 64) < x ∧ x < 2 ^ 64 := by omega
theorem m1N : (2305843009213693951 : Int) ≠ 0 := by decide
theorem m2N : (2305843009213693807 : Int) ≠ 0 := by decide
theorem m3N : (2305843009213693537 : Int) ≠ 0 := by decide
theorem d8N : (8192 : Int) ≠ 0 ∧ (8192 : Int).natAbs < 1073741824 := by decide
theorem ok_roll {f : Addr} {fd : FuncData} (F : Fun K "_law_roll" "_law_roll" s__law_roll f fd) (T : Txt mg) : FnOk P w K mg base CX0 1 f fd ["dice", "many"] spRoll := by
  refine F.ok sc__law_roll (fun vs H Q E h => ?_) (fun cdv A outer s H vs Q E hr h => ?_)
  · obtain ⟨d, m, rfl, _⟩ := h
    rfl
  · obtain ⟨d, m, rfl, ⟨g, b, c, eH⟩, m0, m1, q⟩ := h
    refine ⟨_, (pss_cons (ps_if (pt_cmpR op_gt (pe_ix ix_list (pv 0) pe_int (fun _ _ => rfl)) pe_int (nomark _))
  (pss_cons (ps_set (i := 2) sc__law_roll.nd rfl (.inl rfl) (pe_op op_modN (pe_callTy call_int1 (by rfl) T.int_ (by decide +kernel) (pa_cons (pe_ix ix_list (pv 0) pe_int (fun _ _ => rfl)) pa_nil)) (pv 1)))
  (pss_cons (ps_asg (pe_op op_fdivN (pe_ix ix_list (pv 0) pe_int (fun _ _ => rfl)) (pv 1)) (pg_sub (pv 0) pe_int set_list))
  (pss_one (ps_ret (pv 2)))))
  pss_nil)
  (pss_cons (ps_asg (pe_op op_add (pe_ix ix_list (pv 0) pe_int (fun _ _ => rfl)) pe_int) (pg_sub (pv 0) pe_int set_list))
  (pss_cons (ps_set (i := 3) sc__law_roll.nd rfl (.inl rfl) (pe_op op_modN (pe_callTy call_int1 (by rfl) T.int_ (by decide +kernel) (pa_cons (pe_op op_add (pe_ix ix_list (pv 0) pe_int (fun _ _ => rfl)) (pe_op op_mul pe_int (pe_ix ix_list (pv 0) pe_int (fun _ _ => rfl)))) pa_nil)) pe_int))
  (pss_cons (ps_set (i := 4) sc__law_roll.nd rfl (.inl rfl) (pe_op op_add (pe_op op_mul (pe_op op_modN (pe_callTy call_int1 (by rfl) T.int_ (by decide +kernel) (pa_cons (pe_op op_mul (pv 3) (pv 3)) pa_nil)) pe_int) (pv 3)) (pe_op op_mul pe_int (pe_ix ix_list (pv 0) pe_int (fun _ _ => rfl)))))
  (pss_cons (ps_set (i := 4) sc__law_roll.nd rfl (.inl rfl) (pe_op op_modN (pe_callTy call_int1 (by rfl) T.int_ (by decide +kernel) (pa_cons (pv 4) pa_nil)) pe_int))
  (pss_one (ps_ret (pe_op op_modN (pe_callTy call_int1 (by rfl) T.int_ (by decide +kernel) (pa_cons (pe_op op_fdivN (pv 4) pe_int) pa_nil)) (pv 1))))))))), ?_⟩
    refine ⟨_, rfl, d, _, 0, _, rfl, rfl, SqL.of eH, atI_nat (j := 0) rfl, g, 0, rfl, rfl, _, rfl, ite2 (fun _ => ?_) (fun _ => ?_)⟩
    · refine ⟨_, rfl, d, _, 0, _, rfl, rfl, SqL.of eH, atI_nat (j := 0) rfl, .inl ⟨g, rfl, ?_⟩⟩
      refine ⟨_, rfl, g, m, rfl, rfl, by omega, ?_⟩
      refine ⟨_, rfl, d, _, 0, _, rfl, rfl, SqL.of eH, atI_nat (j := 0) rfl, _, rfl, g, m, rfl, rfl, ⟨by omega, by omega⟩, ?_⟩
      refine ⟨_, rfl, d, _, 0, 0, rfl, rfl, eH, rfl, ?_⟩
      refine ⟨_, rfl, q _ _ (fmod_in m0).1 (fmod_in m0).2 ⟨_, b, c, upd_same⟩ fun a n => upd_ne n⟩
    · refine ⟨_, rfl, d, _, 2, _, rfl, rfl, SqL.of eH, atI_nat (j := 2) rfl, c, 1, rfl, rfl, ?_⟩
      refine ⟨_, rfl, d, _, 2, 2, rfl, rfl, eH, rfl, ?_⟩
      have e1 : (upd H d (.lst [.int g, .int b, .int (c + 1)])) d = some (.lst [.int g, .int b, .int (c + 1)]) := upd_same
      refine ⟨_, rfl, d, _, 1, _, rfl, rfl, SqL.of e1, atI_nat (j := 1) rfl, _, rfl, d, _, 2, _, rfl, rfl, SqL.of e1, atI_nat (j := 2) rfl, _, _, rfl, rfl, .inl ⟨by decide, by decide⟩, _, _, rfl, rfl, .inl ⟨_, rfl, ?_⟩⟩
      refine ⟨_, _, rfl, rfl, m1N, ?_⟩
      refine ⟨_, rfl, _, rfl, _, _, rfl, rfl, .inl (in64 (fmod_in (by decide))), .inl ⟨_, rfl, ?_⟩⟩
      refine ⟨_, _, rfl, rfl, m2N, ?_⟩
      refine ⟨_, rfl, _, _, rfl, rfl, .inl (in64' (fmod_in (by decide))), ?_⟩
      refine ⟨_, rfl, d, _, 2, _, rfl, rfl, SqL.of e1, atI_nat (j := 2) rfl, _, _, rfl, rfl, .inl ⟨by decide, by decide⟩, _, _, rfl, rfl, ?_⟩
      refine ⟨_, rfl, .inl ⟨_, rfl, _, _, rfl, rfl, m3N, ?_⟩⟩
      refine ⟨_, rfl, _, _, rfl, rfl, d8N, .inl ⟨_, rfl, _, rfl, _, m, rfl, rfl, by omega, ?_⟩⟩
      exact q _ _ (fmod_in m0).1 (fmod_in m0).2 ⟨g, b, _, upd_same⟩ fun a n => upd_ne n
end
end Eh
set_option Elab.async false
set_option linter.all false
set_option maxRecDepth 100000
namespace Eh
open PySem PySem.Spec PyProof.Rows L2
section
variable {X : Cx} {K : PySem.W.Frag}
theorem ixL (h : X.K = K) : IxR X (rIxL K) := by subst h; exact ix_list
theorem ixT (h : X.K = K) : IxR X (rIxT K) := by subst h; exact ix_tup
theorem slL (h : X.K = K) : SlR X (rSlL K) := by subst h; exact sl_list
theorem inQ (h : X.K = K) : OpR X (compareOp .In) (rIn K false) := by subst h; exact op_in_seq
theorem eqD (h : X.K = K) (hu : X.A.units + 64 < cLine) : OpR X (compareOp .Eq) (rEqD K) := by subst h; exact op_eqD hu
theorem neD (h : X.K = K) (hu : X.A.units + 64 < cLine) : OpR X (compareOp .NotEq) (rNeD K) := by subst h; exact op_neD hu
def rLen (K : PySem.W.Frag) : List V → Hp → VK → Prop := fun xs H Q => (∃ p ys, xs = [.ref p] ∧ (SqL K H p ys ∨ SqT K H p ys) ∧ Q (.int ys.length) H) ∨ (∃ z : Str, xs = [.str z] ∧ z.length ≤ sizeLine ∧ Q (.int z.length) H)
theorem lenQ (h : X.K = K) : CallR X (.builtin "len") (rLen K) := by subst h; exact call_len_seq.or call_len_str
def rLstOf (K : PySem.W.Frag) : List V → Hp → VK → Prop := fun xs H Q => ∃ p ys, xs = [.ref p] ∧ (SqL K H p ys ∨ SqT K H p ys) ∧ ∀ l, H l = none → Q (.ref l) (upd H l (.lst ys))
theorem lstOf (h : X.K = K) : CallR X (.type "list") (rLstOf K) := by subst h; exact call_list_of
theorem isiQ (h : X.K = K) : CallR X (.builtin "isinstance") (rIsi K) := by subst h; exact call_isi
theorem allQ (h : X.K = K) (hc : X.calm = true) : CallR X (.builtin "all") (rAll K) := by subst h; exact cr_all hc
theorem bmK {e : Expr} {T : String} {r : V → List V → Hp → VK → Prop} {to : TE} {t : TA} (h : X.K = K) (p : PE X e (tBM X.K T r to t)) : PE X e (tBM K T r to t) := by subst h; exact p
theorem bm0K {e : Expr} {T : String} {r : V → List V → Hp → VK → Prop} {to : TE} (h : X.K = K) (p : PE X e (tBM0 X.K T r to)) : PE X e (tBM0 K T r to) := by subst h; exact p
theorem piL {tg l : Expr} {tl : TE} (h : X.K = K) (hl : PE X l tl) : PI X tg l (iList K tl) := by subst h; exact pi_list hl
end
end Eh
set_option Elab.async false
set_option linter.all false
set_option maxRecDepth 100000
namespace Eh
open PySem PySem.Spec PyProof.Rows L2
theorem small {n : Nat} (h : n < 1000000) : n < sizeLine := Nat.lt_of_lt_of_le h (by decide)
theorem wipe1 {σ : L2.St} {i : Nat} {x : Option V} : wipe ((wipe σ [i]).set i x) [i] = wipe σ [i] := by
  show ((σ.set i none).set i x).set i none = σ.set i none
  rw [List.set_set, List.set_set]
/-- ahead of turn j: what is made stands at D, and R -/
def LcP (R : Nat → List V → Hp → Prop) (D : Addr) (j : Nat) (H : Hp) : Prop := ∃ acc, acc.length ≤ j ∧ H D = some (.lst acc) ∧ R j acc H
/-- behind the element of turn j -/
def LcK (R : Nat → List V → Hp → Prop) (D : Addr) (j : Nat) : VK := fun y H4 => ∃ acc, H4 D = some (.lst acc) ∧ acc.length < sizeLine ∧ LcP R D (j + 1) (upd H4 D (.lst (acc ++ [y])))
theorem LcK.mk {R : Nat → List V → Hp → Prop} {D : Addr} {j : Nat} {acc : List V} {y : V} {H : Hp} (hl : acc.length ≤ j) (hj : j < 1000000) (e : H D = some (.lst acc)) (r : R (j + 1) (acc ++ [y]) (upd H D (.lst (acc ++ [y])))) : LcK R D j y H :=
  ⟨acc, e, small (by omega), acc ++ [y], by rw [List.length_append]; show acc.length + 1 ≤ j + 1; omega, upd_same, r⟩
/-- what a comprehension's reading asks behind its new list -/
def LcGoal (J : It) (g : TG) (tt : TT) (te : TE) (vs : List Nat) (σ : L2.St) (H1 : Hp) (D : Addr) (Qd : Hp → Prop) : Prop :=
  ∃ W : Nat → Nat → Hp → Prop, (∃ m, W 0 m (upd H1 D (.lst []))) ∧ ∀ i m H, W i m H → (J.stop i H ∧ Qd H) ∨ (J.go i H ∧ ∃ Nx : Hp → Prop, (∀ H', Nx H' → ∃ m', m' < m ∧ W (i + 1) m' H') ∧
    ∀ x H', J.yld i H x H' → g x (wipe σ vs) H' fun σ2 H2 => wipe σ2 vs = wipe σ vs ∧ tt σ2 H2 fun b H3 => if b = true then te σ2 H3 fun y H4 => ∃ acc, H4 D = some (.lst acc) ∧ acc.length < sizeLine ∧ Nx (upd H4 D (.lst (acc ++ [y]))) else Nx H3)
theorem yesT {τ : L2.St} {H : Hp} {A B : Hp → Prop} (h : A H) : tYes τ H (fun b H3 => if b = true then A H3 else B H3) := by
  show (if true = true then A H else B H)
  rw [if_pos rfl]
  exact h
section
variable {te : TE} {tt : TT} {σ : L2.St} {H1 : Hp} {D : Addr} {Qd : Hp → Prop} {i : Nat}
theorem lc_any {J : It} {n : Nat} (R : Nat → List V → Hp → Prop) (h0 : R 0 [] (upd H1 D (.lst [])))
    (hgo : ∀ j acc H, j < n → acc.length ≤ j → H D = some (.lst acc) → R j acc H → J.go j H ∧ ∀ x H', J.yld j H x H' → H' = H ∧
      tt ((wipe σ [i]).set i (some x)) H fun b H3 => if b = true then te ((wipe σ [i]).set i (some x)) H3 (LcK R D j) else LcP R D (j + 1) H3)
    (hstop : ∀ acc H, acc.length ≤ n → H D = some (.lst acc) → R n acc H → J.stop n H ∧ Qd H) : LcGoal J (gName i) tt te [i] σ H1 D Qd := by
  refine ⟨fun j m H => m = n - j ∧ j ≤ n ∧ LcP R D j H, ⟨n, by omega, Nat.zero_le _, [], Nat.le_refl _, upd_same, h0⟩, ?_⟩
  rintro j m H ⟨rfl, hj, acc, hl, e, r⟩
  by_cases hlt : j < n
  · obtain ⟨g1, g2⟩ := hgo j acc H hlt hl e r
    refine .inr ⟨g1, LcP R D (j + 1), fun H' q => ⟨n - (j + 1), by omega, rfl, hlt, q⟩, fun x H' y => ?_⟩
    obtain ⟨eH, k⟩ := g2 x H' y
    subst eH
    exact ⟨wipe1, k⟩
  · have ej : j = n := by omega
    subst ej
    exact .inl (hstop acc H hl e r)
/-- over a range, no test -/
theorem lcR {lo : Int} {n : Nat} (R : Nat → List V → Hp → Prop) (h0 : R 0 [] (upd H1 D (.lst [])))
    (hs : ∀ j acc H, j < n → acc.length ≤ j → H D = some (.lst acc) → R j acc H → te ((wipe σ [i]).set i (some (.int (lo + j)))) H (LcK R D j))
    (hd : ∀ acc H, acc.length ≤ n → H D = some (.lst acc) → R n acc H → Qd H) : LcGoal (Itr lo n) (gName i) tYes te [i] σ H1 D Qd :=
  lc_any R h0 (fun j acc H hj hl e r => ⟨hj, fun x H' y => ⟨y.1, by
    rw [show x = .int (lo + j) from y.2]
    exact hs j acc H hj hl e r⟩⟩) fun acc H hl e r => ⟨Nat.le_refl _, hd acc H hl e r⟩
/-- over a text, no test; with one -/
theorem lcS {z : Str} (R : Nat → List V → Hp → Prop) (h0 : R 0 [] (upd H1 D (.lst [])))
    (hs : ∀ j c acc H, z.cps[j]? = some c → acc.length ≤ j → H D = some (.lst acc) → R j acc H →
      tt ((wipe σ [i]).set i (some (.str ⟨#[c]⟩))) H fun b H3 => if b = true then te ((wipe σ [i]).set i (some (.str ⟨#[c]⟩))) H3 (LcK R D j) else LcP R D (j + 1) H3)
    (hd : ∀ acc H, acc.length ≤ z.cps.size → H D = some (.lst acc) → R z.cps.size acc H → Qd H) : LcGoal (Its z) (gName i) tt te [i] σ H1 D Qd :=
  lc_any R h0 (fun j acc H hj hl e r => ⟨hj, fun x H' y => by
    obtain ⟨y1, c, hc, rfl⟩ := y
    exact ⟨y1, hs j c acc H hc hl e r⟩⟩) fun acc H hl e r => ⟨Nat.le_refl _, hd acc H hl e r⟩
/-- over a list that stays -/
theorem lcL {K : PySem.W.Frag} {a : Addr} {xs : List V} (R : Nat → List V → Hp → Prop) (h0 : R 0 [] (upd H1 D (.lst []))) (hl : ∀ j acc H, R j acc H → SqL K H a xs)
    (hs : ∀ j x acc H, xs[j]? = some x → acc.length ≤ j → H D = some (.lst acc) → R j acc H →
      tt ((wipe σ [i]).set i (some x)) H fun b H3 => if b = true then te ((wipe σ [i]).set i (some x)) H3 (LcK R D j) else LcP R D (j + 1) H3)
    (hd : ∀ acc H, acc.length ≤ xs.length → H D = some (.lst acc) → R xs.length acc H → Qd H) : LcGoal (Itl K a) (gName i) tt te [i] σ H1 D Qd :=
  lc_any R h0 (fun j acc H hj hl' e r => ⟨⟨xs, xs[j], hl _ _ _ r, List.getElem?_eq_getElem hj⟩, fun x H' y => ⟨y.1, hs j x acc H (y.2 xs (hl _ _ _ r)) hl' e r⟩⟩)
    fun acc H hl' e r => ⟨⟨xs, hl _ _ _ r, Nat.le_refl _⟩, hd acc H hl' e r⟩
/-- over a tuple that stays -/
theorem lcT {K : PySem.W.Frag} {a : Addr} {xs : List V} (R : Nat → List V → Hp → Prop) (h0 : R 0 [] (upd H1 D (.lst []))) (hl : ∀ j acc H, R j acc H → SqT K H a xs)
    (hs : ∀ j x acc H, xs[j]? = some x → acc.length ≤ j → H D = some (.lst acc) → R j acc H →
      tt ((wipe σ [i]).set i (some x)) H fun b H3 => if b = true then te ((wipe σ [i]).set i (some x)) H3 (LcK R D j) else LcP R D (j + 1) H3)
    (hd : ∀ acc H, acc.length ≤ xs.length → H D = some (.lst acc) → R xs.length acc H → Qd H) : LcGoal (Itt K a) (gName i) tt te [i] σ H1 D Qd :=
  lc_any R h0 (fun j acc H hj hl' e r => ⟨⟨xs, xs[j], hl _ _ _ r, List.getElem?_eq_getElem hj⟩, fun x H' y => ⟨y.1, hs j x acc H (y.2 xs (hl _ _ _ r)) hl' e r⟩⟩)
    fun acc H hl' e r => ⟨⟨xs, hl _ _ _ r, Nat.le_refl _⟩, hd acc H hl' e r⟩
end
end Eh
set_option Elab.async false
set_option linter.all false
set_option maxRecDepth 100000
namespace Eh
open PySem PySem.Spec PyProof.Rows L2
section
variable {P : Program} {w : World} {K : PySem.W.Frag} {mg : Str → Option Value} {base : Heap}
theorem seq_off {d a : Addr} {H H' : Hp} {xs : List V} (n : a ≠ d) (k : ∀ b, b ≠ d → H' b = H b) (h : SqL K H a xs) : SqL K H' a xs := by
  rcases h with (h | ⟨o, h⟩) | h
  · exact .inl (.inl (by rw [k a n]; exact h))
  · exact .inl (.inr ⟨o, by rw [k a n]; exact h⟩)
  · exact .inr h
def spPick (K : PySem.W.Frag) : Sp := fun vs H Q _ => ∃ (d a : Addr) (xs : List V), vs = [.ref d, .ref a] ∧ D3 H d ∧ SqL K H a xs ∧ a ≠ d ∧ 0 < xs.length ∧ xs.length < 1000000 ∧
  ∀ x H', x ∈ xs → D3 H' d → (∀ b, b ≠ d → H' b = H b) → Q x H'
theorem at_in {xs : List V} {r : Int} (h0 : 0 ≤ r) (h1 : r < xs.length) : ∃ x, atI xs r = some x ∧ x ∈ xs := by
  have h : r.toNat < xs.length := by omega
  refine ⟨xs[r.toNat], ?_, List.getElem_mem h⟩
  have e := atI_nat (xs := xs) (j := r.toNat) (List.getElem?_eq_getElem h)
  rwa [Int.toNat_of_nonneg h0] at e
theorem ok_pick {f fR : Addr} {fd fdR : FuncData} (F : Fun K "_law_pick" "_law_pick" s__law_pick f fd) (T : Txt mg) (C__law_roll : Cal P w K mg base 1 "_law_roll" fR fdR ["dice", "many"] spRoll) :
    FnOk P w K mg base CX0 2 f fd ["dice", "items"] (spPick K) := by
  refine F.ok sc__law_pick (fun vs H Q E h => ?_) (fun cdv A outer s H vs Q E hr h => ?_)
  · obtain ⟨d, a, xs, rfl, _⟩ := h
    rfl
  · obtain ⟨d, a, xs, rfl, D, hS, hn, h0, h1, q⟩ := h
    refine ⟨_, (pss_one (ps_ret (pe_ix (ixL (K := K) rfl) (pv 1) (pe_call C__law_roll.G hr (by rfl) C__law_roll.m C__law_roll.k C__law_roll.b .nil pass0 (pa_cons (pv 0) (pa_cons (pe_callB (lenQ (K := K) rfl) (by rfl) T.len_ (by decide +kernel) (pa_cons (pv 1) pa_nil)) pa_nil))) (fun _ _ => rfl)))), ?_⟩
    refine ⟨_, rfl, _, rfl, _, rfl, (.inl ⟨a, xs, rfl, .inl hS, d, _, rfl, D, by omega, by omega, fun r H' r0 r1 D' k => ?_⟩)⟩
    obtain ⟨x, e, hx⟩ := at_in r0 r1
    exact ⟨a, xs, r, x, rfl, rfl, seq_off hn k hS, e, q x H' hx D' k⟩
end
end Eh
set_option Elab.async false
set_option linter.all false
set_option maxRecDepth 100000
namespace Eh
open PySem PySem.Spec PyProof.Rows L2
section
variable {P : Program} {w : World} {K : PySem.W.Frag} {mg : Str → Option Value} {base : Heap}
def spDice (K : PySem.W.Frag) : Sp := fun vs H Q _ => ∃ (a : Addr) (ns : List Int) (k : Nat), vs = [.ref a, .int k] ∧ SqL K H a (ns.map V.int) ∧
  ∀ d H', Same H H' → H d = none → D3 H' d → Q (.ref d) H'
theorem p60 : (0 : Int) ≤ 60 ∧ (60 : Int) ≤ 1000000 ∧ (10 : Int).natAbs < 2 ^ 64 := by decide
theorem p18 : (0 : Int) ≤ 18 ∧ (18 : Int) ≤ 1000000 ∧ (10 : Int).natAbs < 2 ^ 64 := by decide
theorem p600 : (0 : Int) ≤ 10 ∧ (Builtin.Int.intBits ((10 : Int) ^ (60 : Int).toNat) : Int) * 10 ≤ 2 ^ 27 := by decide +kernel
theorem n600 : ((10 : Int) ^ (60 : Int).toNat) ^ (10 : Int).toNat ≠ 0 := by decide +kernel
theorem mulR {i j : Int} (h : -(2 ^ 64) < j ∧ j < 2 ^ 64) : CMul i j := .inr h
theorem mulL {i j : Int} (h : -(2 ^ 64) < i ∧ i < 2 ^ 64) : CMul i j := .inl h
theorem same_new {H : Hp} {p : Addr} {o : HO} (h : H p = none) : Same H (upd H p o) := fun b x e => by
  rw [upd_ne (ne_of_none e h)]
  exact e
theorem lenOk (n : Nat) {xs : List V} (e : xs.length = n := by rfl) (h : n < 1000000 := by decide) : xs.length ≤ sizeLine := by
  rw [e]
  exact Nat.le_of_lt (small h)
theorem ok_dice {f : Addr} {fd : FuncData} (F : Fun K "_law_dice" "_law_dice" s__law_dice f fd) (T : Txt mg) : FnOk P w K mg base CX0 1 f fd ["script", "spot"] (spDice K) := by
  refine F.ok sc__law_dice (fun vs H Q E h => ?_) (fun cdv A outer s H vs Q E hr h => ?_)
  · obtain ⟨a, ns, k, rfl, _⟩ := h
    rfl
  · obtain ⟨a, ns, k, rfl, hS, q⟩ := h
    refine ⟨_, (pss_cons (ps_set (i := 2) sc__law_dice.nd rfl (.inl rfl) (pe_op op_add (pe_op op_mul pe_int (pv 1)) pe_int))
  (pss_cons (ps_if (pt_cmpR op_lt (pv 1) (pe_callB (lenQ (K := K) rfl) (by rfl) T.len_ (by decide +kernel) (pa_cons (pv 0) pa_nil)) (nomark _))
  (pss_one (ps_set (i := 2) sc__law_dice.nd rfl (.inl rfl) (pe_ix (ixL (K := K) rfl) (pv 0) (pv 1) (fun _ _ => rfl))))
  pss_nil)
  (pss_cons (ps_set (i := 3) sc__law_dice.nd rfl (.inl rfl) (pe_op op_modN (pe_callTy call_int1 (by rfl) T.int_ (by decide +kernel) (pa_cons (pe_callB call_abs (by rfl) T.abs_ (by decide +kernel) (pa_cons (pv 2) pa_nil)) pa_nil)) (pe_op op_powB (pe_op op_pow pe_int pe_int) pe_int)))
  (pss_cons (ps_set (i := 4) sc__law_dice.nd rfl (.inl rfl) (pe_op op_add (pe_op op_add (pe_op op_add (pe_op op_mul (pe_op op_modN (pe_callTy call_int1 (by rfl) T.int_ (by decide +kernel) (pa_cons (pv 3) pa_nil)) pe_int) pe_int) (pe_op op_mul pe_int (pv 1))) (pe_op op_mul pe_int (pe_callTy call_int1 (by rfl) T.int_ (by decide +kernel) (pa_cons (pe_cmpR op_lt (pv 2) pe_int (nomark _)) pa_nil)))) pe_int))
  (pss_one (ps_ret (pe_lst (pa_cons (pe_callB (call_max2 (by rfl)) (by rfl) T.max_ (by decide +kernel) (pa_cons pe_int (pa_cons (pe_op op_sub (pv 3) (pe_op op_pow pe_int pe_int)) pa_nil))) (pa_cons (pe_op op_modN (pe_callTy call_int1 (by rfl) T.int_ (by decide +kernel) (pa_cons (pv 4) pa_nil)) pe_int) (pa_cons pe_int pa_nil)))))))))), ?_⟩
    refine ⟨_, rfl, _, _, rfl, rfl, mulL (by decide), _, _, rfl, rfl, ?_⟩
    refine ⟨_, rfl, _, rfl, .inl ⟨a, _, rfl, .inl hS, _, _, rfl, rfl, _, rfl, ite2 (fun hk => ?A) (fun _ => ?B)⟩⟩
    case' A =>
      have hk : (k : Int) < ((ns.map V.int).length : Int) := of_decide_eq_true hk
      have hk' : k < ns.length := by rw [List.length_map] at hk; omega
      refine ⟨_, rfl, _, rfl, a, _, k, .int ns[k], rfl, rfl, hS, atI_nat (by rw [List.getElem?_map, List.getElem?_eq_getElem hk']; rfl), ?_⟩
    all_goals
      refine ⟨_, rfl, _, rfl, .inl ⟨_, rfl, _, _, rfl, rfl, p60, _, _, rfl, rfl, p600, _, _, rfl, rfl, n600, ?_⟩⟩
      refine ⟨_, rfl, .inl ⟨_, rfl, _, _, rfl, rfl, m3N, _, _, rfl, rfl, mulR (by decide), _, rfl, _, _, rfl, rfl, mulL (by decide), _, _, rfl, rfl, _, rfl, _, _, rfl, rfl, .inr ⟨_, rfl, _, _, rfl, rfl, mulL (by decide), _, _, rfl, rfl, _, _, rfl, rfl, ?_⟩⟩⟩
      refine ⟨_, rfl, _, _, rfl, rfl, p18, _, _, rfl, rfl, _, _, rfl, _, rfl, .inl ⟨_, rfl, _, _, rfl, rfl, m3N, lenOk 3, fun l nl => ?_⟩⟩
      exact q l _ (same_new nl) nl ⟨_, _, _, upd_same⟩
end
end Eh
set_option Elab.async false
set_option linter.all false
set_option maxRecDepth 100000
namespace Eh
open PySem PySem.SeqAt
theorem dictNoStr (l : Addr) (dd : Option Addr) (es : Array DictEntry) (n : Nat) (sl : Array (Option Value)) (b : Str) (u : Tok) :
    Meets (Builtin.«dict.__eq__» ⟨[.ref l, .str b u], []⟩) (fun _ R s => s.heap.get? l = some { cls := .type "dict", dict := dd, data := .dict es n, slots := sl } ∧ R (.ok (.ret .notImplemented)) s) :=
  .of_wp fun prog w A R s h => by
    obtain ⟨hp, g, d, tk, os⟩ := s
    obtain ⟨hl, h⟩ := h
    have f1 := PySem.F.sub_str_dict
    wp_walk using wpAny_loadPart' hl
    exact ⟨_, rfl, h⟩
theorem strNoDict (l : Addr) (dd : Option Addr) (es : Array DictEntry) (n : Nat) (sl : Array (Option Value)) (b : Str) (u : Tok) :
    Meets (Builtin.«str.__eq__» ⟨[.str b u, .ref l], []⟩) (fun _ R s => s.heap.get? l = some { cls := .type "dict", dict := dd, data := .dict es n, slots := sl } ∧ R (.ok (.ret .notImplemented)) s) :=
  .of_wp fun prog w A R s h => by
    obtain ⟨hp, g, d, tk, os⟩ := s
    obtain ⟨hl, h⟩ := h
    wp_walk using wpAny_loadPart' hl, wpAny_load hl
    exact ⟨_, rfl, h⟩
section
variable {A : Around} {s : Shared}
theorem rcStrDict {l : Addr} {dd : Option Addr} {es : Array DictEntry} {n : Nat} {sl : Array (Option Value)} (b : Str) (u : Tok) (ho : s.heap.get? l = some { cls := .type "dict", dict := dd, data := .dict es n, slots := sl }) (hu : A.units < cLine) :
    RcAt A s (.str b u) (.ref l) false := fun prog w E Q h =>
  rc_eq_decline_or (k := false) (typeIs_str s b u) ⟨_, ho, rfl⟩ (by decide) PySem.F.sub_dict_str PySem.F.slot_str_eq PySem.F.slot_dict_eq_refl
    (fun _ hq => call_meets PySem.F.slot_str_eq (typeIs_str s b u) PySem.F.entry_str_eq (PySem.F.args_str_eq_2 _ _) (strNoDict l dd es n sl b u) ⟨ho, hq⟩)
    (fun _ hq => call_meets PySem.F.slot_dict_eq_refl ⟨_, ho, rfl⟩ PySem.F.entry_dict_eq (PySem.F.args_dict_eq_2 _ _) (dictNoStr l dd es n sl b u) ⟨ho, hq⟩)
    (fun _ hq => wpAny_of_eq (rfl : isSame (.str b u) (.ref l) = pure false) hq) (.inr hu) h
theorem eqStrDict {l : Addr} {dd : Option Addr} {es : Array DictEntry} {n : Nat} {sl : Array (Option Value)} (b : Str) (u : Tok) (ho : s.heap.get? l = some { cls := .type "dict", dict := dd, data := .dict es n, slots := sl }) (hu : A.units < cLine) :
    EqAt A s (.str b u) (.ref l) false := fun prog w E Q h => by
  unfold eqBool
  exact wpAny_holding (wpAny_ite_split (fun z => absurd (eq_of_beq z) nofun) fun _ => wpAny_bind (rcStrDict b u ho hu prog w E _ (wpAny_truthy_bool h)))
end
end Eh
namespace Eh
open PySem PySem.Spec PyProof.Rows L2
/-- what may stand on the left of `in` here: flat, or a list, a tuple, a dict -/
def Sorted5 (H : Hp) (x : V) : Prop := flatV x = true ∨ ∃ a, x = .ref a ∧ ((∃ xs, H a = some (.tup xs)) ∨ (∃ xs, H a = some (.lst xs)) ∨ ∃ kvs, H a = some (.dK kvs))
def rInS (K : PySem.W.Frag) : R2 := fun x y H Q => ∃ (p : Addr) (ws : List Str), y = .ref p ∧ SqT K H p (ws.map V.str) ∧ Sorted5 H x ∧ Q (.bl (inV x (ws.map V.str))) H
theorem flat_strs (ws : List Str) : (ws.map V.str).all flatV = true := by
  rw [List.all_eq_true]
  intro x hx
  obtain ⟨z, _, rfl⟩ := List.mem_map.mp hx
  rfl
theorem strs_only : ∀ {ws : List Str} {us : List Value}, Vals (ws.map V.str) us → ∀ u ∈ us, ∃ z t, u = .str z t
  | [], _, .nil, _, h => by cases h
  | z :: ws, _, .cons r t, u, h => by
    rcases List.mem_cons.mp h with rfl | h
    · obtain ⟨t, e⟩ := r
      exact ⟨z, t, e⟩
    · exact strs_only t u h
theorem inV_ref {a : Addr} (ws : List Str) : inV (.ref a) (ws.map V.str) = false := by
  unfold inV
  rw [List.any_map, List.any_eq_false]
  intro z _
  exact fun h => by cases h
theorem inS {X : Cx} {K : PySem.W.Frag} (hK : X.K = K) (hu : X.A.units + 1 < cLine) : OpR X (compareOp .In) (rInS K) := by
  subst hK
  intro pins s σ H x y v u Q I rx ry h
  obtain ⟨p, ws, rfl, hq, so, q⟩ := h
  rcases so with fl | ⟨a, rfl, so⟩
  · exact op_in_seq pins s σ H x (.ref p) v u Q I rx ry ⟨p, _, rfl, .inr hq, fl, flat_strs ws, q⟩
  · cases rx
    cases ry
    rw [inV_ref] at q
    obtain ⟨its, r, pl, hz⟩ := I.tuple hq
    have e0 : its.toArray.any (fun _ => false) = false := by simp
    refine SeqAt.in_tupleAt (fun _ => false) pl (fun w hw => ?_) ⟨.bl _, H, I, rfl, by rw [e0]; exact q⟩
    obtain ⟨z, t, rfl⟩ := strs_only r w (by simpa using hw)
    have hu1 : X.A.in1.units < cLine := hu
    rcases so with ⟨xs, h⟩ | ⟨xs, h⟩ | ⟨kvs, h⟩
    · obtain ⟨i2, r2, p2, _⟩ := I.tuple (SqT.of h)
      exact SeqAt.EqAt.str_tuple z t p2 hu1
    · obtain ⟨i2, r2, p2, _⟩ := I.list (SqL.of h)
      exact SeqAt.EqAt.str_list z t p2.isList hu1
    · obtain ⟨_, _, _, _, o, es, ep, h1, h2, h3, _⟩ := (show ObjOk X.prog X.w H s.heap a (.dK kvs) from I.hok a _ h)
      obtain ⟨oc, od, dt, sl⟩ := o
      have e1 : oc = .type "dict" := h2.1
      simp only at h3
      subst e1 h3
      exact eqStrDict z t h1 hu1
end Eh
set_option Elab.async false
set_option linter.all false
set_option maxRecDepth 100000
namespace Eh
open PySem PySem.Spec PyProof.Rows L2
theorem exmSelf {K : PySem.W.Frag} {C : Addr} (b : PySem.W.subIn K (.ref C) (.type "BaseException") = some true) (i : PySem.W.isClsIn K C = true)
    (t : PySem.W.typeIn K (.ref C) = some (.type "type")) (s : PySem.W.subIn K (.ref C) (.ref C) = some true) : PySem.W.exmOne K (.ref C) (.ref C) = some true := by
  unfold PySem.W.exmOne
  rw [b, if_pos (by decide)]
  have j : ((PySem.W.clsIn K C).isSome && PySem.W.typeIn K (.ref C) == some (.type "type")) = true := by
    rw [show (PySem.W.clsIn K C).isSome = true from i, t]
    decide
  exact (if_pos j).trans s
end Eh
set_option Elab.async false
set_option linter.all false
set_option maxRecDepth 100000
set_option maxHeartbeats 2000000
namespace Eh
open PySem PySem.Spec PyProof.Rows L2
def txtOf (e : Int × Value) : Str := match e.2 with
  | .str x _ => x
  | _ => Str.empty
def GoodT (w : World) (e : Int × Value) : Prop := ∃ x tk, e.2 = Value.str x tk ∧ e.1 = hashStr w x
/-- the table es, t holds the texts ts -/
structure TB (w : World) (ts : List Str) (es : Array (Int × Value)) (t : SetTable) : Prop where
  good : ∀ e ∈ es.toList, GoodT w e
  perm : (es.toList.map txtOf).Perm ts
  room : es.size < scanBound
  fits : t.fits es.size = true
  ris : Ris t.place.toList
  led : w.params.followText "set-order" = true ∨ t.led = true
theorem TB.size {w : World} {ts : List Str} {es : Array (Int × Value)} {t : SetTable} (b : TB w ts es t) : es.size = ts.length := by
  rw [← b.perm.length_eq, List.length_map, Array.length_toList]
theorem TB.elems {P : Program} {w : World} {ts : List Str} {es : Array (Int × Value)} {t : SetTable} (b : TB w ts es t) : ElemsOf (strKind P w) es.toList := fun e he => by
  obtain ⟨x, tk, h1, h2⟩ := b.good e he
  refine ⟨⟨x, ?_, h2⟩, by rw [h1]; rfl⟩
  rw [h1]
  exact strKind_is P w x tk
theorem good_str {P : Program} {w : World} {e : Int × Value} (g : GoodT w e) (x : Str) : (strKind P w).is x e.2 = true ↔ txtOf e = x := by
  obtain ⟨y, tk, h1, _⟩ := g
  unfold txtOf
  rw [h1]
  constructor
  · intro h
    obtain ⟨t, ht⟩ := Value.isStrOf_shape (x := x) (v := Value.str y tk) h
    injection ht
  · intro h
    have h' : y = x := h
    rw [h']
    exact strKind_is P w x tk
theorem TB.mem {P : Program} {w : World} {ts : List Str} {es : Array (Int × Value)} {t : SetTable} (b : TB w ts es t) (x : Str) : x ∈ ts ↔ ∃ e ∈ es.toList, (strKind P w).is x e.2 = true := by
  rw [← b.perm.mem_iff, List.mem_map]
  exact ⟨fun ⟨e, he, q⟩ => ⟨e, he, (good_str (b.good e he) x).2 q⟩, fun ⟨e, he, q⟩ => ⟨e, he, (good_str (P := P) (b.good e he) x).1 q⟩⟩
theorem TB.relay {w : World} {ts : List Str} {es : Array (Int × Value)} {t : SetTable} (b : TB w ts es t) (n : Nat) : TB w ts (relayAll t es n).1 (relayAll t es n).2.1 := by
  have pm := relayAll_perm t es n
  have sz : (relayAll t es n).1.size = es.size := by rw [← Array.length_toList, pm.length_eq, Array.length_toList]
  exact ⟨fun e he => b.good e (pm.mem_iff.mp he), (pm.map txtOf).trans b.perm, by rw [sz]; exact b.room, relayAll_fits t es n, relayAll_ris t es n, b.led.imp id fun z => by rw [relayAll_led]; exact z⟩
theorem TB.lay {P : Program} {w : World} {ts : List Str} {es : Array (Int × Value)} {t : SetTable} (b : TB w ts es t) (x : Str) (tk : Tok) (hr : ts.length + 1 < scanBound) :
    TB w (x :: ts) (layNew t es ((strKind P w).hash x) (.str x tk)).1 (layNew t es ((strKind P w).hash x) (.str x tk)).2.1 := by
  have pm := layNew_perm t es ((strKind P w).hash x) (.str x tk)
  rw [Array.toList_push] at pm
  have pc := pm.trans (List.perm_append_singleton _ _)
  refine ⟨fun e he => ?_, (pc.map txtOf).trans (b.perm.cons x), ?_, layNew_fits t es _ _, layNew_ris t es _ _ b.ris, b.led.imp id fun z => by rw [layNew_led]; exact z⟩
  · rcases List.mem_cons.mp (pc.mem_iff.mp he) with z | z
    · exact ⟨x, tk, by rw [z], by rw [z]; rfl⟩
    · exact b.good e z
  · rw [← Array.length_toList, pc.length_eq, List.length_cons, Array.length_toList, b.size]
    exact hr
/-- the set of the texts ts stands at a -/
def SetT (w : World) (h : Heap) (a : Addr) (ts : List Str) : Prop := ts.Nodup ∧ ∃ o es ep t, h.get? a = some o ∧ o.ExactSet ∧ o.data = .set es ep t ∧ TB w ts es t
section
variable {P : Program} {w : World} {A : Around} {E : Value → Shared → Prop} {s : Shared} {a : Addr} {ts : List Str}
theorem setT_stored {o : Obj} {es es1 : Array (Int × Value)} {ep : Nat} {t t1 : SetTable} {R : Unit → Shared → Prop} (ho : s.heap.get? a = some o) (hx : o.ExactSet) (hd : o.data = .set es ep t) (b : TB w ts es1 t1) (nd : ts.Nodup)
    (k : ∀ h' o' ep', Heap.SameBut a s.heap h' → h'.get? a = some o' → o'.ExactSet → o'.data = .set es1 ep' t1 → R () { s with heap := h' }) : wpAny (model P w) A (storeSet a es1 t1) R E s :=
  wpAny_storeSet_of ho hd (k _ _ _ (Heap.SameBut.update s.heap a (Obj.putSet es1 t1)) (store_at (es' := es1) (t' := t1) ho hd) hx rfl) (fits_of_scanBound b.room)
end
end Eh
set_option Elab.async false
set_option linter.all false
set_option maxRecDepth 100000
set_option maxHeartbeats 2000000
namespace Eh
open PySem PySem.Spec PyProof.Rows L2
section
variable {P : Program} {w : World} {A : Around} {E : Value → Shared → Prop} {s : Shared} {a : Addr} {ts : List Str}
/-- the end of an add: the new table stored, perhaps laid again -/
theorem setT_tail {g : Bool → Sem Unit} (hg : ∀ (b : Bool) (s₁ : Shared) (Q' : Unit → Shared → Prop), Q' () s₁ → wpAny (model P w) A (g b) Q' E s₁)
    {o : Obj} {es es1 : Array (Int × Value)} {ep : Nat} {t t1 : SetTable} {R : Option Bool → Shared → Prop} {wd : Bool} (ho : s.heap.get? a = some o) (hx : o.ExactSet) (hd : o.data = .set es ep t) (b : TB w ts es1 t1) (nd : ts.Nodup)
    (k : ∀ h', Heap.SameBut a s.heap h' → SetT w h' a ts → R (some true) { s with heap := h' }) :
    wpAny (model P w) A (do
        storeSet a es1 t1
        if (!wd && t1.tooFull) = true then do
            g (relayAll t1 es1 (SetTable.grown es1.size)).2.2
            storeSet a (relayAll t1 es1 (SetTable.grown es1.size)).1 (relayAll t1 es1 (SetTable.grown es1.size)).2.1
            pure (some true)
          else pure (some true)) R E s := by
  refine wpAny_bind (setT_stored ho hx hd b nd fun h1 o1 ep1 sb1 g1 x1 d1 => ?_)
  split
  · refine wpAny_bind (hg _ _ _ ?_)
    refine wpAny_bind (setT_stored (s := { s with heap := h1 }) g1 x1 d1 (b.relay _) nd fun h2 o2 ep2 sb2 g2 x2 d2 => ?_)
    exact wpAny_pure (k h2 (sb1.trans sb2) ⟨nd, o2, _, ep2, _, g2, x2, d2, b.relay _⟩)
  · exact wpAny_pure (k h1 sb1 ⟨nd, o1, es1, ep1, t1, g1, x1, d1, b⟩)
/-- the text x put in -/
def put (x : Str) (ts : List Str) : List Str := if x ∈ ts then ts else x :: ts
theorem setT_hashed {x : Str} {tk : Tok} {Q : Bool → Shared → Prop} (R : SetT w s.heap a ts) (room : ts.length + 1 < scanBound) (k : ∀ r h', Heap.SameBut a s.heap h' → SetT w h' a (put x ts) → Q r { s with heap := h' }) :
    wpAny (model P w) A (setAddHashed a (.str x tk) ((strKind P w).hash x)) Q E s := by
  obtain ⟨nd, o, es, ep, t, ho, hx, hd, b⟩ := R
  have hkey := strKind_is P w x tk
  have hsc : (Value.str x tk).scannable = true := rfl
  unfold setAddHashed setAddHashedIn
  refine wpAny_holding (wpAny_bind (wpAny_setState_of ho hd b.fits ?_))
  dsimp only
  rw [byScan_of hsc b.room (b.elems (P := P))]
  simp only [↓reduceIte]
  unfold setAddByScan
  refine wpAny_bind (wpAny_bind (wpAny_rule (wpAny_bind (wpAny_setScan_of hkey ho hd b.fits (b.elems (P := P)) ?_))))
  cases hf : List.findIdx? (fun e => (strKind P w).is x e.2) es.toList with
  | some j =>
    dsimp only
    obtain ⟨hj, pj, _⟩ := List.findIdx?_eq_some_iff_getElem.mp hf
    have hm : x ∈ ts := (b.mem (P := P) x).2 ⟨es.toList[j], List.getElem_mem hj, pj⟩
    have e : put x ts = ts := if_pos hm
    refine wpAny_pure (wpAny_pure (k _ s.heap (Heap.SameBut.refl a s.heap) ?_))
    rw [e]
    exact ⟨nd, o, es, ep, t, ho, hx, hd, b⟩
  | none =>
    dsimp only
    have hm : x ∉ ts := fun z => by
      obtain ⟨e, he, q⟩ := (b.mem (P := P) x).1 z
      have c := List.findIdx?_eq_none_iff.mp hf e he
      rw [q] at c
      cases c
    have e : put x ts = x :: ts := if_neg hm
    have nd1 : (x :: ts).Nodup := List.nodup_cons.mpr ⟨hm, nd⟩
    have b1 := b.lay (P := P) x tk room
    have fin : ∀ r h', Heap.SameBut a s.heap h' → SetT w h' a (x :: ts) → Q r { s with heap := h' } := fun r h' sb z => k r h' sb (by rw [e]; exact z)
    have gave : ∀ (c : Bool) {s₁ : Shared} {Q' : Unit → Shared → Prop}, Q' () s₁ → wpAny (model P w) A (match c with | true => rule "set.scan.the-table-gave-way" | false => pure ()) Q' E s₁ :=
      fun c s₁ Q' q => match c with
        | true => wpAny_rule q
        | false => wpAny_pure q
    generalize layNew t es ((strKind P w).hash x) (.str x tk) = Z at b1 ⊢
    obtain ⟨es1, t1, wd, gv⟩ := Z
    dsimp only at b1 ⊢
    refine wpAny_bind (gave _ ?_)
    split
    · refine wpAny_bind ?_
      rw [hashByValue_scannable 8 hsc]
      refine wpAny_pure ?_
      refine setT_tail (fun c s₁ Q' q => by cases c <;> first | exact wpAny_pure q | exact wpAny_rule q) ho hx hd (ts := x :: ts) ?_ nd1 fun h' sb z => ?_
      · refine ⟨b1.good, b1.perm, b1.room, ?_, ?_, ?_⟩
        · have := b1.fits
          first | (split <;> first | exact this | exact SetTable.fits_plain_off this) | exact this
        · have := b1.ris
          first | (split <;> exact this) | exact this
        · have := b1.led
          first | (split <;> exact this) | exact this
      · dsimp only
        exact wpAny_pure (fin _ h' sb z)
    · refine wpAny_bind (wpAny_pure ?_)
      simp only [↓reduceIte]
      refine setT_tail (fun c s₁ Q' q => by cases c <;> first | exact wpAny_pure q | exact wpAny_rule q) ho hx hd b1 nd1 fun h' sb z => ?_
      dsimp only
      exact wpAny_pure (fin _ h' sb z)
theorem SetT.typeIs (R : SetT w s.heap a ts) : s.TypeIs (.ref a) "set" := by
  obtain ⟨_, o, es, ep, t, ho, hx, _⟩ := R
  exact ⟨o, ho, hx.1⟩
/-- found.add(x) -/
theorem setT_add {x : Str} {tk : Tok} {Q : Value → Shared → Prop} (R : SetT w s.heap a ts) (room : ts.length + 1 < scanBound)
    (k : ∀ h', Heap.SameBut a s.heap h' → SetT w h' a (put x ts) → Q .none { s with heap := h', toks := s.toks + 1 }) : wpAny (model P w) A (call (.builtin "set.add") [.ref a, .str x tk]) Q E s := by
  refine wpAny_call_entry PySem.F.slot_set_add R.typeIs PySem.F.entry_set_add ?_ (PySem.F.args_set_add_2 _ _)
  unfold Builtin.«set.add» Builtin.Frozenset.oneOther
  simp only [List.isEmpty_nil, bind_assoc]
  unfold Builtin.Frozenset.addrOf setAdd
  refine wpAny_bind (wpAny_pure ?_)
  try dsimp only
  refine wpAny_bind (wpAny_pure ?_)
  try dsimp only
  refine wpAny_bind (wpAny_holding (wpAny_bind ((strKind P w).pyHash (strKind_is P w x tk) (setT_hashed (s := { s with toks := s.toks + 1 }) R room fun r h' sb z => ?_))))
  show wpAny _ _ (ret Value.none) _ _ _
  exact wpAny_pure ⟨_, rfl, k h' sb z⟩
end
end Eh
set_option Elab.async false
set_option linter.all false
set_option maxRecDepth 100000
set_option maxHeartbeats 4000000
namespace Eh
open PySem PySem.Spec PyProof.Rows L2
/-- the set of the texts ts, at a -/
def SetX (w : World) (a : Addr) (ts : List Str) : HO := .ext fun h => SetT w h a ts
theorem SetT.at {w : World} {h h' : Heap} {a : Addr} {ts : List Str} (R : SetT w h a ts) (k : ∀ o, h.get? a = some o → h'.get? a = some o) : SetT w h' a ts := by
  obtain ⟨nd, o, es, ep, t, ho, r⟩ := R
  exact ⟨nd, o, es, ep, t, k o ho, r⟩
theorem setX_ok {w : World} {P : Program} {H : Hp} {h : Heap} {a : Addr} {ts : List Str} (R : SetT w h a ts) : ObjOk P w H h a (SetX w a ts) := by
  obtain ⟨nd, o, es, ep, t, ho, r⟩ := id R
  exact ⟨R, ⟨o, ho⟩, fun _ _ p k => p.at k⟩
section
variable {X : Cx} {pins : List (Addr × Obj)} {σ : L2.St} {H : Hp} {s : Shared} {a : Addr} {ts : List Str}
theorem setX_get (I : Inv X pins σ H s) (ha : H a = some (SetX X.w a ts)) : SetT X.w s.heap a ts := (I.hok a _ ha).1
theorem setT_empty (w : World) (h : Heap) : SetT w (h.push { cls := .type "set", dict := none, data := .set #[] 0 (.fresh 0 0 (!w.params.followText "set-order")) }) h.objs.size [] := by
  refine ⟨List.nodup_nil, _, #[], 0, _, Heap.get?_push_size _ rfl, ⟨rfl, rfl, rfl⟩, rfl, fun e he => by simp at he, List.Perm.refl _, by decide, rfl, List.Pairwise.nil, ?_⟩
  cases hq : w.params.followText "set-order" with
  | true => exact .inl rfl
  | false => exact .inr rfl
/-- set.add of a tracked set -/
theorem add_run {z : Str} {v : Value} {Q : Value → Shared → Prop} {E : Value → Shared → Prop} (I : Inv X pins σ H s) (ha : H a = some (SetX X.w a ts)) (hz : ts.length < 1000) (r : RelV (.str z) v)
    (k : ∀ s', Inv X pins σ (upd H a (SetX X.w a (put z ts))) s' → Q .none s') : wpAny (model X.prog X.w) X.A (call (.builtin "set.add") [.ref a, v]) Q E s := by
  obtain ⟨t, rfl⟩ := r
  refine setT_add (setX_get I ha) (Nat.lt_trans (by omega : ts.length + 1 < 1002) (by decide)) fun h' sb R => k _ ?_
  obtain ⟨_, o, _, _, _, ho, _⟩ := id R
  exact I.write (e := a) (t' := s.toks + 1) (by rw [ha]; trivial) (.inl rfl) (fun b u hb hu => (sb.2 b hb).trans hu) ⟨o, ho⟩ (setX_ok R)
end
/-- {e for target in iter if ..}, the elements texts: D the new set -/
def tSc (w : World) (wi : TI) (g : TG) (tt : TT) (te : TE) (vs : List Nat) : TE := fun σ H Q => wi σ H fun J H1 => ∀ D, H1 D = none → ∃ W : Nat → Nat → Hp → Prop, (∃ m, W 0 m (upd H1 D (SetX w D []))) ∧ ∀ i m H, W i m H →
  (J.stop i H ∧ Q (.ref D) H) ∨ (J.go i H ∧ ∃ Nx : Hp → Prop, (∀ H', Nx H' → ∃ m', m' < m ∧ W (i + 1) m' H') ∧ ∀ x H', J.yld i H x H' → g x (wipe σ vs) H' fun σ2 H2 => wipe σ2 vs = wipe σ vs ∧ tt σ2 H2 fun b H3 =>
    if b = true then te σ2 H3 fun y H4 => ∃ ts z, y = .str z ∧ H4 D = some (SetX w D ts) ∧ ts.length < 1000 ∧ Nx (upd H4 D (SetX w D (put z ts))) else Nx H3)
section
variable {X : Cx} {elt tg iter : Expr} {ifs : List Expr} {scope : Scope} {own : List (Str × Nat)} {pos : Pos} {wi : TI} {g : TG} {tt : TT} {te : TE}
theorem pe_sc (hc : X.calm = true) (hN : X.N.Nodup) (hi : PI X tg iter wi) (ok : BlkOk X.N X.env.scope scope own)
    (hg : ∀ (s : Shared) (H : Hp) (C : Addr) (cl : List (Str × Addr)) (fp : List Addr), PG (X.blk s H scope (compEnvC scope cl C X.env) fp) tg g)
    (ht : ∀ (s : Shared) (H : Hp) (C : Addr) (cl : List (Str × Addr)) (fp : List Addr), PTs (X.blk s H scope (compEnvC scope cl C X.env) fp) ifs tt)
    (he : ∀ (s : Shared) (H : Hp) (C : Addr) (cl : List (Str × Addr)) (fp : List Addr), PE (X.blk s H scope (compEnvC scope cl C X.env) fp) elt te)
    (hs : ∀ x, foldedSetIterable iter X.env x = pure x := by intro _; rfl) :
    PE X (.SetComp elt [⟨tg, iter, ifs, 0⟩] scope pos) (tSc X.w wi g tt te (own.map (·.2))) where
  run pins s σ H Q I h := by
    rw [arm_eval_SetComp]
    have cells : ∀ y ∈ scope.names, y.2 = .free → ∃ c, X.env.cells.lookup y.1 = some c := fun y hy e => (ok.free y hy e).elim (fun k => I.ok.has _ (.inl k)) fun k => I.ok.has _ (.inr k)
    refine wpAny_comprehension_free (use := none) rfl hs (closure_ok cells) ok.kind (fun y hy e => by rw [ok.uniq y hy, e]) (thn (hi.run pins s σ H _ I h) fun xv s1 hx => thn hx fun itv s2 h2 => ?_)
    obtain ⟨it, fp, tn, J, H2, rfl, I2, T, st2, f2, q⟩ := h2
    refine wpAny_newSet_raw fun led hled => newEnv_comp ?_
    subst hled
    obtain ⟨D, hD⟩ : ∃ D, D = s2.heap.objs.size := ⟨_, rfl⟩
    obtain ⟨W, ⟨m0, w0⟩, turn⟩ := q D (I2.hok.fresh (Nat.le_of_eq hD.symm))
    obtain ⟨h3, e3⟩ : ∃ h3, h3 = s2.heap.push { cls := .type "set", dict := none, data := .set #[] 0 (.fresh 0 0 (!X.w.params.followText "set-order")) } := ⟨_, rfl⟩
    have new : SetT X.w h3 D [] := by
      rw [e3, hD]
      exact setT_empty X.w s2.heap
    have I3 : Inv X pins σ (upd H2 D (SetX X.w D [])) { s2 with heap := h3 } := I2.laid (t' := s2.toks) (fun b o e => by rw [e3]; exact Heap.get?_push_of_some _ e) (Nat.le_of_eq hD.symm) (setX_ok new)
    have f3 : ∀ b ∈ fp, FpOk X pins (upd H2 D (SetX X.w D [])) b ∧ b < h3.objs.size := fun b hb => by
      obtain ⟨o, e, _⟩ := T.obj _ _ st2 b hb
      have lt := Heap.lt_size e
      refine ⟨⟨(upd_ne (by rw [hD]; exact Nat.ne_of_lt lt)).trans (f2 b hb).1, (f2 b hb).2⟩, ?_⟩
      rw [e3, Heap.size_push]
      exact Nat.lt_succ_of_lt lt
    have st3 : tn 0 h3 := T.keep _ _ _ st2 fun b _ o e => by rw [e3]; exact Heap.get?_push_of_some _ e
    show codeAny _ _ (.compStart _ 0 (.ref it) (.ref s2.heap.objs.size) _) (compPost _ _ _ _ _ (.ref s2.heap.objs.size) _) _
    rw [← hD, ← e3]
    show codeAny _ _ (.compStart _ 0 (.ref it) (.ref D) (compEnvC scope (cellsFrom (h3.objs.size + 1) scope.names (cloFrom X.env.cells scope.names [])) h3.objs.size X.env))
      (compPost _ _ _ _ _ (.ref D) h3.objs.size) { s2 with heap := pushCells (h3.push { cls := .type "dict", data := .dict #[] }) scope.names }
    have I4 := block_start I3 ok hN f3
    have pg := hg { s2 with heap := h3 } (upd H2 D (SetX X.w D [])) h3.objs.size (cellsFrom (h3.objs.size + 1) scope.names (cloFrom X.env.cells scope.names [])) fp
    have pt := ht { s2 with heap := h3 } (upd H2 D (SetX X.w D [])) h3.objs.size (cellsFrom (h3.objs.size + 1) scope.names (cloFrom X.env.cells scope.names [])) fp
    have pe := he { s2 with heap := h3 } (upd H2 D (SetX X.w D [])) h3.objs.size (cellsFrom (h3.objs.size + 1) scope.names (cloFrom X.env.cells scope.names [])) fp
    have nfp : ∀ b ∈ fp, (upd H2 D (SetX X.w D [])) b = none := fun b hb => (f3 b hb).1.1
    generalize hce : compEnvC scope (cellsFrom (h3.objs.size + 1) scope.names (cloFrom X.env.cells scope.names [])) h3.objs.size X.env = ce at I4 pg pt pe ⊢
    have cL : ce.locals = h3.objs.size := by rw [← hce]; rfl
    obtain ⟨H3, hH3⟩ : ∃ H3, H3 = upd H2 D (SetX X.w D []) := ⟨_, rfl⟩
    rw [← hH3] at I3 I4 pg pt pe w0 nfp f3
    obtain ⟨S3, hS3⟩ : ∃ S3 : Shared, S3 = { s2 with heap := h3 } := ⟨_, rfl⟩
    have sz3 : S3.heap = h3 := by rw [hS3]
    rw [← hS3] at I3 pg pt pe
    replace I4 : Inv (X.blk S3 H3 scope ce fp) [] (wipe σ (own.map (·.2))) H3 { s2 with heap := pushCells (h3.push { cls := .type "dict", data := .dict #[] }) scope.names } := by
      rw [hS3]
      exact I4
    -- the places of the iterator are free in the block
    have free : ∀ {τ : L2.St} {H' : Hp} {s' : Shared}, Inv (X.blk S3 H3 scope ce fp) [] τ H' s' → (∀ b ∈ fp, H' b = none) → ∀ b ∈ fp, FpOk (X.blk S3 H3 scope ce fp) [] H' b := fun I' n b hb =>
      ⟨n b hb, (I'.ok.exf b hb).1, I'.ok.exfs b hb, .inl hb, fun x c e => (I'.ok.exf b hb).2 x c e, fun p hp => by cases hp⟩
    have st4 : tn 0 (pushCells (h3.push { cls := .type "dict", data := .dict #[] }) scope.names) := T.keep _ _ _ st3 fun b _ o e => pushCells_keeps _ _ _ _ (Heap.get?_push_of_some _ e)
    have loop : codeAny (model X.prog X.w) X.A (.compLoop (.SetComp elt [⟨tg, iter, ifs, 0⟩] scope pos) 0 (.ref it) (.ref D) ce) (compPost (model X.prog X.w) X.A X.xe none (EP X pins σ Q) (.ref D) h3.objs.size)
        { s2 with heap := pushCells (h3.push { cls := .type "dict", data := .dict #[] }) scope.names } := by
      refine compLoop_set_any (fun n s' => ∃ i H', Inv (X.blk S3 H3 scope ce fp) [] (wipe σ (own.map (·.2))) H' s' ∧ tn i s'.heap ∧ (∀ b ∈ fp, H' b = none) ∧ W i n H') ?_ m0 ⟨0, H3, I4, st4, nfp, w0⟩
      rintro n s5 ⟨i, H5, I5, st5, n5, w5⟩
      rcases turn i n H5 w5 with ⟨stop, qq⟩ | ⟨go, Nx, hNx, step⟩
      · refine thnF (T.done (X.blk S3 H3 scope ce fp) rfl rfl rfl hc i [] s5 _ H5 (fun _ _ => False) I5 (free I5 n5) st5 stop) fun r s6 ⟨hr, I6⟩ => ?_
        subst hr
        have I7 : Inv X pins σ H5 s6 := I3.call' (ch := fp) I6.os I6.base I6.hok I6.bare fun b hb => ⟨(f3 b hb).1.2.2.2.1, (f3 b hb).1.2.1, (f3 b hb).1.2.2.2.2.1, (f3 b hb).1.2.2.2.2.2⟩
        have nC : H5 h3.objs.size = none := by
          rw [← cL]
          exact I6.free
        obtain ⟨m, hn, _⟩ := I6.loc
        have hn : s6.heap.Ns ce.locals m := hn
        rw [cL] at hn
        have fp7 : FpOk X pins H5 h3.objs.size := I3.fpOk (Nat.le_of_eq (by rw [sz3])) nC
        obtain ⟨a0, a1, _, a3, a4, a5⟩ := fp7
        exact ⟨m, hn, fun h'' sb => ⟨.ref D, H5, I7.turned (t' := s6.toks) (fun b o hb e => (sb.2 b hb).trans e) a0 a1 a3 a4 a5, rfl, qq⟩⟩
      · refine thnF (T.item (X.blk S3 H3 scope ce fp) rfl rfl rfl hc i [] s5 _ H5 (fun _ _ => False) I5 (free I5 n5) st5 go) fun r s6 ⟨u, hr, h6⟩ => ?_
        subst hr
        refine thnF h6 fun _ s7 ⟨x, H7, I7, r7, y7, st7, n7⟩ => ?_
        have J7 := I7.pinned (free I7 n7) (T.obj _ _ st7)
        refine thnF (pg.run _ s7 _ H7 x u _ J7 r7 (step x H7 y7)) fun _ s8 ⟨σ8, H8, I8, hw8, q8⟩ => thnF (pt.run _ s8 σ8 H8 _ I8 q8) fun b s9 ⟨H9, I9, q9⟩ => ?_
        have back : ∀ {s' : Shared} {H' : Hp}, Inv (X.blk S3 H3 scope ce fp) ([] ++ pinsAt fp s7.heap) σ8 H' s' → Nx H' → ∃ m, m < n ∧ ∃ i H', Inv (X.blk S3 H3 scope ce fp) [] (wipe σ (own.map (·.2))) H' s' ∧ tn i s'.heap ∧ (∀ b ∈ fp, H' b = none) ∧ W i m H' := fun {s' H'} I' nx => by
          obtain ⟨m', hm, w'⟩ := hNx H' nx
          have held {b : Addr} {o : Obj} (hb : b ∈ fp) (e : s7.heap.get? b = some o) : s'.heap.get? b = some o ∧ H' b = none :=
            have z := I'.pin (b, o) (List.mem_append_right _ (List.mem_append_right _ (mem_pinsAt hb e)))
            ⟨z.1, z.2.1⟩
          refine ⟨m', hm, i + 1, H', (I'.unpinned (pins := [])).weak (by rw [← hw8, wipe_length]) (fun j v e => ?_), T.keep _ _ _ st7 fun b hb o e => (held hb e).1, fun b hb => ?_, w'⟩
          · rw [← hw8] at e
            exact (wipe_some e).1
          · obtain ⟨o, e, _⟩ := T.obj _ _ st7 b hb
            exact (held hb e).2
        cases b with
        | false =>
          simp only [Bool.false_eq_true, if_false] at q9 ⊢
          exact back I9 q9
        | true =>
          simp only [if_true] at q9 ⊢
          refine thnF (pe.run _ s9 σ8 H9 _ I9 q9) fun z s10 ⟨y, H10, I10, r10, ts, x, ey, hD10, hz10, nx⟩ => ?_
          subst ey
          exact add_run (X := X.blk S3 H3 scope ce fp) I10 hD10 hz10 r10 fun s12 I12 => back I12 nx
    exact codeAny_compStart_set loop (T.self X.A 0 _ _ _ st4 loop)
end
end Eh
set_option Elab.async false
set_option linter.all false
set_option maxRecDepth 100000
set_option maxHeartbeats 2000000
namespace Eh
open PySem PySem.Spec PyProof.Rows L2
section
variable {P : Program} {w : World} {A : Around} {E : Value → Shared → Prop} {s : Shared} {a : Addr} {ts : List Str}
theorem strs_txt : ∀ (l : List Value), (∀ v ∈ l, ∃ x tk, v = Value.str x tk) → StrsAre l (l.map fun v => txtOf (0, v))
  | [], _ => .nil
  | v :: l, h => by
    obtain ⟨x, tk, rfl⟩ := h v List.mem_cons_self
    exact .cons x tk (strs_txt l fun u hu => h u (List.mem_cons_of_mem _ hu))
theorem setT_sorted {Q : Value → Shared → Prop} (R : SetT w s.heap a ts) (hh : A.handled = none) (h64 : ts.length < 64)
    (k : ∀ s' p (out : Array Value) (c : Nat) (ys : List Str), (∀ b o, s.heap.get? b = some o → s'.heap.get? b = some o) → s'.gens = s.gens → s'.os = s.os → s.heap.objs.size ≤ p →
      s'.heap.get? p = some (seqObj "list" out c) → StrsAre out.toList ys → ys.Perm ts → sortedS ys = true → Q (.ref p) s') : wpAny (model P w) A (call (.builtin "sorted") [.ref a]) Q E s := by
  obtain ⟨nd, o, es, ep, t, ho, hx, hd, b⟩ := R
  refine Calls.call_function_entry kind_sorted plain_sorted entry_sorted (args_sorted1 _) ?_
  unfold Builtin.«sorted»
  refine wpAny_bind (m := checkCount "sorted" 1 1 _) (wpAny_pure (wpAny_bind (collect_set (A := A.in1) hh ⟨o, ho, hx.1, hd⟩ b.fits b.room b.ris b.led fun s1 vs k1 hz g1 o1 pm => ?_)))
  have hvl : vs.length = ts.length := by rw [pm.length_eq, List.length_map, Array.length_toList, b.size]
  have hS := strs_txt vs fun v hv => by
    obtain ⟨e, he, q⟩ := List.mem_map.mp (pm.mem_iff.mp hv)
    obtain ⟨x, tk, h1, _⟩ := b.good e he
    exact ⟨x, tk, by rw [← q]; exact h1⟩
  have pk : (vs.map fun v => txtOf (0, v)).Perm ts := by
    have q := pm.map fun v => txtOf (0, v)
    rw [List.map_map] at q
    exact q.trans b.perm
  refine wpAny_bind (wpAny_newList ?_ (by rw [hvl, sizeLine_eq]; omega))
  have hoL : (s1.heap.push (seqObj "list" vs.toArray 0)).get? s1.heap.objs.size = some (seqObj "list" vs.toArray 0) := Heap.get?_push_size _ rfl
  refine wpAny_bind (wpAny_holding (wpAny_call_entry slot_list_sort ⟨_, hoL, rfl⟩ entry_list_sort (list_sort_treeK strKind_oneLt hoL hS.keysOf (fun v₁ v₂ rest e => keyKind_strs (by rw [← e]; exact hS)) (by rw [hvl]; exact h64) fun st' hp hs => ⟨_, rfl, ?_⟩) (args_list_sort _)))
  obtain ⟨ys, y1, y2, y3⟩ := sorted_out_str hS hp hs
  obtain ⟨c, hc⟩ := sortedHeap_at (vs := vs) (out := (arrOf st').map (·.2)) hoL
  refine wpAny_pure ⟨_, rfl, k _ s1.heap.objs.size _ c ys (fun d u e => ?_) g1 o1 hz hc y1 (y2.trans pk) y3⟩
  have q := k1 d u e
  have hlt := Heap.lt_size q
  show (sortedHeap (s1.heap.push (seqObj "list" vs.toArray 0)) s1.heap.objs.size vs _).get? d = some u
  rw [sortedHeap_old (Nat.ne_of_lt hlt) (by rw [size_push']; exact Nat.lt_succ_of_lt hlt)]
  exact Heap.get?_push_of_some _ q
end
section
variable {X : Cx}
def rSortX (w : World) : List V → Hp → VK → Prop := fun vs H Q => ∃ (a : Addr) (ts : List Str), vs = [.ref a] ∧ H a = some (SetX w a ts) ∧ ts.Nodup ∧ ts.length < 64 ∧ ∀ (ys : List Str) p, ys.Perm ts → sortedS ys = true → H p = none → Q (.ref p) (upd H p (.lst (ys.map V.str)))
theorem sortX (hc : X.calm = true) : CallR X (.builtin "sorted") (rSortX X.w) := by
  intro pins s σ H vs us Q I r h
  obtain ⟨a, ts, rfl, ha, nd, h64, q⟩ := h
  rw [Vals.ref1 r]
  refine setT_sorted (setX_get I ha) (I.ok.hd hc) h64 fun s' p out c ys k g o hp hg hs h1 h2 => ?_
  have hlen : (ys.map V.str).length ≤ sizeLine := by rw [List.length_map, h1.length_eq, sizeLine_eq]; omega
  have hn : H p = none := I.hok.fresh hp
  obtain ⟨h', g', d', t', o'⟩ := s'
  obtain rfl : o' = s.os := o
  have J : Inv X pins σ (upd H p (.lst (ys.map V.str))) { s with heap := h', gens := g', drawn := d', toks := t' } :=
    I.call (ch := []) (Un.laid k hp hn) (I.hok.laid k hp ⟨hlen, out.toList, c, vals_of_strs hs, hg⟩) (by rw [show g' = s.gens from g]; exact I.bare) (fun _ z => nomatch z)
  exact ⟨.ref p, _, J, rfl, q ys p h1 h2 hn⟩
end
section
variable {te : TE} {tt : TT} {g : TG} {σ : L2.St} {H1 : Hp} {D : Addr} {Qd : Hp → Prop} {vs : List Nat} {K : PySem.W.Frag} {a : Addr} {xs : List V}
theorem lcTg (R : Nat → List V → Hp → Prop) (h0 : R 0 [] (upd H1 D (.lst []))) (hl : ∀ j acc H, R j acc H → SqT K H a xs)
    (hs : ∀ j x acc H, xs[j]? = some x → acc.length ≤ j → H D = some (.lst acc) → R j acc H →
      g x (wipe σ vs) H fun σ2 H2 => wipe σ2 vs = wipe σ vs ∧ tt σ2 H2 fun b H3 => if b = true then te σ2 H3 (LcK R D j) else LcP R D (j + 1) H3)
    (hd : ∀ acc H, acc.length ≤ xs.length → H D = some (.lst acc) → R xs.length acc H → Qd H) : LcGoal (Itt K a) g tt te vs σ H1 D Qd := by
  refine ⟨fun j m H => m = xs.length - j ∧ j ≤ xs.length ∧ LcP R D j H, ⟨xs.length, by omega, Nat.zero_le _, [], Nat.le_refl _, upd_same, h0⟩, ?_⟩
  rintro j m H ⟨rfl, hj, acc, hlen, e, r⟩
  have q := hl _ _ _ r
  by_cases hlt : j < xs.length
  · refine .inr ⟨⟨xs, xs[j], q, List.getElem?_eq_getElem hlt⟩, LcP R D (j + 1), fun H' p => ⟨xs.length - (j + 1), by omega, rfl, hlt, p⟩, fun x H' y => ?_⟩
    obtain ⟨rfl, y⟩ := y
    exact hs j x acc _ (y xs q) hlen e r
  · have ej : j = xs.length := by omega
    subst ej
    exact .inl ⟨⟨xs, q, Nat.le_refl _⟩, hd acc H hlen e r⟩
def ScP (w : World) (R : Nat → List Str → Hp → Prop) (D : Addr) (j : Nat) (H : Hp) : Prop := ∃ ts, ts.length ≤ j ∧ H D = some (SetX w D ts) ∧ R j ts H
def ScK (w : World) (R : Nat → List Str → Hp → Prop) (D : Addr) (j : Nat) : VK := fun y H4 => ∃ ts z, y = .str z ∧ H4 D = some (SetX w D ts) ∧ ts.length < 1000 ∧ ScP w R D (j + 1) (upd H4 D (SetX w D (put z ts)))
theorem put_len (z : Str) (ts : List Str) : (put z ts).length ≤ ts.length + 1 := by
  unfold put
  split
  · omega
  · simp
theorem ScK.mk {w : World} {R : Nat → List Str → Hp → Prop} {j : Nat} {ts : List Str} {z : Str} {H : Hp} (hl : ts.length ≤ j) (hj : j < 1000) (e : H D = some (SetX w D ts)) (r : R (j + 1) (put z ts) (upd H D (SetX w D (put z ts)))) : ScK w R D j (.str z) H :=
  ⟨ts, z, rfl, e, by omega, put z ts, Nat.le_trans (put_len z ts) (by omega), upd_same, r⟩
theorem scTg {w : World} (R : Nat → List Str → Hp → Prop) (h0 : R 0 [] (upd H1 D (SetX w D []))) (hl : ∀ j acc H, R j acc H → SqT K H a xs)
    (hs : ∀ j x ts H, xs[j]? = some x → ts.length ≤ j → H D = some (SetX w D ts) → R j ts H →
      g x (wipe σ vs) H fun σ2 H2 => wipe σ2 vs = wipe σ vs ∧ tt σ2 H2 fun b H3 => if b = true then te σ2 H3 (ScK w R D j) else ScP w R D (j + 1) H3)
    (hd : ∀ ts H, ts.length ≤ xs.length → H D = some (SetX w D ts) → R xs.length ts H → Qd H) :
    ∃ W : Nat → Nat → Hp → Prop, (∃ m, W 0 m (upd H1 D (SetX w D []))) ∧ ∀ i m H, W i m H →
      ((Itt K a).stop i H ∧ Qd H) ∨ ((Itt K a).go i H ∧ ∃ Nx : Hp → Prop, (∀ H', Nx H' → ∃ m', m' < m ∧ W (i + 1) m' H') ∧ ∀ x H', (Itt K a).yld i H x H' → g x (wipe σ vs) H' fun σ2 H2 => wipe σ2 vs = wipe σ vs ∧ tt σ2 H2 fun b H3 =>
        if b = true then te σ2 H3 fun y H4 => ∃ ts z, y = .str z ∧ H4 D = some (SetX w D ts) ∧ ts.length < 1000 ∧ Nx (upd H4 D (SetX w D (put z ts))) else Nx H3) := by
  refine ⟨fun j m H => m = xs.length - j ∧ j ≤ xs.length ∧ ScP w R D j H, ⟨xs.length, by omega, Nat.zero_le _, [], Nat.le_refl _, upd_same, h0⟩, ?_⟩
  rintro j m H ⟨rfl, hj, ts, hlen, e, r⟩
  have q := hl _ _ _ r
  by_cases hlt : j < xs.length
  · refine .inr ⟨⟨xs, xs[j], q, List.getElem?_eq_getElem hlt⟩, ScP w R D (j + 1), fun H' p => ⟨xs.length - (j + 1), by omega, rfl, hlt, p⟩, fun x H' y => ?_⟩
    obtain ⟨rfl, y⟩ := y
    exact hs j x ts _ (y xs q) hlen e r
  · have ej : j = xs.length := by omega
    subst ej
    exact .inl ⟨⟨xs, q, Nat.le_refl _⟩, hd ts H hlen e r⟩
end
end Eh
set_option Elab.async false
set_option linter.all false
set_option maxRecDepth 100000
namespace Eh
open PySem PySem.Spec PyProof.Rows L2
inductive Pl
  | leaf (k : Str) (t : V)
  | node (k : Str) (ps : List Pl)
mutual
def nodesOf : Pl → List (Str × V)
  | .leaf k t => [(k, t)]
  | .node k ps => (k, .int (ps.length : Int)) :: nodesAll ps
def nodesAll : List Pl → List (Str × V)
  | [] => []
  | p :: ps => nodesOf p ++ nodesAll ps
end
def leafOk (k : Str) (t : V) : Bool := match t with
  | .str _ => k == "fact" || k == "not"
  | .int i => (k == "yes" || k == "no") && decide (i = 0)
  | _ => false
def nodeKinds : List Str := ["all", "some", "mine", "yours"]
def nodeOk (k : Str) : Bool := nodeKinds.contains k
mutual
inductive At (K : PySem.W.Frag) (H : Hp) : V → Pl → Prop
  | leaf {a : Addr} {k : Str} {t : V} : SqT K H a [.str k, t] → leafOk k t = true → At K H (.ref a) (.leaf k t)
  | node {a b : Addr} {k : Str} {vs : List V} {ps : List Pl} : SqT K H a [.str k, .ref b] → SqT K H b vs → nodeOk k = true → 2 ≤ ps.length → ps.length ≤ 4 → AtAll K H vs ps → At K H (.ref a) (.node k ps)
inductive AtAll (K : PySem.W.Frag) (H : Hp) : List V → List Pl → Prop
  | nil : AtAll K H [] []
  | cons {v : V} {vs : List V} {p : Pl} {ps : List Pl} : At K H v p → AtAll K H vs ps → AtAll K H (v :: vs) (p :: ps)
end
/-- the tuples stay -/
def Tk (H H' : Hp) : Prop := ∀ a xs, Rd H a (.tup xs) → Rd H' a (.tup xs)
theorem Tk.refl {H : Hp} : Tk H H := fun _ _ h => h
theorem Tk.trans {H H1 H2 : Hp} (a : Tk H H1) (b : Tk H1 H2) : Tk H H2 := fun p xs h => b p xs (a p xs h)
theorem Tk.seq {K : PySem.W.Frag} {H H' : Hp} {a : Addr} {xs : List V} (t : Tk H H') (h : SqT K H a xs) : SqT K H' a xs := h.imp (t a xs) id
theorem stk {H H' : Hp} (s : Same H H') : Tk H H' := fun a xs h => h.imp (s a _) fun ⟨o, e⟩ => ⟨o, s a _ e⟩
theorem Gr.tk {d : Addr} {H H' : Hp} (g : Gr d H H') (D : D3 H d) : Tk H H' := fun a xs h => by
  obtain ⟨x, b, c, e⟩ := D
  rcases h with h | ⟨o, h⟩
  · exact .inl (g.keep a _ (fun z => by rw [z, e] at h; cases h) h)
  · exact .inr ⟨o, g.keep a _ (fun z => by rw [z, e] at h; cases h) h⟩
theorem Tk.new {H : Hp} {l : Addr} {o : HO} (n : H l = none) : Tk H (upd H l o) := stk (same_new n)
theorem Tk.put {H : Hp} {l : Addr} {xs ys : List V} (e : H l = some (.lst xs)) : Tk H (upd H l (.lst ys)) := fun a zs h => by
  have n : a ≠ l := fun z => by
    rw [z] at h
    rcases h with h | ⟨o, h⟩
    · rw [e] at h; cases h
    · rw [e] at h; cases h
  rcases h with h | ⟨o, h⟩
  · exact .inl (by rw [upd_ne n]; exact h)
  · exact .inr ⟨o, by rw [upd_ne n]; exact h⟩
mutual
theorem At.tk {K : PySem.W.Frag} {H H' : Hp} (t : Tk H H') : ∀ {v : V} {p : Pl}, At K H v p → At K H' v p
  | _, _, .leaf h o => .leaf (t.seq h) o
  | _, _, .node h1 h2 o a b r => .node (t.seq h1) (t.seq h2) o a b (AtAll.tk t r)
theorem AtAll.tk {K : PySem.W.Frag} {H H' : Hp} (t : Tk H H') : ∀ {vs : List V} {ps : List Pl}, AtAll K H vs ps → AtAll K H' vs ps
  | _, _, .nil => .nil
  | _, _, .cons h r => .cons (At.tk t h) (AtAll.tk t r)
end
theorem AtAll.length {K : PySem.W.Frag} {H : Hp} : ∀ {vs : List V} {ps : List Pl}, AtAll K H vs ps → vs.length = ps.length
  | _, _, .nil => rfl
  | _, _, .cons _ r => by rw [List.length_cons, List.length_cons, r.length]
theorem AtAll.get {K : PySem.W.Frag} {H : Hp} : ∀ {vs : List V} {ps : List Pl}, AtAll K H vs ps → ∀ {i : Nat} {v : V}, vs[i]? = some v → ∃ p, ps[i]? = some p ∧ At K H v p
  | _, _, .nil, i, v, h => by simp at h
  | _, _, .cons (v := x) (p := p) hp r, 0, v, h => by
    cases (show some x = some v from h)
    exact ⟨p, rfl, hp⟩
  | _, _, .cons hp r, i + 1, v, h => r.get (i := i) h
theorem AtAll.snoc {K : PySem.W.Frag} {H : Hp} : ∀ {vs : List V} {ps : List Pl} {v : V} {p : Pl}, AtAll K H vs ps → At K H v p → AtAll K H (vs ++ [v]) (ps ++ [p])
  | _, _, _, _, .nil, h => .cons h .nil
  | _, _, _, _, .cons h r, h' => .cons h (r.snoc h')
theorem nodesAll_append : ∀ (ps qs : List Pl), nodesAll (ps ++ qs) = nodesAll ps ++ nodesAll qs
  | [], qs => by rw [List.nil_append, nodesAll, List.nil_append]
  | p :: ps, qs => by rw [List.cons_append, nodesAll, nodesAll, nodesAll_append ps qs, List.append_assoc]
theorem nodesOf_pos (p : Pl) : 0 < (nodesOf p).length := by
  cases p with
  | leaf k t => rw [nodesOf]; exact Nat.one_pos
  | node k ps => rw [nodesOf]; exact Nat.succ_pos _
theorem nodesOf_get : ∀ {ps : List Pl} {i : Nat} {p : Pl}, ps[i]? = some p → (nodesOf p).length ≤ (nodesAll ps).length
  | [], _, _, h => by simp at h
  | q :: ps, 0, p, h => by
    cases (show some q = some p from h)
    rw [nodesAll, List.length_append]
    omega
  | q :: ps, i + 1, p, h => by
    have := nodesOf_get (ps := ps) (i := i) h
    rw [nodesAll, List.length_append]
    omega
theorem nodesAll_take : ∀ {ps : List Pl} {i : Nat} {p : Pl}, ps[i]? = some p → nodesAll (ps.take (i + 1)) = nodesAll (ps.take i) ++ nodesOf p
  | [], _, _, h => by simp at h
  | q :: ps, 0, p, h => by
    cases (show some q = some p from h)
    show nodesAll [q] = nodesAll [] ++ nodesOf q
    show nodesOf q ++ nodesAll [] = [] ++ nodesOf q
    rw [show nodesAll [] = [] from by rw [nodesAll], List.append_nil, List.nil_append]
  | q :: ps, i + 1, p, h => by
    show nodesAll (q :: ps.take (i + 1)) = nodesAll (q :: ps.take i) ++ nodesOf p
    rw [nodesAll, nodesAll, nodesAll_take (ps := ps) (i := i) h, List.append_assoc]
/-- nodes as they stand: pairs -/
inductive NdsAt (K : PySem.W.Frag) (H : Hp) : List V → List (Str × V) → Prop
  | nil : NdsAt K H [] []
  | cons {a : Addr} {k : Str} {t : V} {vs : List V} {ns : List (Str × V)} : SqT K H a [.str k, t] → NdsAt K H vs ns → NdsAt K H (.ref a :: vs) ((k, t) :: ns)
theorem NdsAt.tk {K : PySem.W.Frag} {H H' : Hp} (t : Tk H H') : ∀ {vs : List V} {ns : List (Str × V)}, NdsAt K H vs ns → NdsAt K H' vs ns
  | _, _, .nil => .nil
  | _, _, .cons h r => .cons (t.seq h) (r.tk t)
theorem NdsAt.length {K : PySem.W.Frag} {H : Hp} : ∀ {vs : List V} {ns : List (Str × V)}, NdsAt K H vs ns → vs.length = ns.length
  | _, _, .nil => rfl
  | _, _, .cons _ r => by rw [List.length_cons, List.length_cons, r.length]
theorem NdsAt.app {K : PySem.W.Frag} {H : Hp} : ∀ {vs us : List V} {ns ms : List (Str × V)}, NdsAt K H vs ns → NdsAt K H us ms → NdsAt K H (vs ++ us) (ns ++ ms)
  | _, _, _, _, .nil, h => h
  | _, _, _, _, .cons h r, h' => .cons h (r.app h')
theorem NdsAt.get {K : PySem.W.Frag} {H : Hp} : ∀ {vs : List V} {ns : List (Str × V)}, NdsAt K H vs ns → ∀ {i : Nat} {v : V}, vs[i]? = some v → ∃ a k t, v = .ref a ∧ ns[i]? = some (k, t) ∧ SqT K H a [.str k, t]
  | _, _, .nil, i, v, h => by simp at h
  | _, _, .cons (a := a) (k := k) (t := t) hp r, 0, v, h => by
    cases (show some (V.ref a) = some v from h)
    exact ⟨a, k, t, rfl, rfl, hp⟩
  | _, _, .cons hp r, i + 1, v, h => r.get (i := i) h
def isLeaf : Pl → Bool
  | .leaf _ _ => true
  | .node _ _ => false
def leafKinds : List Str := ["fact", "not", "yes", "no"]
theorem leaf_kind {k : Str} {t : V} (h : leafOk k t = true) : leafKinds.contains k = true := by
  unfold leafOk at h
  cases t with
  | str z =>
    rcases (Bool.or_eq_true _ _).mp h with h | h
    · rw [eq_of_beq h]; decide +kernel
    · rw [eq_of_beq h]; decide +kernel
  | int i =>
    rcases (Bool.or_eq_true _ _).mp ((Bool.and_eq_true _ _).mp h).1 with h | h
    · rw [eq_of_beq h]; decide +kernel
    · rw [eq_of_beq h]; decide +kernel
  | _ => cases h
theorem node_cases {k : Str} (h : nodeOk k = true) : k = "all" ∨ k = "some" ∨ k = "mine" ∨ k = "yours" := by
  unfold nodeOk nodeKinds at h
  rw [List.contains_iff_mem] at h
  simpa only [List.mem_cons, List.not_mem_nil, or_false] using h
theorem node_kind {k : Str} (h : nodeOk k = true) : leafKinds.contains k = false := by
  rcases node_cases h with rfl | rfl | rfl | rfl <;> decide +kernel
theorem inV_strs (k : Str) (ws : List Str) : inV (.str k) (ws.map V.str) = ws.contains k := by
  unfold inV
  rw [List.any_map, List.contains_eq_any_beq]
  congr 1
  funext z
  show (z == k) = (k == z)
  rw [Bool.eq_iff_iff, beq_iff_eq, beq_iff_eq]
  exact eq_comm
section
variable {P : Program} {w : World} {K : PySem.W.Frag} {mg : Str → Option Value} {base : Heap}
def spIsLeaf (K : PySem.W.Frag) : Sp := fun vs H Q _ => ∃ v pl, vs = [v] ∧ At K H v pl ∧ ∀ H', Same H H' → Q (.bl (isLeaf pl)) H'
theorem ok_is_leaf {f : Addr} {fd : FuncData} (F : Fun K "_law_is_leaf" "_law_is_leaf" s__law_is_leaf f fd) (T : Txt mg) : FnOk P w K mg base CX0 1 f fd ["plain"] (spIsLeaf K) := by
  refine F.ok sc__law_is_leaf (fun vs H Q E h => ?_) (fun cdv A outer s H vs Q E hr h => ?_)
  · obtain ⟨v, pl, rfl, _⟩ := h
    rfl
  · obtain ⟨v, pl, rfl, hA, q⟩ := h
    refine ⟨_, (pss_one (ps_ret (pe_cmpR (inQ (K := K) rfl) (pe_ix (ixT (K := K) rfl) (pv 0) pe_int (fun _ _ => rfl)) (pe_lst (pa_cons pe_str (pa_cons pe_str (pa_cons pe_str (pa_cons pe_str pa_nil))))) (by rfl)))), ?_⟩
    obtain ⟨a, k, t, rfl, hk, hb⟩ : ∃ a k t, v = .ref a ∧ SqT K H a [.str k, t] ∧ leafKinds.contains k = isLeaf pl := by
      cases hA with
      | leaf h o => exact ⟨_, _, _, rfl, h, leaf_kind o⟩
      | node h1 _ o _ _ _ => exact ⟨_, _, _, rfl, h1, node_kind o⟩
    refine ⟨_, rfl, a, _, 0, .str k, rfl, rfl, hk, rfl, lenOk 4, fun p np => ?_⟩
    refine ⟨p, leafKinds.map V.str, rfl, .inl (SqL.of upd_same), rfl, flat_strs _, ?_⟩
    rw [inV_strs, hb]
    exact q _ (same_new np)
def spNodes (K : PySem.W.Frag) (n : Nat) : Sp := fun vs H Q _ => ∃ v pl, vs = [v] ∧ At K H v pl ∧ (nodesOf pl).length ≤ n ∧ n < 1000 ∧ ∀ xs p H', Same H H' → H p = none → H' p = some (.lst xs) → NdsAt K H' xs (nodesOf pl) → Q (.ref p) H'
theorem ok_nodes {f fL : Addr} {fd fdL : FuncData} (F : Fun K "_law_nodes" "_law_nodes" s__law_nodes f fd) (T : Txt mg) (C__law_is_leaf : Cal P w K mg base 1 "_law_is_leaf" fL fdL ["plain"] (spIsLeaf K))
    (m : mg "_law_nodes" = some (.ref f)) (kp : PySem.W.keepIn K (.ref f) = true) (b : Binds K fd ["plain"] []) : ∀ n : Nat, FnOk P w K mg base CX0 (n + 1) f fd ["plain"] (spNodes K n)
  | 0 => F.ok sc__law_nodes (fun vs H Q E h => by
      obtain ⟨v, pl, rfl, _⟩ := h
      rfl) (fun cdv A outer s H vs Q E hr h => by
      obtain ⟨v, pl, rfl, _, h0, _⟩ := h
      have := nodesOf_pos pl
      omega)
  | n + 1 => by
    have G := ok_nodes F T C__law_is_leaf m kp b n
    refine F.ok sc__law_nodes (fun vs H Q E h => ?_) (fun cdv A outer s H vs Q E hr h => ?_)
    · obtain ⟨v, pl, rfl, _⟩ := h
      rfl
    · obtain ⟨v, pl, rfl, hA, hn, hn1, q⟩ := h
      have hr1 := hr.mono (j := 1) (by omega)
      refine ⟨_, (pss_cons (ps_if (pt_val (pe_call C__law_is_leaf.G hr1 (by rfl) C__law_is_leaf.m C__law_is_leaf.k C__law_is_leaf.b .nil pass0 (pa_cons (pv 0) pa_nil)))
  (pss_one (ps_ret (pe_lst (pa_cons (pv 0) pa_nil))))
  pss_nil)
  (pss_cons (ps_set (i := 1) sc__law_nodes.nd rfl (.inl rfl) (pe_lst (pa_cons (pe_tup (pa_cons (pe_ix (ixT (K := K) rfl) (pv 0) pe_int (fun _ _ => rfl)) (pa_cons (pe_callB (lenQ (K := K) rfl) (by rfl) T.len_ (by decide +kernel) (pa_cons (pe_ix (ixT (K := K) rfl) (pv 0) pe_int (fun _ _ => rfl)) pa_nil)) pa_nil))) pa_nil)))
  (pss_cons (ps_for PassesOwn.never (by rfl) (pi_tup (pe_ix (ixT (K := K) rfl) (pv 0) pe_int (fun _ _ => rfl))) (pg_name (i := 2) sc__law_nodes.nd rfl (.inl rfl))
  (pss_one (ps_set (i := 1) sc__law_nodes.nd rfl (.inl rfl) (pe_op op_cat (pv 1) (pe_call G hr (by rfl) m kp b .nil pass0 (pa_cons (pv 2) pa_nil))))))
  (pss_one (ps_ret (pv 1)))))), ?_⟩
      refine ⟨_, rfl, v, pl, rfl, hA, fun H1 s1 => ?_⟩
      refine ⟨_, rfl, ?_⟩
      cases hA with
      | leaf h o =>
        rename_i a k t
        refine iteT ?_
        refine ⟨_, rfl, lenOk 1, fun p np => ?_⟩
        have s2 := s1.trans (same_new (o := .lst [V.ref a]) np)
        refine q _ p _ s2 (s1.free np) upd_same ?_
        rw [nodesOf]
        exact .cons ((stk s2).seq h) .nil
      | node h1 h2 o a1 a2 r =>
        rename_i a c k vs ps
        refine iteF ?_
        refine ⟨_, rfl, a, _, 0, .str k, rfl, rfl, (stk s1).seq h1, rfl, _, rfl, a, _, 1, .ref c, rfl, rfl, (stk s1).seq h1, rfl, ?_⟩
        refine .inl ⟨c, vs, rfl, .inr ((stk s1).seq h2), lenOk 2, fun t nt => ⟨lenOk 1, fun l nl => ?_⟩⟩
        have s2 := s1.trans (same_new (o := .tup [.str k, .int (vs.length : Int)]) nt)
        have s3 := s2.trans (same_new (o := .lst [V.ref t]) nl)
        have nlt : l ≠ t := fun e => by rw [e, upd_same] at nl; cases nl
        have nH : H l = none := s2.free nl
        have hlen := r.length
        have hn' : (nodesAll ps).length ≤ n := by
          rw [nodesOf, List.length_cons] at hn
          omega
        refine ⟨_, rfl, a, _, 1, .ref c, rfl, rfl, (stk s3).seq h1, rfl, c, rfl, ⟨vs, (stk s3).seq h2⟩, for_tup (K := K) (a := c) (xs := vs) (fun i σ H2 => ∃ x l xs, σ = [some (.ref a), some (.ref l), x] ∧ Same H H2 ∧ H l = none ∧ H2 l = some (.lst xs) ∧ NdsAt K H2 xs ((k, .int (ps.length : Int)) :: nodesAll (ps.take i))) ?_ (fun i σ H2 _ h => ?_) ?_ ?_⟩
        · refine ⟨none, l, _, rfl, s3, nH, upd_same, ?_⟩
          rw [← hlen]
          have e : (nodesAll (ps.take 0)) = [] := by rw [List.take_zero, nodesAll]
          rw [e]
          exact .cons (SqT.of (by rw [upd_ne nlt.symm]; exact upd_same)) .nil
        · obtain ⟨_, _, _, _, s4, _⟩ := h
          exact (stk s4).seq h2
        · rintro i v2 σ H2 hi ⟨x, l2, xs, rfl, s4, n4, e4, d4⟩
          obtain ⟨p2, hp2, hA2⟩ := r.get hi
          refine ⟨_, rfl, _, rfl, v2, p2, rfl, hA2.tk (stk s4), Nat.le_trans (nodesOf_get hp2) hn', by omega, fun ys p5 H5 s5 n5 e5 d5 => ?_⟩
          have b1 := (d4.tk (stk s5)).length
          have b2 := d5.length
          have b3 := nodesOf_get hp2
          have b4 : (nodesAll (ps.take i)).length ≤ n := by
            have := congrArg List.length (nodesAll_append (ps.take i) (ps.drop i))
            rw [List.take_append_drop, List.length_append] at this
            omega
          rw [List.length_cons] at b1
          refine ⟨l2, p5, xs, ys, rfl, rfl, s5 _ _ e4, e5, Nat.le_of_lt (small (by omega)), fun p6 n6 => ?_⟩
          have s6 := s5.trans (same_new (o := .lst (xs ++ ys)) n6)
          refine ⟨_, p6, _, rfl, s4.trans s6, (s4.trans s5).free n6, upd_same, ?_⟩
          rw [nodesAll_take hp2, ← List.cons_append]
          exact (d4.tk (stk s6)).app (d5.tk (Tk.new n6))
        · rintro σ H2 ⟨x, l2, xs, rfl, s4, n4, e4, d4⟩
          refine ⟨_, rfl, q xs l2 H2 s4 n4 e4 ?_⟩
          rw [nodesOf]
          have e : ps.take vs.length = ps := by rw [hlen]; exact List.take_length
          rw [e] at d4
          exact d4
end
end Eh
set_option Elab.async false
set_option linter.all false
set_option maxRecDepth 100000
namespace Eh
open PySem PySem.Spec PyProof.Rows L2
theorem off_gr {d : Addr} {H H' : Hp} (D : D3 H' d) (k : ∀ b, b ≠ d → H' b = H b) : Gr d H H' := ⟨D, fun a o n e => by rw [k a n]; exact e⟩
theorem same_gr {d : Addr} {H H' : Hp} (D : D3 H d) (s : Same H H') : Gr d H H' := by
  obtain ⟨g, b, c, e⟩ := D
  exact ⟨⟨g, b, c, s _ _ e⟩, fun a o _ z => s a o z⟩
theorem gr_same {d : Addr} {H0 H H' : Hp} (n : H0 d = none) (s : Same H0 H) (g : Gr d H H') : Same H0 H' := fun b o e => g.keep b o (ne_of_none e n) (s b o e)
theorem lenS (n : Nat) {m : Nat} (e : m = n := by rfl) (h : n < 1000000 := by decide) : m ≤ sizeLine := by
  rw [e]
  exact Nat.le_of_lt (small h)
theorem iteT' {c : Bool} {A B : Prop} (e : c = true) (h : A) : if c = true then A else B := by
  rw [if_pos e]
  exact h
theorem iteF' {c : Bool} {A B : Prop} (e : c = false) (h : B) : if c = true then A else B := by
  rw [e]
  exact iteF h
/-- how many nodes are of some kinds -/
def countIn (ws : List Str) (ns : List (Str × V)) : Nat := (ns.filter fun n => ws.contains n.1).length
theorem countIn_app (ws : List Str) (a b : List (Str × V)) : countIn ws (a ++ b) = countIn ws a + countIn ws b := by
  unfold countIn
  rw [List.filter_append, List.length_append]
theorem countIn_one (ws : List Str) (k : Str) (u : V) : countIn ws [(k, u)] = if ws.contains k = true then 1 else 0 := by
  unfold countIn
  rw [List.filter_cons]
  show (if ws.contains k = true then _ else _ : List (Str × V)).length = _
  split <;> rfl
theorem take_succ' {α : Type} {l : List α} {j : Nat} {c : α} (h : l[j]? = some c) : l.take (j + 1) = l.take j ++ [c] := by
  rw [List.take_add_one, h]
  rfl
/-- its words are among some -/
def InW (ws : List Str) (ns : List (Str × V)) : Prop := ∀ k z, (k, V.str z) ∈ ns → z ∈ ws
section
variable {P : Program} {w : World} {K : PySem.W.Frag} {mg : Str → Option Value} {base : Heap}
def spCount (K : PySem.W.Frag) (n : Nat) : Sp := fun vs H Q _ => ∃ v pl a ws, vs = [v, .ref a] ∧ At K H v pl ∧ SqL K H a (ws.map V.str) ∧ (nodesOf pl).length ≤ n ∧ n < 1000 ∧ ∀ H', Same H H' → Q (.int (countIn ws (nodesOf pl))) H'
theorem ok_count {n : Nat} {f fN : Addr} {fd fdN : FuncData} (F : Fun K "_law_count" "_law_count" s__law_count f fd) (T : Txt mg) (C__law_nodes : Cal P w K mg base (n + 1) "_law_nodes" fN fdN ["plain"] (spNodes K n)) :
    FnOk P w K mg base CX0 (n + 2) f fd ["plain", "kinds"] (spCount K n) := by
  refine F.ok sc__law_count (fun vs H Q E h => ?_) (fun cdv A outer s H vs Q E hr h => ?_)
  · obtain ⟨v, pl, a, ws, rfl, _⟩ := h
    rfl
  · obtain ⟨v, pl, a, ws, rfl, hA, hS, hn, hn1, q⟩ := h
    refine ⟨_, (pss_one (ps_ret (pe_callB (lenQ (K := K) rfl) (by rfl) T.len_ (by decide +kernel) (pa_cons (pe_lc (own := [("node", 2)]) (g := gName 2) (by rfl) sc__law_count.nd (piL (K := K) rfl (pe_call C__law_nodes.G hr (by rfl) C__law_nodes.m C__law_nodes.k C__law_nodes.b .nil pass0 (pa_cons (pv 0) pa_nil))) (blkOk_by (by kernel_rfl)) (fun _ _ _ _ _ => (pg_name (i := 2) sc__law_count.nd rfl (.inl rfl))) (fun _ _ _ _ _ => (pts_one (pt_cmpR (inQ (K := K) rfl) (pe_ix (ixT (K := K) rfl) (pv 2) pe_int (fun _ _ => rfl)) (pv 1) (by rfl)))) (fun _ _ _ _ _ => (pv 2))) pa_nil)))), ?_⟩
    refine ⟨_, rfl, v, pl, rfl, hA, hn, hn1, fun xs p H1 s1 n1 e1 d1 => ?_⟩
    refine ⟨p, rfl, ⟨xs, SqL.of e1⟩, fun D nD => ?_⟩
    have s2 := s1.trans (same_new (o := .lst []) nD)
    have nDH : H D = none := s1.free nD
    have npD : p ≠ D := ne_of_none e1 nD
    have hl := d1.length
    refine lcL (fun j acc H2 => Same H H2 ∧ H2 p = some (.lst xs) ∧ NdsAt K H2 xs (nodesOf pl) ∧ acc.length = countIn ws ((nodesOf pl).take j)) ⟨s2, by rw [upd_ne npD]; exact e1, d1.tk (Tk.new nD), rfl⟩ (fun j acc H2 h => SqL.of h.2.1) ?_ ?_
    · rintro j x acc H2 hx hl2 e2 ⟨s3, e3, d3, ea⟩
      obtain ⟨t, k, u, rfl, hk, ht⟩ := d3.get hx
      have hj : j < 1000 := by
        have := (List.getElem?_eq_some_iff.mp hx).1
        omega
      refine ⟨_, rfl, t, _, 0, .str k, rfl, rfl, ht, rfl, _, rfl, a, ws.map V.str, rfl, .inl (s3.seq hS), rfl, flat_strs _, _, rfl, ?_⟩
      rw [inV_strs]
      have et : countIn ws ((nodesOf pl).take (j + 1)) = countIn ws ((nodesOf pl).take j) + countIn ws [(k, u)] := by rw [take_succ' hk, countIn_app]
      cases ek : ws.contains k with
      | true =>
        refine iteT ⟨_, rfl, ?_⟩
        refine LcK.mk hl2 (by omega) e2 ⟨fun b o eb => ?_, ?_, d3.tk (Tk.put e2), ?_⟩
        · rw [upd_ne (ne_of_none eb nDH)]
          exact s3 b o eb
        · rw [upd_ne npD]
          exact e3
        · rw [List.length_append, ea, et]
          rw [countIn_one, if_pos ek]
          rfl
      | false =>
        refine iteF ⟨acc, by omega, e2, s3, e3, d3, ?_⟩
        rw [ea, et]
        rw [countIn_one, if_neg (by rw [ek]; exact Bool.false_ne_true)]
        rfl
    · rintro acc H2 hl2 e2 ⟨s3, e3, d3, ea⟩
      refine .inl ⟨D, acc, rfl, .inl (SqL.of e2), ?_⟩
      rw [hl, List.take_length] at ea
      rw [ea]
      exact q H2 s3
def spLeaf (K : PySem.W.Frag) : Sp := fun vs H Q _ => ∃ d a ws, vs = [.ref d, .ref a] ∧ D3 H d ∧ SqL K H a (ws.map V.str) ∧ a ≠ d ∧ 0 < ws.length ∧ ws.length < 1000000 ∧
  ∀ v k t H', Gr d H H' → At K H' v (.leaf k t) → InW ws [(k, t)] → Q v H'
theorem ok_leaf {f fR fP : Addr} {fd fdR fdP : FuncData} (F : Fun K "_law_leaf" "_law_leaf" s__law_leaf f fd) (T : Txt mg) (C__law_roll : Cal P w K mg base 1 "_law_roll" fR fdR ["dice", "many"] spRoll)
    (C__law_pick : Cal P w K mg base 2 "_law_pick" fP fdP ["dice", "items"] (spPick K)) : FnOk P w K mg base CX0 3 f fd ["dice", "words"] (spLeaf K) := by
  refine F.ok sc__law_leaf (fun vs H Q E h => ?_) (fun cdv A outer s H vs Q E hr h => ?_)
  · obtain ⟨d, a, ws, rfl, _⟩ := h
    rfl
  · obtain ⟨d, a, ws, rfl, D, hS, hn, h0, h1, q⟩ := h
    have hr1 := hr.mono (j := 1) (by omega)
    refine ⟨_, (pss_cons (ps_set (i := 2) sc__law_leaf.nd rfl (.inl rfl) (pe_call C__law_roll.G hr1 (by rfl) C__law_roll.m C__law_roll.k C__law_roll.b .nil pass0 (pa_cons (pv 0) (pa_cons pe_int pa_nil))))
  (pss_cons (ps_if (pt_cmpR op_lt (pv 2) pe_int (nomark _))
  (pss_one (ps_ret (pe_ix (ixL (K := K) rfl) (pe_lst (pa_cons (pe_tup (pa_cons pe_str (pa_cons pe_int pa_nil))) (pa_cons (pe_tup (pa_cons pe_str (pa_cons pe_int pa_nil))) pa_nil))) (pv 2) (fun _ _ => rfl))))
  pss_nil)
  (pss_one (ps_ret (pe_tup (pa_cons (pe_ix (ixL (K := K) rfl) (pe_lst (pa_cons pe_str (pa_cons pe_str pa_nil))) (pe_op op_modN (pv 2) pe_int) (fun _ _ => rfl)) (pa_cons (pe_call C__law_pick.G hr (by rfl) C__law_pick.m C__law_pick.k C__law_pick.b .nil pass0 (pa_cons (pv 0) (pa_cons (pv 1) pa_nil))) pa_nil))))))), ?_⟩
    refine ⟨_, rfl, d, 9, rfl, D, by decide, by decide, fun r H1 r0 r1 D1 k1 => ?_⟩
    have g1 := off_gr (H := H) D1 k1
    refine ⟨_, rfl, r, 2, rfl, rfl, _, rfl, ite2 (fun hlt => ?_) (fun _ => ?_)⟩
    · have hlt : r < 2 := of_decide_eq_true hlt
      refine ⟨lenOk 2, fun t1 n1 => ⟨lenOk 2, fun t2 n2 => ⟨lenOk 2, fun l n3 => ?_⟩⟩⟩
      have a1 := Gr.laid (o := .tup [.str "yes", .int 0]) g1.dice n1
      have a2 := Gr.laid (o := .tup [.str "no", .int 0]) a1.dice n2
      have a3 := Gr.laid (o := .lst [.ref t1, .ref t2]) a2.dice n3
      have n12 : t1 ≠ t2 := ne_of_none (upd_same) n2
      have n13 : t1 ≠ l := ne_of_none (H := upd (upd H1 t1 _) t2 _) (by rw [upd_ne n12]; exact upd_same) n3
      have n23 : t2 ≠ l := ne_of_none upd_same n3
      have r01 : r = 0 ∨ r = 1 := by omega
      rcases r01 with rfl | rfl
      · refine ⟨_, rfl, l, _, 0, _, rfl, rfl, SqL.of upd_same, rfl, q _ "yes" (.int 0) _ (g1.trans (a1.trans (a2.trans a3))) (.leaf (SqT.of ?_) (by decide +kernel)) (fun k z hz => ?_)⟩
        · rw [upd_ne n13, upd_ne n12]
          exact upd_same
        · rw [List.mem_singleton] at hz
          cases hz
      · refine ⟨_, rfl, l, _, 1, _, rfl, rfl, SqL.of upd_same, rfl, q _ "no" (.int 0) _ (g1.trans (a1.trans (a2.trans a3))) (.leaf (SqT.of ?_) (by decide +kernel)) (fun k z hz => ?_)⟩
        · rw [upd_ne n23]
          exact upd_same
        · rw [List.mem_singleton] at hz
          cases hz
    · refine ⟨lenOk 2, fun l n1 => ?_⟩
      have a1 := Gr.laid (o := .lst [.str "fact", .str "not"]) g1.dice n1
      refine ⟨_, rfl, _, _, rfl, rfl, (show (2 : Int) ≠ 0 by decide), ?_⟩
      have b0 := fmod_in (i := r) (m := 2) (by decide)
      obtain ⟨k, ek, hk⟩ : ∃ k, atI [V.str "fact", .str "not"] (r.fmod 2) = some (.str k) ∧ (k = "fact" ∨ k = "not") := by
        have : r.fmod 2 = 0 ∨ r.fmod 2 = 1 := by omega
        rcases this with e | e
        · exact ⟨"fact", by rw [e]; rfl, .inl rfl⟩
        · exact ⟨"not", by rw [e]; rfl, .inr rfl⟩
      have g2 := g1.trans a1
      refine ⟨l, _, _, _, rfl, rfl, SqL.of upd_same, ek, _, rfl, _, rfl, d, a, ws.map V.str, rfl, g2.dice, g2.seq hn hS, hn, by rw [List.length_map]; exact h0, by rw [List.length_map]; exact h1, fun x H3 hx D3' k3 => ?_⟩
      obtain ⟨z, hz, rfl⟩ := List.mem_map.mp hx
      have g3 := g2.trans (off_gr D3' k3)
      refine ⟨lenOk 2, fun t nt => ?_⟩
      refine q _ k (.str z) _ (g3.trans (Gr.laid D3' nt)) (.leaf (SqT.of upd_same) ?_) (fun k2 z2 h2 => ?_)
      · rcases hk with rfl | rfl <;> rfl
      · rw [List.mem_singleton] at h2
        cases h2
        exact hz
end
end Eh
set_option Elab.async false
set_option linter.all false
set_option maxRecDepth 100000
namespace Eh
open PySem PySem.Spec PyProof.Rows L2
/-- two ways that come together -/
theorem join2 {α β : Type} {C Pm : α → β → Prop} {c : Bool} {A B : Prop} (ha : c = true → (∀ x y, C x y → Pm x y) → A) (hb : c = false → (∀ x y, C x y → Pm x y) → B) (tail : ∀ x y, C x y → Pm x y) : if c = true then A else B := by
  cases c with
  | true => exact iteT (ha rfl tail)
  | false => exact iteF (hb rfl tail)
theorem atI_last {xs : List V} {v : V} : atI (xs ++ [v]) (-1) = some v := by
  have h : xs.length < (xs ++ [v]).length := by rw [List.length_append]; exact Nat.lt_succ_self _
  unfold atI ixN
  rw [if_neg (by omega), if_pos (by rw [List.length_append, List.length_singleton]; omega)]
  have e : ((-1 : Int) + ((xs ++ [v]).length : Int)).toNat = xs.length := by
    rw [List.length_append, List.length_singleton]
    omega
  show (xs ++ [v])[_]? = _
  first
    | rw [e]
    | rw [show (((xs ++ [v]).length : Int) + -1).toNat = xs.length from by rw [List.length_append, List.length_singleton]; omega]
  exact List.getElem?_concat_length
end Eh
set_option Elab.async false
set_option linter.all false
set_option maxRecDepth 100000
namespace Eh
open PySem PySem.Spec PyProof.Rows L2
def choiceKinds : List Str := ["mine", "yours"]
theorem InW.app {ws : List Str} {a b : List (Str × V)} (h : InW ws a) (k : InW ws b) : InW ws (a ++ b) := fun x z hz => (List.mem_append.mp hz).elim (h x z) (k x z)
theorem InW.nil {ws : List Str} : InW ws [] := fun _ _ h => nomatch h
theorem Gr.ne {d l : Addr} {H : Hp} {xs : List V} (D : D3 H d) (n : H l = none) : l ≠ d := D.ne n
theorem choice_node {k : Str} (h : choiceKinds.contains k = true) : nodeOk k = true := by
  unfold choiceKinds at h
  rw [List.contains_iff_mem] at h
  simp only [List.mem_cons, List.not_mem_nil, or_false] at h
  rcases h with rfl | rfl <;> decide +kernel
theorem iteC {K' : VK} {σ : L2.St} {H : Hp} {a b : V} {c : Bool} (h : ∀ v, (c = true → v = a) → (c = false → v = b) → tC v σ H K') : if c = true then tC a σ H K' else tC b σ H K' := by
  cases c with
  | true => exact iteT (h a (fun _ => rfl) (fun e => nomatch e))
  | false => exact iteF (h b (fun e => nomatch e) (fun _ => rfl))
section
variable {P : Program} {w : World} {K : PySem.W.Frag} {mg : Str → Option Value} {base : Heap}
def spDrawn (K : PySem.W.Frag) (n : Nat) : Sp := fun vs H Q _ => ∃ (d a : Addr) (ws : List Str) (most choices : Int), vs = [.ref d, .ref a, .int most, .int choices] ∧ D3 H d ∧ SqL K H a (ws.map V.str) ∧ a ≠ d ∧ 0 < ws.length ∧ ws.length < 1000000 ∧
  1 ≤ most ∧ most ≤ n ∧ n < 900 ∧ 0 ≤ choices ∧ choices < 100000 ∧
  ∀ v pl H', Gr d H H' → At K H' v pl → InW ws (nodesOf pl) → ((nodesOf pl).length : Int) ≤ most → (countIn choiceKinds (nodesOf pl) : Int) ≤ choices → Q v H'
theorem ok_drawn {N : Nat} (hNb : N < 1000) {f fR fP fL fN fC : Addr} {fd fdR fdP fdL fdN fdC : FuncData} (F : Fun K "_law_drawn" "_law_drawn" s__law_drawn f fd) (T : Txt mg) (C__law_roll : Cal P w K mg base 1 "_law_roll" fR fdR ["dice", "many"] spRoll)
    (C__law_pick : Cal P w K mg base 2 "_law_pick" fP fdP ["dice", "items"] (spPick K)) (C__law_leaf : Cal P w K mg base 3 "_law_leaf" fL fdL ["dice", "words"] (spLeaf K)) (C__law_nodes : Cal P w K mg base (N + 1) "_law_nodes" fN fdN ["plain"] (spNodes K N))
    (C__law_count : Cal P w K mg base (N + 2) "_law_count" fC fdC ["plain", "kinds"] (spCount K N)) (m : mg "_law_drawn" = some (.ref f)) (kp : PySem.W.keepIn K (.ref f) = true) (b : Binds K fd ["dice", "words", "most", "choices"] []) :
    ∀ n : Nat, n ≤ N → FnOk P w K mg base CX0 (N + 3 + n) f fd ["dice", "words", "most", "choices"] (spDrawn K n)
  | 0, _ => F.ok sc__law_drawn (fun vs H Q E h => by
      obtain ⟨d, a, ws, most, choices, rfl, _⟩ := h
      rfl) (fun cdv A outer s H vs Q E hr h => by
      obtain ⟨d, a, ws, most, choices, rfl, _, _, _, _, _, h1, h2, _⟩ := h
      omega)
  | n + 1, hN => by
    have G := ok_drawn hNb F T C__law_roll C__law_pick C__law_leaf C__law_nodes C__law_count m kp b n (by omega)
    refine F.ok sc__law_drawn (fun vs H Q E h => ?_) (fun cdv A outer s H vs Q E hr h => ?_)
    · obtain ⟨d, a, ws, most, choices, rfl, _⟩ := h
      rfl
    · obtain ⟨d, a, ws, most, choices, rfl, D, hS, hn, hw0, hw1, hm1, hm2, hn9, hc0, hc1, q⟩ := h
      have hr : Room (N + 3 + n) _ := hr
      have hr0 := hr.mono (j := 1) (by omega)
      have hr2 := hr.mono (j := 2) (by omega)
      have hr3 := hr.mono (j := 3) (by omega)
      have hrN := hr.mono (j := N + 1) (by omega)
      have hrC := hr.mono (j := N + 2) (by omega)
      have hrG := hr.mono (j := N + 3 + n) (by omega)
      refine ⟨_, (pss_cons (ps_if (PW.pt (pw_or (pt_cmpR op_lt (pv 2) pe_int (nomark _)) (pw_or1 (pt_cmpR op_eq (pe_call C__law_roll.G hr0 (by rfl) C__law_roll.m C__law_roll.k C__law_roll.b .nil pass0 (pa_cons (pv 0) (pa_cons pe_int pa_nil))) pe_int (nomark _)))))
  (pss_one (ps_ret (pe_call C__law_leaf.G hr3 (by rfl) C__law_leaf.m C__law_leaf.k C__law_leaf.b .nil pass0 (pa_cons (pv 0) (pa_cons (pv 1) pa_nil)))))
  pss_nil)
  (pss_cons (ps_set (i := 4) sc__law_drawn.nd rfl (.inl rfl) (pe_call C__law_pick.G hr2 (by rfl) C__law_pick.m C__law_pick.k C__law_pick.b .nil pass0 (pa_cons (pv 0) (pa_cons (pe_op op_cat (pe_lst (pa_cons pe_str (pa_cons pe_str pa_nil))) (pe_ifExp (pt_cmpR op_gt (pv 3) pe_int (nomark _)) (pe_op op_rep (pe_lst (pa_cons pe_str (pa_cons pe_str pa_nil))) pe_int) (pe_lst pa_nil))) pa_nil))))
  (pss_cons (ps_set (i := 5) sc__law_drawn.nd rfl (.inl rfl) (pe_ifExp (pt_cmpR op_lt (pv 2) pe_int (nomark _)) pe_int (pe_call C__law_pick.G hr2 (by rfl) C__law_pick.m C__law_pick.k C__law_pick.b .nil pass0 (pa_cons (pv 0) (pa_cons (pe_lst (pa_cons pe_int (pa_cons pe_int (pa_cons pe_int (pa_cons pe_int pa_nil))))) pa_nil)))))
  (pss_cons (ps_par (i := 6) (j := 7) (by rfl) sc__law_drawn.nd rfl rfl (by decide) (by rfl) (by rfl) (pa_cons (pe_op op_sub (pv 3) (pe_ifExp (pt_cmpR (inQ (K := K) rfl) (pv 4) (pe_lst (pa_cons pe_str (pa_cons pe_str pa_nil))) (by rfl)) pe_int pe_int)) (pa_cons (pe_lst pa_nil) pa_nil)) (by rfl))
  (pss_cons (ps_set (i := 8) sc__law_drawn.nd rfl (.inl rfl) (pe_op op_sub (pe_op op_sub (pv 2) pe_int) (pv 5)))
  (pss_cons (ps_for PassesOwn.never (by rfl) (pi_range1 (by rfl) T.range_ (pa_cons (pv 5) pa_nil)) (pg_name (i := 9) sc__law_drawn.nd rfl (.inl rfl))
  (pss_cons (ps_set (i := 10) sc__law_drawn.nd rfl (.inl rfl) (pe_ifExp (pt_cmpR op_lt (pv 9) (pe_op op_sub (pv 5) pe_int) (nomark _)) (pe_call C__law_pick.G hr2 (by rfl) C__law_pick.m C__law_pick.k C__law_pick.b .nil pass0 (pa_cons (pv 0) (pa_cons (pe_lst (pa_cons pe_int (pa_cons (pe_op op_fdivN (pv 8) pe_int) (pa_cons (pv 8) pa_nil)))) pa_nil))) (pv 8)))
  (pss_cons (ps_set (i := 11) sc__law_drawn.nd rfl (.inl rfl) (pe_ifExp (pt_cmpR op_lt (pv 9) (pe_op op_sub (pv 5) pe_int) (nomark _)) (pe_call C__law_roll.G hr0 (by rfl) C__law_roll.m C__law_roll.k C__law_roll.b .nil pass0 (pa_cons (pv 0) (pa_cons (pe_op op_add (pv 6) pe_int) pa_nil))) (pv 6)))
  (pss_cons (ps_expr (bmK (K := K) rfl (pe_bm PySem.F.plainAttrs_list PySem.F.slot_list_append PySem.F.type_list_append mt_append (pv 7) (pa_cons (pe_call G hrG (by rfl) m kp b .nil pass0 (pa_cons (pv 0) (pa_cons (pv 1) (pa_cons (pe_op op_add pe_int (pv 10)) (pa_cons (pv 11) pa_nil))))) pa_nil))))
  (pss_cons (ps_set (i := 8) sc__law_drawn.nd rfl (.inl rfl) (pe_op op_add (pe_op op_sub (pv 8) (pe_callB (lenQ (K := K) rfl) (by rfl) T.len_ (by decide +kernel) (pa_cons (pe_call C__law_nodes.G hrN (by rfl) C__law_nodes.m C__law_nodes.k C__law_nodes.b .nil pass0 (pa_cons (pe_ix (ixL (K := K) rfl) (pv 7) (pe_un un_neg pe_int) (fun _ _ => rfl)) pa_nil)) pa_nil))) pe_int))
  (pss_one (ps_set (i := 6) sc__law_drawn.nd rfl (.inl rfl) (pe_op op_sub (pv 6) (pe_call C__law_count.G hrC (by rfl) C__law_count.m C__law_count.k C__law_count.b .nil pass0 (pa_cons (pe_ix (ixL (K := K) rfl) (pv 7) (pe_un un_neg pe_int) (fun _ _ => rfl)) (pa_cons (pe_lst (pa_cons pe_str (pa_cons pe_str pa_nil))) pa_nil)))))))))))
  (pss_one (ps_ret (pe_tup (pa_cons (pv 4) (pa_cons (pe_callTy call_tuple_of (by rfl) T.tuple_ (by decide +kernel) (pa_cons (pv 7) pa_nil)) pa_nil))))))))))), ?_⟩
      have leafK : ∀ H1, Gr d H H1 → ∃ d' a' ws', [V.ref d, V.ref a] = [.ref d', .ref a'] ∧ D3 H1 d' ∧ SqL K H1 a' (ws'.map V.str) ∧ a' ≠ d' ∧ 0 < ws'.length ∧ ws'.length < 1000000 ∧ ∀ v k t H', Gr d' H1 H' → At K H' v (.leaf k t) → InW ws' [(k, t)] → Q v H' := fun H1 g1 =>
        ⟨d, a, ws, rfl, g1.dice, g1.seq hn hS, hn, hw0, hw1, fun v k t H' g2 hA hw => q v _ H' (g1.trans g2) hA (by rw [nodesOf]; exact hw) (by rw [nodesOf]; exact hm1) (by
          rw [nodesOf, countIn_one, if_neg]
          · exact hc0
          · intro hk
            have := choice_node hk
            cases hA with
            | leaf _ o =>
              have h1 := leaf_kind o
              rw [node_kind this] at h1
              cases h1)⟩
      refine ⟨_, rfl, most, 3, rfl, rfl, _, rfl, ite2 (fun _ => ?_) (fun hm3 => ?_)⟩
      · exact ⟨_, rfl, _, rfl, leafK H (.refl D)⟩
      have hm3 : 3 ≤ most := by
        have := mt decide_eq_true hm3
        omega
      refine ⟨_, rfl, d, 6, rfl, D, by decide, by decide, fun r H1 r0 r1 D1 k1 => ?_⟩
      have g1 := off_gr (H := H) D1 k1
      refine ⟨rfl, _, rfl, ite2 (fun _ => ?_) (fun _ => ?_)⟩
      · exact ⟨_, rfl, _, rfl, leafK H1 g1⟩
      clear leafK
      -- kind
      refine ⟨_, rfl, lenOk 2, fun l1 n1 => ?_⟩
      have a1 := Gr.laid (o := .lst [.str "all", .str "some"]) g1.dice n1
      refine ⟨_, rfl, choices, 0, rfl, rfl, _, rfl, ?_⟩
      refine' join2 (C := fun (k : Str) H' => Gr d H H' ∧ nodeOk k = true ∧ (choiceKinds.contains k = true → 0 < choices)) (ha := ?ha1) (hb := ?hb1) (tail := ?tl1)
      case ha1 =>
        intro hch tail
        have hch : 0 < choices := of_decide_eq_true hch
        refine ⟨lenOk 2, fun l2 n2 => ?_⟩
        have a2 := Gr.laid (o := .lst [.str "mine", .str "yours"]) a1.dice n2
        refine ⟨l2, 2, _, rfl, rfl, upd_same, by decide, by decide, by rw [sizeLine_eq]; show 2 * 2 ≤ _; omega, fun l3 n3 => ?_⟩
        have a3 := Gr.laid (o := .lst (List.replicate (2 : Int).toNat [V.str "mine", .str "yours"]).flatten) a2.dice n3
        have e1 : l1 ≠ d := g1.dice.ne n1
        refine ⟨l1, l3, _, _, rfl, rfl, a3.keep _ _ e1 (a2.keep _ _ e1 upd_same), upd_same, lenS 6, fun l4 n4 => ?_⟩
        have a4 := Gr.laid (o := .lst ([V.str "all", .str "some"] ++ (List.replicate (2 : Int).toNat [V.str "mine", .str "yours"]).flatten)) a3.dice n4
        refine ⟨d, l4, _, rfl, a4.dice, SqL.of upd_same, a3.dice.ne n4, by decide, by decide, fun x H2 hx D2 k2 => ?_⟩
        have hx : x ∈ [V.str "all", .str "some", .str "mine", .str "yours", .str "mine", .str "yours"] := hx
        obtain ⟨k, rfl, hk⟩ : ∃ k, x = .str k ∧ nodeOk k = true := by
          simp only [List.mem_cons, List.not_mem_nil, or_false] at hx
          rcases hx with rfl | rfl | rfl | rfl | rfl | rfl <;> exact ⟨_, rfl, by decide +kernel⟩
        exact tail k H2 ⟨g1.trans (a1.trans (a2.trans (a3.trans (a4.trans (off_gr D2 k2))))), hk, fun _ => hch⟩
      case hb1 =>
        intro hch tail
        refine ⟨Nat.zero_le _, fun l2 n2 => ?_⟩
        have a2 := Gr.laid (o := .lst []) a1.dice n2
        have e1 : l1 ≠ d := g1.dice.ne n1
        refine ⟨l1, l2, _, _, rfl, rfl, a2.keep _ _ e1 upd_same, upd_same, lenS 2, fun l4 n4 => ?_⟩
        have a4 := Gr.laid (o := .lst ([V.str "all", .str "some"] ++ [])) a2.dice n4
        refine ⟨d, l4, _, rfl, a4.dice, SqL.of upd_same, a2.dice.ne n4, by decide, by decide, fun x H2 hx D2 k2 => ?_⟩
        have hx : x ∈ [V.str "all", .str "some"] := hx
        obtain ⟨k, rfl, hk, hk2⟩ : ∃ k, x = .str k ∧ nodeOk k = true ∧ choiceKinds.contains k = false := by
          simp only [List.mem_cons, List.not_mem_nil, or_false] at hx
          rcases hx with rfl | rfl <;> exact ⟨_, rfl, by decide +kernel, by decide +kernel⟩
        exact tail k H2 ⟨g1.trans (a1.trans (a2.trans (a4.trans (off_gr D2 k2)))), hk, fun h => absurd h (by rw [hk2]; exact Bool.false_ne_true)⟩
      clear a1 n1 g1
      intro k H3 ⟨g3, hk, hkc⟩
      -- many
      refine ⟨_, rfl, most, 4, rfl, rfl, _, rfl, ?_⟩
      refine' join2 (C := fun (mm : Int) H' => Gr d H H' ∧ (mm = 2 ∨ (mm = 3 ∧ 4 ≤ most))) (ha := ?ha2) (hb := ?hb2) (tail := ?tl2)
      case hb2 =>
        intro h4 tail
        have h4 : 4 ≤ most := by
          have := of_decide_eq_false h4
          omega
        refine ⟨_, rfl, lenOk 4, fun l1 n1 => ?_⟩
        have a1 := Gr.laid (o := .lst [.int 2, .int 2, .int 2, .int 3]) g3.dice n1
        refine ⟨d, l1, _, rfl, a1.dice, SqL.of upd_same, g3.dice.ne n1, by decide, by decide, fun x H2 hx D2 k2 => ?_⟩
        obtain ⟨mm, rfl, hm⟩ : ∃ mm : Int, x = .int mm ∧ (mm = 2 ∨ mm = 3) := by
          simp only [List.mem_cons, List.not_mem_nil, or_false] at hx
          rcases hx with rfl | rfl | rfl | rfl
          · exact ⟨_, rfl, .inl rfl⟩
          · exact ⟨_, rfl, .inl rfl⟩
          · exact ⟨_, rfl, .inl rfl⟩
          · exact ⟨_, rfl, .inr rfl⟩
        exact tail mm H2 ⟨g3.trans (a1.trans (off_gr D2 k2)), hm.imp id fun e => ⟨e, h4⟩⟩
      case ha2 =>
        intro _ tail
        exact tail 2 H3 ⟨g3, .inl rfl⟩
      clear g3
      intro mm H4 ⟨g4, hmm⟩
      -- left
      refine ⟨_, rfl, _, rfl, lenOk 2, fun l1 n1 => ?_⟩
      have a1 := Gr.laid (o := .lst [.str "mine", .str "yours"]) g4.dice n1
      refine ⟨l1, choiceKinds.map V.str, rfl, .inl (SqL.of upd_same), rfl, flat_strs _, _, rfl, ?_⟩
      refine iteC (fun v e1 e2 => ?_)
      obtain ⟨j, rfl, hj0, hj1, hjc⟩ : ∃ j : Int, v = .int j ∧ 0 ≤ j ∧ j ≤ choices ∧ (choiceKinds.contains k = true → j = 1) := by
        cases hb : choiceKinds.contains k with
        | true => 
          have := hkc hb
          exact ⟨1, e1 ((inV_strs k choiceKinds).trans hb), by omega, by omega, fun _ => rfl⟩
        | false => exact ⟨0, e2 ((inV_strs k choiceKinds).trans hb), by omega, by omega, fun h => nomatch h⟩
      have g5 := g4.trans a1
      show tC (V.int j) _ ?h5 _
      generalize ?h5 = H5 at g5 ⊢
      clear e1 e2 a1 n1 g4
      refine ⟨_, _, rfl, rfl, Nat.zero_le _, fun l n1 => ?_⟩
      have a1 := Gr.laid (o := .lst []) g5.dice n1
      have nl : l ≠ d := g5.dice.ne n1
      have nlH : H l = none := g5.free D n1
      refine ⟨_, _, rfl, ?_⟩
      refine ⟨_, rfl, _, _, rfl, rfl, _, rfl, _, _, rfl, rfl, ?_⟩
      refine ⟨_, rfl, mm, rfl, by omega, by omega, ?_⟩
      have i1 : 2 ≤ mm := by omega
      have i2 : mm ≤ 3 := by omega
      have i3 : 0 ≤ most - 1 - mm := by omega
      refine for_range (lo := 0) (n := mm.toNat) (fun i σ H2 => ∃ (room left : Int) (vs : List V) (ps : List Pl) (x9 x10 x11 : Option V), σ = [some (.ref d), some (.ref a), some (.int most), some (.int choices), some (.str k), some (.int mm), some (.int left), some (.ref l), some (.int room), x9, x10, x11] ∧
        Gr d H H2 ∧ H2 l = some (.lst vs) ∧ AtAll K H2 vs ps ∧ ps.length = i ∧ InW ws (nodesAll ps) ∧ 0 ≤ room ∧ room + (nodesAll ps).length = most - 1 - mm + i ∧ i ≤ (nodesAll ps).length ∧ 0 ≤ left ∧ left + countIn choiceKinds (nodesAll ps) = choices - j) ?_ ?_ ?_
      · exact ⟨_, _, [], [], _, _, _, rfl, g5.trans a1, upd_same, .nil, rfl, (by rw [nodesAll]; exact InW.nil), i3, (by rw [nodesAll]; rfl), Nat.zero_le _, by omega, by rw [nodesAll]; show _ + ((0 : Nat) : Int) = _; omega⟩
      · rintro i σ H6 hi ⟨room, left, vs, ps, x9, x10, x11, rfl, g6, e6, A6, hps, w6, r0, r6, hi6, l0, l6⟩
        have him : (i : Int) < mm := by omega
        have hroom : room ≤ most - 1 - mm := by omega
        have nl0 : l ≠ d := fun e => by
          obtain ⟨u1, u2, u3, e3⟩ := D
          rw [e, e3] at nlH
          cases nlH
        refine ⟨_, rfl, _, rfl, _, _, rfl, rfl, _, _, rfl, rfl, _, rfl, ?_⟩
        refine' join2 (C := fun (more : Int) H' => Gr d H6 H' ∧ 0 ≤ more ∧ more ≤ room) (ha := ?ha4) (hb := ?hb4) (tail := ?tl4)
        case ha4 =>
          intro _ tail
          refine ⟨_, rfl, _, rfl, _, _, rfl, rfl, (show (2 : Int) ≠ 0 ∧ (2 : Int).natAbs < 1073741824 by decide), _, rfl, lenOk 3, fun l1 n1 => ?_⟩
          have a1 := Gr.laid (o := .lst [.int 0, .int (room.fdiv 2), .int room]) g6.dice n1
          refine ⟨d, l1, _, rfl, a1.dice, SqL.of upd_same, g6.dice.ne n1, (show 0 < 3 by decide), (show 3 < 1000000 by decide), fun x H2 hx D2 k2 => ?_⟩
          have hf : room.fdiv 2 = room / 2 := Int.fdiv_eq_ediv_of_nonneg room (by decide)
          obtain ⟨more, rfl, h1, h2⟩ : ∃ more : Int, x = .int more ∧ 0 ≤ more ∧ more ≤ room := by
            simp only [List.mem_cons, List.not_mem_nil, or_false] at hx
            rcases hx with rfl | rfl | rfl
            · exact ⟨0, rfl, by omega, by omega⟩
            · exact ⟨_, rfl, by omega, by omega⟩
            · exact ⟨_, rfl, by omega, by omega⟩
          exact tail more H2 ⟨a1.trans (off_gr D2 k2), h1, h2⟩
        case hb4 =>
          intro _ tail
          exact ⟨_, rfl, tail room H6 ⟨.refl g6.dice, r0, by omega⟩⟩
        intro more H7 ⟨g7, hm0, hm1'⟩
        refine ⟨_, rfl, _, rfl, _, _, rfl, rfl, _, _, rfl, rfl, _, rfl, ?_⟩
        refine' join2 (C := fun (share : Int) H' => Gr d H6 H' ∧ 0 ≤ share ∧ share ≤ left) (ha := ?ha5) (hb := ?hb5) (tail := ?tl5)
        case ha5 =>
          intro _ tail
          refine ⟨_, rfl, _, rfl, _, _, rfl, rfl, d, _, rfl, g7.dice, by omega, by omega, fun r H8 q0 q1 D8 k8 => ?_⟩
          exact tail r H8 ⟨g7.trans (off_gr D8 k8), q0, by omega⟩
        case hb5 =>
          intro _ tail
          exact ⟨_, rfl, tail left H7 ⟨g7, l0, by omega⟩⟩
        intro share H8 ⟨g8, hs0, hs1⟩
        clear g7
        have g68 := g6.trans g8
        refine ⟨_, rfl, .inl ⟨rfl, _, SqL.of (g8.keep _ _ nl0 e6)⟩, _, rfl, _, rfl, _, rfl, _, _, rfl, rfl, _, rfl, ?_⟩
        refine ⟨d, a, ws, _, _, rfl, g68.dice, g68.seq hn hS, hn, hw0, hw1, by omega, by omega, by omega, hs0, by omega, fun v pl H9 g9 A9 w9 s9 c9 => ?_⟩
        have g69 := g8.trans g9
        have e9 := g69.keep _ _ nl0 e6
        have hvs := A6.length
        have tk9 : Tk H6 H9 := g69.tk g6.dice
        refine ⟨l, vs, v, rfl, rfl, e9, small (by omega), ?_⟩
        have tkp : Tk H9 (upd H9 l (.lst (vs ++ [v]))) := Tk.put e9
        have g610 : Gr d H (upd H9 l (.lst (vs ++ [v]))) := (g6.trans g69).put nlH nl0
        have A10 := A9.tk tkp
        have AA := ((A6.tk tk9).tk tkp).snoc A10
        have p1 := nodesOf_pos pl
        refine ⟨_, rfl, _, rfl, _, rfl, l, _, (-1), v, rfl, rfl, SqL.of upd_same, atI_last, v, pl, rfl, A10, by omega, by omega, fun xs p H11 s11 n11 e11 d11 => ?_⟩
        have el : H11 l = some (.lst (vs ++ [v])) := s11 _ _ upd_same
        refine .inl ⟨p, xs, rfl, .inl (SqL.of e11), _, _, rfl, rfl, _, _, rfl, rfl, ?_⟩
        refine ⟨_, rfl, _, rfl, _, rfl, l, _, (-1), v, rfl, rfl, SqL.of el, atI_last, lenOk 2, fun l3 n3 => ?_⟩
        have s12 := s11.trans (same_new (o := .lst [.str "mine", .str "yours"]) n3)
        refine ⟨v, pl, l3, choiceKinds, rfl, A10.tk (stk s12), SqL.of upd_same, by omega, by omega, fun H13 s13 => ?_⟩
        have s14 := s12.trans s13
        have s15 := same_gr g610.dice s14
        have hl := d11.length
        refine ⟨_, _, rfl, rfl, ?_⟩
        have ea : nodesAll (ps ++ [pl]) = nodesAll ps ++ nodesOf pl := by
          rw [nodesAll_append, nodesAll, nodesAll, List.append_nil]
        refine ⟨_, _, vs ++ [v], ps ++ [pl], _, _, _, rfl, g610.trans s15, s14 _ _ upd_same, AA.tk (stk s14), by rw [List.length_append, hps]; rfl, by rw [ea]; exact w6.app w9, ?_, ?_, ?_, ?_, ?_⟩
        · omega
        · rw [ea, List.length_append]
          omega
        · rw [ea, List.length_append]
          omega
        · omega
        · rw [ea, countIn_app]
          omega
      · rintro σ H6 ⟨room, left, vs, ps, x9, x10, x11, rfl, g6, e6, A6, hps, w6, r0, r6, hi6, l0, l6⟩
        refine ⟨_, rfl, _, rfl, l, vs, rfl, .inl ⟨SqL.of e6, fun t nt => ⟨lenOk 2, fun t2 nt2 => ?_⟩⟩⟩
        have a1 := Gr.laid (o := .tup vs) g6.dice nt
        have a2 := Gr.laid (o := .tup [.str k, .ref t]) a1.dice nt2
        have ne : t ≠ t2 := ne_of_none upd_same nt2
        have tk2 : Tk H6 _ := (a1.trans a2).tk g6.dice
        refine q _ (.node k ps) _ (g6.trans (a1.trans a2)) (.node (SqT.of upd_same) (SqT.of (by rw [upd_ne ne]; exact upd_same)) hk (by omega) (by omega) (A6.tk tk2)) ?_ ?_ ?_
        · rw [nodesOf]
          intro x z hz
          rcases List.mem_cons.mp hz with e | e
          · cases e
          · exact w6 x z e
        · rw [nodesOf, List.length_cons]
          omega
        · rw [nodesOf, show (k, V.int (ps.length : Int)) :: nodesAll ps = [(k, V.int (ps.length : Int))] ++ nodesAll ps from rfl, countIn_app, countIn_one]
          split
          · rename_i hc
            have := hjc hc
            omega
          · omega
end
end Eh
set_option Elab.async false
set_option linter.all false
set_option maxRecDepth 100000
namespace Eh
open PySem PySem.Spec PyProof.Rows L2
def inWB (ws : List Str) (ns : List (Str × V)) : Bool := ns.all fun n => match n.2 with
  | .str z => ws.contains z
  | _ => true
theorem inW_of {ws : List Str} {ns : List (Str × V)} (h : inWB ws ns = true) : InW ws ns := fun k z hz => List.contains_iff_mem.mp (List.all_eq_true.mp h _ hz)
def abc : List Str := ["a", "b", "c"]
/-- a known one -/
def Kn (K : PySem.W.Frag) (H : Hp) (x : V) : Prop := ∃ pl, At K H x pl ∧ inWB abc (nodesOf pl) = true ∧ (nodesOf pl).length ≤ 11 ∧ countIn choiceKinds (nodesOf pl) ≤ 4
def KnAll (K : PySem.W.Frag) (H : Hp) (xs : List V) : Prop := ∀ x ∈ xs, Kn K H x
theorem KnAll.tk {K : PySem.W.Frag} {H H' : Hp} {xs : List V} (h : KnAll K H xs) (t : Tk H H') : KnAll K H' xs := fun x hx => by
  obtain ⟨pl, A, r⟩ := h x hx
  exact ⟨pl, A.tk t, r⟩
theorem KnAll.add {K : PySem.W.Frag} {H : Hp} {xs : List V} {x : V} (h : KnAll K H xs) (k : Kn K H x) : KnAll K H (xs ++ [x]) := fun y hy => (List.mem_append.mp hy).elim (h y) fun z => by
  rw [List.mem_singleton.mp z]
  exact k
structure Six (K : PySem.W.Frag) (H : Hp) (va vb vc wa wb wc : V) : Prop where
  a : At K H va (.leaf "fact" (.str "a"))
  b : At K H vb (.leaf "fact" (.str "b"))
  c : At K H vc (.leaf "fact" (.str "c"))
  na : At K H wa (.leaf "not" (.str "a"))
  nb : At K H wb (.leaf "not" (.str "b"))
  nc : At K H wc (.leaf "not" (.str "c"))
theorem Six.tk {K : PySem.W.Frag} {H H' : Hp} {va vb vc wa wb wc : V} (h : Six K H va vb vc wa wb wc) (t : Tk H H') : Six K H' va vb vc wa wb wc := ⟨h.a.tk t, h.b.tk t, h.c.tk t, h.na.tk t, h.nb.tk t, h.nc.tk t⟩
theorem node_new {K : PySem.W.Frag} {d t u : Addr} {H : Hp} {vs : List V} {ps : List Pl} {k : Str} (D : D3 H d) (A : AtAll K H vs ps) (hk : nodeOk k = true) (h2 : 2 ≤ ps.length) (h4 : ps.length ≤ 4) (n : H t = none) (m : (upd H t (.tup vs)) u = none) :
    Gr d H (upd (upd H t (.tup vs)) u (.tup [.str k, .ref t])) ∧ At K (upd (upd H t (.tup vs)) u (.tup [.str k, .ref t])) (.ref u) (.node k ps) := by
  have a1 := Gr.laid (o := .tup vs) D n
  have a2 := Gr.laid (o := .tup [.str k, .ref t]) a1.dice m
  exact ⟨a1.trans a2, .node (SqT.of upd_same) (SqT.of (by rw [upd_ne (ne_of_none upd_same m)]; exact upd_same)) hk h2 h4 (A.tk ((a1.trans a2).tk D))⟩
theorem leaf_new {K : PySem.W.Frag} {d t : Addr} {H : Hp} {k : Str} {v : V} (D : D3 H d) (hk : leafOk k v = true) (n : H t = none) : Gr d H (upd H t (.tup [.str k, v])) ∧ At K (upd H t (.tup [.str k, v])) (.ref t) (.leaf k v) :=
  ⟨.laid D n, .leaf (SqT.of upd_same) hk⟩
section
variable {P : Program} {w : World} {K : PySem.W.Frag} {mg : Str → Option Value} {base : Heap}
def spKnown (K : PySem.W.Frag) : Sp := fun vs H Q _ => ∃ d, vs = [.ref d] ∧ D3 H d ∧ ∀ v pl H', Gr d H H' → At K H' v pl → InW abc (nodesOf pl) → (nodesOf pl).length ≤ 11 → countIn choiceKinds (nodesOf pl) ≤ 4 → Q v H'
theorem ok_known {f fP : Addr} {fd fdP : FuncData} (F : Fun K "_law_known" "_law_known" s__law_known f fd) (T : Txt mg) (C__law_pick : Cal P w K mg base 2 "_law_pick" fP fdP ["dice", "items"] (spPick K)) : FnOk P w K mg base CX0 3 f fd ["dice"] (spKnown K) := by
  refine F.ok sc__law_known (fun vs H Q E h => ?_) (fun cdv A outer s H vs Q E hr h => ?_)
  · obtain ⟨d, rfl, _⟩ := h
    rfl
  · obtain ⟨d, rfl, D, q⟩ := h
    refine ⟨_, (pss_cons (ps_asg (pe_tup (pa_cons (pe_tup (pa_cons pe_str (pa_cons pe_str pa_nil))) (pa_cons (pe_tup (pa_cons pe_str (pa_cons pe_str pa_nil))) (pa_cons (pe_tup (pa_cons pe_str (pa_cons pe_str pa_nil))) pa_nil)))) (pg_tup (by rfl) (pgs_cons (pg_name (i := 1) sc__law_known.nd rfl (.inl rfl)) (pgs_cons (pg_name (i := 2) sc__law_known.nd rfl (.inl rfl)) (pgs_cons (pg_name (i := 3) sc__law_known.nd rfl (.inl rfl)) pgs_nil)))))
  (pss_cons (ps_asg (pe_tup (pa_cons (pe_tup (pa_cons pe_str (pa_cons pe_str pa_nil))) (pa_cons (pe_tup (pa_cons pe_str (pa_cons pe_str pa_nil))) (pa_cons (pe_tup (pa_cons pe_str (pa_cons pe_str pa_nil))) pa_nil)))) (pg_tup (by rfl) (pgs_cons (pg_name (i := 4) sc__law_known.nd rfl (.inl rfl)) (pgs_cons (pg_name (i := 5) sc__law_known.nd rfl (.inl rfl)) (pgs_cons (pg_name (i := 6) sc__law_known.nd rfl (.inl rfl)) pgs_nil)))))
  (pss_cons (ps_set (i := 7) sc__law_known.nd rfl (.inl rfl) (pe_lst (pa_cons (pe_tup (pa_cons pe_str (pa_cons (pe_tup (pa_cons (pv 1) (pa_cons (pv 4) pa_nil))) pa_nil))) (pa_cons (pe_tup (pa_cons pe_str (pa_cons (pe_tup (pa_cons (pv 1) (pa_cons (pv 4) pa_nil))) pa_nil))) (pa_cons (pe_tup (pa_cons pe_str (pa_cons (pe_tup (pa_cons (pv 1) (pa_cons (pv 4) pa_nil))) pa_nil))) (pa_cons (pe_tup (pa_cons pe_str (pa_cons (pe_tup (pa_cons (pv 4) (pa_cons (pe_tup (pa_cons pe_str (pa_cons (pe_tup (pa_cons (pv 1) (pa_cons (pv 1) pa_nil))) pa_nil))) pa_nil))) pa_nil))) pa_nil))))))
  (pss_cons (ps_expr (bmK (K := K) rfl (pe_bm PySem.F.plainAttrs_list PySem.F.slot_list_append PySem.F.type_list_append mt_append (pv 7) (pa_cons (pe_tup (pa_cons pe_str (pa_cons (pe_tup (pa_cons (pe_tup (pa_cons pe_str (pa_cons (pe_tup (pa_cons (pv 1) (pa_cons (pv 2) pa_nil))) pa_nil))) (pa_cons (pe_tup (pa_cons pe_str (pa_cons (pe_tup (pa_cons (pv 4) (pa_cons (pv 5) pa_nil))) pa_nil))) pa_nil))) pa_nil))) pa_nil))))
  (pss_cons (ps_expr (bmK (K := K) rfl (pe_bm PySem.F.plainAttrs_list PySem.F.slot_list_append PySem.F.type_list_append mt_append (pv 7) (pa_cons (pe_tup (pa_cons pe_str (pa_cons (pe_tup (pa_cons (pe_tup (pa_cons pe_str (pa_cons (pe_tup (pa_cons (pv 5) (pa_cons (pv 6) pa_nil))) pa_nil))) (pa_cons (pe_tup (pa_cons pe_str (pa_cons (pe_tup (pa_cons (pe_tup (pa_cons pe_str (pa_cons (pe_tup (pa_cons (pv 2) (pa_cons (pv 3) pa_nil))) pa_nil))) (pa_cons (pe_tup (pa_cons pe_str (pa_cons (pe_tup (pa_cons (pv 2) (pa_cons (pv 3) pa_nil))) pa_nil))) pa_nil))) pa_nil))) pa_nil))) pa_nil))) pa_nil))))
  (pss_cons (ps_expr (bmK (K := K) rfl (pe_bm PySem.F.plainAttrs_list PySem.F.slot_list_append PySem.F.type_list_append mt_append (pv 7) (pa_cons (pe_tup (pa_cons pe_str (pa_cons (pe_tup (pa_cons (pe_tup (pa_cons pe_str (pa_cons (pe_tup (pa_cons (pv 1) (pa_cons (pv 2) pa_nil))) pa_nil))) (pa_cons (pe_tup (pa_cons pe_str (pa_cons (pe_tup (pa_cons (pv 4) (pa_cons (pv 1) pa_nil))) pa_nil))) pa_nil))) pa_nil))) pa_nil))))
  (pss_cons (ps_expr (bmK (K := K) rfl (pe_bm PySem.F.plainAttrs_list PySem.F.slot_list_append PySem.F.type_list_append mt_append (pv 7) (pa_cons (pe_tup (pa_cons pe_str (pa_cons (pe_tup (pa_cons (pe_tup (pa_cons pe_str (pa_cons (pe_tup (pa_cons (pv 1) (pa_cons (pv 2) pa_nil))) pa_nil))) (pa_cons (pe_tup (pa_cons pe_str (pa_cons (pe_tup (pa_cons (pv 4) (pa_cons (pv 5) pa_nil))) pa_nil))) pa_nil))) pa_nil))) pa_nil))))
  (pss_one (ps_ret (pe_call C__law_pick.G hr (by rfl) C__law_pick.m C__law_pick.k C__law_pick.b .nil pass0 (pa_cons (pv 0) (pa_cons (pv 7) pa_nil)))))))))))), ?_⟩
    refine ⟨lenOk 2, fun t1 n1 => ⟨lenOk 2, fun t2 n2 => ⟨lenOk 2, fun t3 n3 => ⟨lenOk 3, fun s1 o1 => ?_⟩⟩⟩⟩
    refine ⟨s1, _, rfl, SqT.of upd_same, rfl, _, _, rfl, _, _, rfl, _, _, rfl, rfl, ?_⟩
    obtain ⟨g1, l1⟩ := leaf_new (K := K) (k := "fact") (v := .str "a") D rfl n1
    obtain ⟨g2, l2⟩ := leaf_new (K := K) (k := "fact") (v := .str "b") g1.dice rfl n2
    obtain ⟨g3, l3⟩ := leaf_new (K := K) (k := "fact") (v := .str "c") g2.dice rfl n3
    have j1 := Gr.laid (o := .tup [.ref t1, .ref t2, .ref t3]) g3.dice o1
    refine ⟨lenOk 2, fun t4 n4 => ⟨lenOk 2, fun t5 n5 => ⟨lenOk 2, fun t6 n6 => ⟨lenOk 3, fun s2 o2 => ?_⟩⟩⟩⟩
    refine ⟨s2, _, rfl, SqT.of upd_same, rfl, _, _, rfl, _, _, rfl, _, _, rfl, rfl, ?_⟩
    obtain ⟨g4, l4⟩ := leaf_new (K := K) (k := "not") (v := .str "a") j1.dice rfl n4
    obtain ⟨g5, l5⟩ := leaf_new (K := K) (k := "not") (v := .str "b") g4.dice rfl n5
    obtain ⟨g6, l6⟩ := leaf_new (K := K) (k := "not") (v := .str "c") g5.dice rfl n6
    have j2 := Gr.laid (o := .tup [.ref t4, .ref t5, .ref t6]) g6.dice o2
    have L : Six K _ _ _ _ _ _ _ := ⟨l1.tk ((g2.trans (g3.trans (j1.trans (g4.trans (g5.trans (g6.trans j2)))))).tk g1.dice), l2.tk ((g3.trans (j1.trans (g4.trans (g5.trans (g6.trans j2))))).tk g2.dice), l3.tk ((j1.trans (g4.trans (g5.trans (g6.trans j2)))).tk g3.dice), l4.tk ((g5.trans (g6.trans j2)).tk g4.dice), l5.tk ((g6.trans j2).tk g5.dice), l6.tk (j2.tk g6.dice)⟩
    have g := g1.trans (g2.trans (g3.trans (j1.trans (g4.trans (g5.trans (g6.trans j2))))))
    clear l1 l2 l3 l4 l5 l6 g1 g2 g3 g4 g5 g6 j1 j2
    generalize upd _ s2 _ = H0 at g L ⊢
    clear n1 n2 n3 n4 n5 n6 o1 o2
    have dn : KnAll K H0 [] := fun _ h => nomatch h
    refine ⟨_, rfl, ?_⟩
    refine ⟨_, rfl, ?_⟩
    refine ⟨lenOk 2, fun t1 n1 => ⟨lenOk 2, fun u1 m1 => ?_⟩⟩
    obtain ⟨h1, A1⟩ := node_new (k := "mine") g.dice (.cons L.a (.cons L.na .nil)) (by decide +kernel) (by decide) (by decide) n1 m1
    replace L := L.tk (h1.tk g.dice)
    replace dn := dn.tk (h1.tk g.dice)
    skip
    replace g := g.trans h1
    generalize upd (upd _ t1 _) u1 _ = H1 at g A1 L dn ⊢
    clear n1 m1 h1
    replace dn := dn.add ⟨_, A1, by decide +kernel, by decide +kernel, by decide +kernel⟩
    refine ⟨_, rfl, ?_⟩
    refine ⟨_, rfl, ?_⟩
    refine ⟨lenOk 2, fun t2 n2 => ⟨lenOk 2, fun u2 m2 => ?_⟩⟩
    obtain ⟨h2, A2⟩ := node_new (k := "yours") g.dice (.cons L.a (.cons L.na .nil)) (by decide +kernel) (by decide) (by decide) n2 m2
    replace L := L.tk (h2.tk g.dice)
    replace dn := dn.tk (h2.tk g.dice)
    skip
    replace g := g.trans h2
    generalize upd (upd _ t2 _) u2 _ = H2 at g A2 L dn ⊢
    clear n2 m2 h2
    replace dn := dn.add ⟨_, A2, by decide +kernel, by decide +kernel, by decide +kernel⟩
    refine ⟨_, rfl, ?_⟩
    refine ⟨_, rfl, ?_⟩
    refine ⟨lenOk 2, fun t3 n3 => ⟨lenOk 2, fun u3 m3 => ?_⟩⟩
    obtain ⟨h3, A3⟩ := node_new (k := "some") g.dice (.cons L.a (.cons L.na .nil)) (by decide +kernel) (by decide) (by decide) n3 m3
    replace L := L.tk (h3.tk g.dice)
    replace dn := dn.tk (h3.tk g.dice)
    skip
    replace g := g.trans h3
    generalize upd (upd _ t3 _) u3 _ = H3 at g A3 L dn ⊢
    clear n3 m3 h3
    replace dn := dn.add ⟨_, A3, by decide +kernel, by decide +kernel, by decide +kernel⟩
    refine ⟨_, rfl, ?_⟩
    refine ⟨_, rfl, ?_⟩
    refine ⟨_, rfl, ?_⟩
    refine ⟨lenOk 2, fun t4 n4 => ⟨lenOk 2, fun u4 m4 => ?_⟩⟩
    obtain ⟨h4, A4⟩ := node_new (k := "all") g.dice (.cons L.a (.cons L.a .nil)) (by decide +kernel) (by decide) (by decide) n4 m4
    replace L := L.tk (h4.tk g.dice)
    replace dn := dn.tk (h4.tk g.dice)
    skip
    replace g := g.trans h4
    generalize upd (upd _ t4 _) u4 _ = H4 at g A4 L dn ⊢
    clear n4 m4 h4
    refine ⟨lenOk 2, fun t5 n5 => ⟨lenOk 2, fun u5 m5 => ?_⟩⟩
    obtain ⟨h5, A5⟩ := node_new (k := "some") g.dice (.cons L.na (.cons A4 .nil)) (by decide +kernel) (by decide) (by decide) n5 m5
    replace L := L.tk (h5.tk g.dice)
    replace dn := dn.tk (h5.tk g.dice)
    skip
    replace g := g.trans h5
    generalize upd (upd _ t5 _) u5 _ = H5 at g A5 L dn ⊢
    clear n5 m5 h5
    replace dn := dn.add ⟨_, A5, by decide +kernel, by decide +kernel, by decide +kernel⟩
    refine ⟨lenOk 4, fun l nL => ?_⟩
    have nl : l ≠ d := g.dice.ne nL
    have nlH : H l = none := g.free D nL
    obtain ⟨xs, hxs, ex⟩ : ∃ xs : List V, xs.length = 4 ∧ xs = [.ref u1, .ref u2, .ref u3, .ref u5] := ⟨_, rfl, rfl⟩
    replace dn : KnAll K H5 xs := by rw [ex]; exact dn
    have eL : upd H5 l (.lst xs) l = some (.lst xs) := upd_same
    have hh := Gr.laid (o := .lst xs) g.dice nL
    replace L := L.tk (hh.tk g.dice)
    replace dn := dn.tk (hh.tk g.dice)
    replace g := g.trans hh
    rw [← ex]
    clear ex hh nL
    generalize upd H5 l _ = H6x at g eL L dn ⊢
    refine ⟨_, rfl, .inl ⟨rfl, _, SqL.of eL⟩, ?_⟩
    refine ⟨_, rfl, ?_⟩
    refine ⟨_, rfl, ?_⟩
    refine ⟨lenOk 2, fun t6 n6 => ⟨lenOk 2, fun u6 m6 => ?_⟩⟩
    obtain ⟨h6, A6⟩ := node_new (k := "mine") g.dice (.cons L.a (.cons L.b .nil)) (by decide +kernel) (by decide) (by decide) n6 m6
    replace L := L.tk (h6.tk g.dice)
    replace dn := dn.tk (h6.tk g.dice)
    replace eL := h6.keep _ _ nl eL
    replace g := g.trans h6
    generalize upd (upd _ t6 _) u6 _ = H6 at g A6 eL L dn ⊢
    clear n6 m6 h6
    refine ⟨_, rfl, ?_⟩
    refine ⟨_, rfl, ?_⟩
    refine ⟨lenOk 2, fun t7 n7 => ⟨lenOk 2, fun u7 m7 => ?_⟩⟩
    obtain ⟨h7, A7⟩ := node_new (k := "yours") g.dice (.cons L.na (.cons L.nb .nil)) (by decide +kernel) (by decide) (by decide) n7 m7
    replace L := L.tk (h7.tk g.dice)
    replace A6 := A6.tk (h7.tk g.dice)
    replace dn := dn.tk (h7.tk g.dice)
    replace eL := h7.keep _ _ nl eL
    replace g := g.trans h7
    generalize upd (upd _ t7 _) u7 _ = H7 at g A7 eL L A6 dn ⊢
    clear n7 m7 h7
    refine ⟨lenOk 2, fun t8 n8 => ⟨lenOk 2, fun u8 m8 => ?_⟩⟩
    obtain ⟨h8, A8⟩ := node_new (k := "some") g.dice (.cons A6 (.cons A7 .nil)) (by decide +kernel) (by decide) (by decide) n8 m8
    replace L := L.tk (h8.tk g.dice)
    replace dn := dn.tk (h8.tk g.dice)
    replace eL := h8.keep _ _ nl eL
    replace g := g.trans h8
    generalize upd (upd _ t8 _) u8 _ = H8 at g A8 eL L dn ⊢
    clear n8 m8 h8
    refine ⟨l, xs, .ref u8, rfl, rfl, eL, small (by omega), ?_⟩
    have tp : Tk H8 (upd H8 l (.lst (xs ++ [.ref u8]))) := Tk.put eL
    replace L := L.tk tp
    replace dn := (dn.tk tp).add ⟨_, A8.tk tp, by decide +kernel, by decide +kernel, by decide +kernel⟩
    replace g := g.put (o := .lst (xs ++ [.ref u8])) nlH nl
    replace eL : upd H8 l (.lst (xs ++ [.ref u8])) l = some (.lst (xs ++ [.ref u8])) := upd_same
    replace hxs : (xs ++ [V.ref u8]).length = 5 := by rw [List.length_append, hxs]; rfl
    clear tp A8
    generalize xs ++ [V.ref u8] = xs1 at g eL hxs dn L ⊢
    generalize upd H8 l _ = Hy0 at g eL L dn ⊢
    refine ⟨_, rfl, .inl ⟨rfl, _, SqL.of eL⟩, ?_⟩
    refine ⟨_, rfl, ?_⟩
    refine ⟨_, rfl, ?_⟩
    refine ⟨lenOk 2, fun t9 n9 => ⟨lenOk 2, fun u9 m9 => ?_⟩⟩
    obtain ⟨h9, A9⟩ := node_new (k := "mine") g.dice (.cons L.nb (.cons L.nc .nil)) (by decide +kernel) (by decide) (by decide) n9 m9
    replace L := L.tk (h9.tk g.dice)
    replace dn := dn.tk (h9.tk g.dice)
    replace eL := h9.keep _ _ nl eL
    replace g := g.trans h9
    generalize upd (upd _ t9 _) u9 _ = H9 at g A9 eL L dn ⊢
    clear n9 m9 h9
    refine ⟨_, rfl, ?_⟩
    refine ⟨_, rfl, ?_⟩
    refine ⟨lenOk 2, fun t10 n10 => ⟨lenOk 2, fun u10 m10 => ?_⟩⟩
    obtain ⟨h10, A10⟩ := node_new (k := "yours") g.dice (.cons L.b (.cons L.c .nil)) (by decide +kernel) (by decide) (by decide) n10 m10
    replace L := L.tk (h10.tk g.dice)
    replace A9 := A9.tk (h10.tk g.dice)
    replace dn := dn.tk (h10.tk g.dice)
    replace eL := h10.keep _ _ nl eL
    replace g := g.trans h10
    generalize upd (upd _ t10 _) u10 _ = H10 at g A10 eL L A9 dn ⊢
    clear n10 m10 h10
    refine ⟨_, rfl, ?_⟩
    refine ⟨_, rfl, ?_⟩
    refine ⟨lenOk 2, fun t11 n11 => ⟨lenOk 2, fun u11 m11 => ?_⟩⟩
    obtain ⟨h11, A11⟩ := node_new (k := "yours") g.dice (.cons L.b (.cons L.c .nil)) (by decide +kernel) (by decide) (by decide) n11 m11
    replace L := L.tk (h11.tk g.dice)
    replace A9 := A9.tk (h11.tk g.dice)
    replace A10 := A10.tk (h11.tk g.dice)
    replace dn := dn.tk (h11.tk g.dice)
    replace eL := h11.keep _ _ nl eL
    replace g := g.trans h11
    generalize upd (upd _ t11 _) u11 _ = H11 at g A11 eL L A9 A10 dn ⊢
    clear n11 m11 h11
    refine ⟨lenOk 2, fun t12 n12 => ⟨lenOk 2, fun u12 m12 => ?_⟩⟩
    obtain ⟨h12, A12⟩ := node_new (k := "all") g.dice (.cons A10 (.cons A11 .nil)) (by decide +kernel) (by decide) (by decide) n12 m12
    replace L := L.tk (h12.tk g.dice)
    replace A9 := A9.tk (h12.tk g.dice)
    replace dn := dn.tk (h12.tk g.dice)
    replace eL := h12.keep _ _ nl eL
    replace g := g.trans h12
    generalize upd (upd _ t12 _) u12 _ = H12 at g A12 eL L A9 dn ⊢
    clear n12 m12 h12
    refine ⟨lenOk 2, fun t13 n13 => ⟨lenOk 2, fun u13 m13 => ?_⟩⟩
    obtain ⟨h13, A13⟩ := node_new (k := "some") g.dice (.cons A9 (.cons A12 .nil)) (by decide +kernel) (by decide) (by decide) n13 m13
    replace L := L.tk (h13.tk g.dice)
    replace dn := dn.tk (h13.tk g.dice)
    replace eL := h13.keep _ _ nl eL
    replace g := g.trans h13
    generalize upd (upd _ t13 _) u13 _ = H13 at g A13 eL L dn ⊢
    clear n13 m13 h13
    refine ⟨l, xs1, .ref u13, rfl, rfl, eL, small (by omega), ?_⟩
    have tp : Tk H13 (upd H13 l (.lst (xs1 ++ [.ref u13]))) := Tk.put eL
    replace L := L.tk tp
    replace dn := (dn.tk tp).add ⟨_, A13.tk tp, by decide +kernel, by decide +kernel, by decide +kernel⟩
    replace g := g.put (o := .lst (xs1 ++ [.ref u13])) nlH nl
    replace eL : upd H13 l (.lst (xs1 ++ [.ref u13])) l = some (.lst (xs1 ++ [.ref u13])) := upd_same
    replace hxs : (xs1 ++ [V.ref u13]).length = 6 := by rw [List.length_append, hxs]; rfl
    clear tp A13
    generalize xs1 ++ [V.ref u13] = xs2 at g eL hxs dn L ⊢
    generalize upd H13 l _ = Hy1 at g eL L dn ⊢
    refine ⟨_, rfl, .inl ⟨rfl, _, SqL.of eL⟩, ?_⟩
    refine ⟨_, rfl, ?_⟩
    refine ⟨_, rfl, ?_⟩
    refine ⟨lenOk 2, fun t14 n14 => ⟨lenOk 2, fun u14 m14 => ?_⟩⟩
    obtain ⟨h14, A14⟩ := node_new (k := "mine") g.dice (.cons L.a (.cons L.b .nil)) (by decide +kernel) (by decide) (by decide) n14 m14
    replace L := L.tk (h14.tk g.dice)
    replace dn := dn.tk (h14.tk g.dice)
    replace eL := h14.keep _ _ nl eL
    replace g := g.trans h14
    generalize upd (upd _ t14 _) u14 _ = H14 at g A14 eL L dn ⊢
    clear n14 m14 h14
    refine ⟨_, rfl, ?_⟩
    refine ⟨_, rfl, ?_⟩
    refine ⟨lenOk 2, fun t15 n15 => ⟨lenOk 2, fun u15 m15 => ?_⟩⟩
    obtain ⟨h15, A15⟩ := node_new (k := "some") g.dice (.cons L.na (.cons L.a .nil)) (by decide +kernel) (by decide) (by decide) n15 m15
    replace L := L.tk (h15.tk g.dice)
    replace A14 := A14.tk (h15.tk g.dice)
    replace dn := dn.tk (h15.tk g.dice)
    replace eL := h15.keep _ _ nl eL
    replace g := g.trans h15
    generalize upd (upd _ t15 _) u15 _ = H15 at g A15 eL L A14 dn ⊢
    clear n15 m15 h15
    refine ⟨lenOk 2, fun t16 n16 => ⟨lenOk 2, fun u16 m16 => ?_⟩⟩
    obtain ⟨h16, A16⟩ := node_new (k := "yours") g.dice (.cons A14 (.cons A15 .nil)) (by decide +kernel) (by decide) (by decide) n16 m16
    replace L := L.tk (h16.tk g.dice)
    replace dn := dn.tk (h16.tk g.dice)
    replace eL := h16.keep _ _ nl eL
    replace g := g.trans h16
    generalize upd (upd _ t16 _) u16 _ = H16 at g A16 eL L dn ⊢
    clear n16 m16 h16
    refine ⟨l, xs2, .ref u16, rfl, rfl, eL, small (by omega), ?_⟩
    have tp : Tk H16 (upd H16 l (.lst (xs2 ++ [.ref u16]))) := Tk.put eL
    replace L := L.tk tp
    replace dn := (dn.tk tp).add ⟨_, A16.tk tp, by decide +kernel, by decide +kernel, by decide +kernel⟩
    replace g := g.put (o := .lst (xs2 ++ [.ref u16])) nlH nl
    replace eL : upd H16 l (.lst (xs2 ++ [.ref u16])) l = some (.lst (xs2 ++ [.ref u16])) := upd_same
    replace hxs : (xs2 ++ [V.ref u16]).length = 7 := by rw [List.length_append, hxs]; rfl
    clear tp A16
    generalize xs2 ++ [V.ref u16] = xs3 at g eL hxs dn L ⊢
    generalize upd H16 l _ = Hy2 at g eL L dn ⊢
    refine ⟨_, rfl, .inl ⟨rfl, _, SqL.of eL⟩, ?_⟩
    refine ⟨_, rfl, ?_⟩
    refine ⟨_, rfl, ?_⟩
    refine ⟨lenOk 2, fun t17 n17 => ⟨lenOk 2, fun u17 m17 => ?_⟩⟩
    obtain ⟨h17, A17⟩ := node_new (k := "mine") g.dice (.cons L.a (.cons L.b .nil)) (by decide +kernel) (by decide) (by decide) n17 m17
    replace L := L.tk (h17.tk g.dice)
    replace dn := dn.tk (h17.tk g.dice)
    replace eL := h17.keep _ _ nl eL
    replace g := g.trans h17
    generalize upd (upd _ t17 _) u17 _ = H17 at g A17 eL L dn ⊢
    clear n17 m17 h17
    refine ⟨_, rfl, ?_⟩
    refine ⟨_, rfl, ?_⟩
    refine ⟨lenOk 2, fun t18 n18 => ⟨lenOk 2, fun u18 m18 => ?_⟩⟩
    obtain ⟨h18, A18⟩ := node_new (k := "yours") g.dice (.cons L.na (.cons L.nb .nil)) (by decide +kernel) (by decide) (by decide) n18 m18
    replace L := L.tk (h18.tk g.dice)
    replace A17 := A17.tk (h18.tk g.dice)
    replace dn := dn.tk (h18.tk g.dice)
    replace eL := h18.keep _ _ nl eL
    replace g := g.trans h18
    generalize upd (upd _ t18 _) u18 _ = H18 at g A18 eL L A17 dn ⊢
    clear n18 m18 h18
    refine ⟨lenOk 2, fun t19 n19 => ⟨lenOk 2, fun u19 m19 => ?_⟩⟩
    obtain ⟨h19, A19⟩ := node_new (k := "all") g.dice (.cons A17 (.cons A18 .nil)) (by decide +kernel) (by decide) (by decide) n19 m19
    replace L := L.tk (h19.tk g.dice)
    replace dn := dn.tk (h19.tk g.dice)
    replace eL := h19.keep _ _ nl eL
    replace g := g.trans h19
    generalize upd (upd _ t19 _) u19 _ = H19 at g A19 eL L dn ⊢
    clear n19 m19 h19
    refine ⟨l, xs3, .ref u19, rfl, rfl, eL, small (by omega), ?_⟩
    have tp : Tk H19 (upd H19 l (.lst (xs3 ++ [.ref u19]))) := Tk.put eL
    replace L := L.tk tp
    replace dn := (dn.tk tp).add ⟨_, A19.tk tp, by decide +kernel, by decide +kernel, by decide +kernel⟩
    replace g := g.put (o := .lst (xs3 ++ [.ref u19])) nlH nl
    replace eL : upd H19 l (.lst (xs3 ++ [.ref u19])) l = some (.lst (xs3 ++ [.ref u19])) := upd_same
    replace hxs : (xs3 ++ [V.ref u19]).length = 8 := by rw [List.length_append, hxs]; rfl
    clear tp A19
    generalize xs3 ++ [V.ref u19] = xs4 at g eL hxs dn L ⊢
    generalize upd H19 l _ = Hy3 at g eL L dn ⊢

    refine ⟨_, rfl, _, rfl, d, l, xs4, rfl, g.dice, SqL.of eL, nl, by omega, by omega, fun x H' hx D' k' => ?_⟩
    obtain ⟨pl, A, w1, w2, w3⟩ := dn x hx
    have h' := off_gr D' k'
    exact q x pl H' (g.trans h') (A.tk (h'.tk g.dice)) (inW_of w1) w2 w3
end
end Eh
set_option Elab.async false
set_option linter.all false
set_option maxRecDepth 100000
namespace Eh
open PySem PySem.Spec PyProof.Rows L2
section
variable {P : Program} {w : World} {K : PySem.W.Frag} {mg : Str → Option Value} {base : Heap}
/-- ys are some of xs -/
def SomeOf (ys xs : List V) : Prop := ∃ rest, (ys ++ rest).Perm xs
def spSome (K : PySem.W.Frag) : Sp := fun vs H Q _ => ∃ (d a : Addr) (xs : List V) (n : Nat), vs = [.ref d, .ref a, .int n] ∧ D3 H d ∧ SqL K H a xs ∧ a ≠ d ∧ xs.length < 1000000 ∧ n < 1000000 ∧
  ∀ ys p H', SomeOf ys xs → ys.length = min n xs.length → Gr d H H' → H p = none → H' p = some (.lst ys) → Q (.ref p) H'
theorem perm_erase {α : Type} : ∀ {xs : List α} {i : Nat} {x : α}, xs[i]? = some x → (x :: xs.eraseIdx i).Perm xs
  | [], _, _, h => by simp at h
  | y :: r, 0, x, h => by
    cases (show some y = some x from h)
    exact List.Perm.refl _
  | y :: r, i + 1, x, h => by
    have ih := perm_erase (xs := r) (i := i) (x := x) h
    exact (List.Perm.swap y x _).trans (ih.cons y)
theorem seqIndex_nat {n j : Nat} (h : j < n) : seqIndex? (j : Int) n = some j := (ixN_seq (n := n) (i := (j : Int)) (j := j) (by
  unfold ixN
  rw [if_pos (by omega), if_pos (by omega)]
  rfl)).1
theorem ok_some {f fR : Addr} {fd fdR : FuncData} (F : Fun K "_law_some" "_law_some" s__law_some f fd) (T : Txt mg) (C__law_roll : Cal P w K mg base 1 "_law_roll" fR fdR ["dice", "many"] spRoll) :
    FnOk P w K mg base CX0 2 f fd ["dice", "items", "size"] (spSome K) := by
  refine F.ok sc__law_some (fun vs H Q E h => ?_) (fun cdv A outer s H vs Q E hr h => ?_)
  · obtain ⟨d, a, xs, n, rfl, _⟩ := h
    rfl
  · obtain ⟨d, a, xs, n, rfl, D, hS, hn, h1, h2, q⟩ := h
    refine ⟨_, (pss_cons (ps_set (i := 3) sc__law_some.nd rfl (.inr rfl) (pe_callTy (lstOf (K := K) rfl) (by rfl) T.list_ (by decide +kernel) (pa_cons (pv 1) pa_nil)))
  (pss_one (ps_ret (pe_lc (own := [("turn", 4)]) (g := gName 4) (by rfl) sc__law_some.nd (pi_range1 (by rfl) T.range_ (pa_cons (pe_callB (call_min2 (by rfl)) (by rfl) T.min_ (by decide +kernel) (pa_cons (pv 2) (pa_cons (pe_callB (lenQ (K := K) rfl) (by rfl) T.len_ (by decide +kernel) (pa_cons (pv 3) pa_nil)) pa_nil))) pa_nil)) (blkOk_by (by kernel_rfl)) (fun _ _ _ _ _ => (pg_name (i := 4) sc__law_some.nd rfl (.inl rfl))) (fun _ _ _ _ _ => pts_nil) (fun _ _ _ _ _ => (bmK (K := K) rfl (pe_bm PySem.F.plainAttrs_list PySem.F.slot_list_pop PySem.F.type_list_pop mt_popAt (pv 3) (pa_cons (pe_call C__law_roll.G hr (by rfl) C__law_roll.m C__law_roll.k C__law_roll.b .nil pass0 (pa_cons (pv 0) (pa_cons (pe_callB (lenQ (K := K) rfl) (by rfl) T.len_ (by decide +kernel) (pa_cons (pv 3) pa_nil)) pa_nil))) pa_nil)))))))), ?_⟩
    -- left = list(items)
    refine ⟨_, rfl, a, xs, rfl, .inl hS, fun l nl => ?_⟩
    have nld : l ≠ d := D.ne nl
    have g0 : Gr d H (upd H l (.lst xs)) := .laid D nl
    -- min(size, len(left))
    refine ⟨_, rfl, _, rfl, .inl ⟨l, xs, rfl, .inl (SqL.of upd_same), n, xs.length, rfl, ?_⟩⟩
    obtain ⟨m, em, hm⟩ : ∃ m : Nat, (if (xs.length : Int) < (n : Int) then (xs.length : Int) else (n : Int)) = (m : Int) ∧ m = min n xs.length := by
      refine ⟨min n xs.length, ?_, rfl⟩
      split <;> omega
    rw [em]
    refine ⟨m, rfl, by omega, by omega, fun p np => ?_⟩
    have npl : p ≠ l := fun e => by rw [e, upd_same] at np; cases np
    have npH : H p = none := by rw [upd_ne npl] at np; exact np
    have npd : p ≠ d := D.ne npH
    refine lcR (fun i ys H2 => ∃ zs, (ys ++ zs).Perm xs ∧ ys.length = i ∧ Gr d H H2 ∧ H2 l = some (.lst zs)) ⟨xs, List.Perm.refl _, rfl, g0.put npH npd, by rw [upd_ne npl.symm, upd_same]⟩ ?_ ?_
    · rintro i ys H2 hi hly e1 ⟨zs, hp, hl, g2, e2⟩
      have hlen : ys.length + zs.length = xs.length := by rw [← hp.length_eq, List.length_append]
      refine ⟨_, rfl, .inl ⟨rfl, _, SqL.of e2⟩, _, rfl, _, rfl, .inl ⟨l, zs, rfl, .inl (SqL.of e2), d, _, rfl, g2.dice, by omega, by omega, fun r H3 r0 r1 D3' k => ?_⟩⟩
      have hr' : r.toNat < zs.length := by omega
      have e2' : H3 l = some (.lst zs) := by rw [k l nld]; exact e2
      have e1' : H3 p = some (.lst ys) := by rw [k p npd]; exact e1
      have er := seqIndex_nat hr'
      rw [Int.toNat_of_nonneg r0] at er
      refine ⟨l, zs, r, r.toNat, zs[r.toNat], rfl, rfl, e2', by omega, by omega, er, List.getElem?_eq_getElem hr', ?_⟩
      refine LcK.mk hly (by omega) (by rw [upd_ne npl]; exact e1') ⟨zs.eraseIdx r.toNat, ?_, ?_, ?_, ?_⟩
      · rw [List.append_assoc]
        exact (List.Perm.append_left ys (perm_erase (List.getElem?_eq_getElem hr'))).trans hp
      · rw [List.length_append]
        show ys.length + 1 = i + 1
        omega
      · have g3 : Gr d H H3 := ⟨D3', fun b o nb e => by rw [k b nb]; exact g2.keep b o nb e⟩
        exact (g3.put nl nld).put npH npd
      · rw [upd_ne npl.symm, upd_same]
    · rintro ys H2 _ e1 ⟨zs, hp, hl, g2, e2⟩
      exact q ys p H2 ⟨zs, hp⟩ (by omega) g2 npH e1
end
end Eh
set_option Elab.async false
set_option linter.all false
set_option maxRecDepth 100000
namespace Eh
open PySem PySem.Spec PyProof.Rows L2
def uni6 : List Str := ["a", "b", "c", "fact", "zz", "d"]
def six6 : List Str := ["a", "b", "c", "fact", "no", "zz"]
theorem six_uni {z : Str} (h : z ∈ six6) (n : z ≠ "no") : z ∈ uni6 := by
  unfold six6 at h
  simp only [List.mem_cons, List.not_mem_nil, or_false] at h
  rcases h with rfl | rfl | rfl | rfl | rfl | rfl
  · decide +kernel
  · decide +kernel
  · decide +kernel
  · decide +kernel
  · exact absurd rfl n
  · decide +kernel
theorem abc_uni {z : Str} (h : z ∈ abc) : z ∈ uni6 := by
  unfold abc at h
  simp only [List.mem_cons, List.not_mem_nil, or_false] at h
  rcases h with rfl | rfl | rfl <;> decide +kernel
theorem cut3 (xs : List V) : cutV xs none (some 3) = xs.take 3 := by
  unfold cutV HT.sIx
  simp
section
variable {P : Program} {w : World} {K : PySem.W.Frag} {mg : Str → Option Value} {base : Heap}
def spPromise (K : PySem.W.Frag) : Sp := fun vs H Q _ => ∃ d, vs = [.ref d] ∧ D3 H d ∧ ∀ v pl ws H', Gr d H H' → At K H' v pl → ws.length ≤ 3 → (∀ z ∈ ws, z ∈ uni6) → InW ws (nodesOf pl) → (nodesOf pl).length ≤ 11 → countIn choiceKinds (nodesOf pl) ≤ 4 → Q v H'
theorem ok_promise {k : Nat} (hk : 3 ≤ k) {f fR fP fS fK fD : Addr} {fd fdR fdP fdS fdK fdD : FuncData} (F : Fun K "_law_promise" "_law_promise" s__law_promise f fd) (T : Txt mg) (C__law_roll : Cal P w K mg base 1 "_law_roll" fR fdR ["dice", "many"] spRoll)
    (C__law_pick : Cal P w K mg base 2 "_law_pick" fP fdP ["dice", "items"] (spPick K)) (C__law_some : Cal P w K mg base 2 "_law_some" fS fdS ["dice", "items", "size"] (spSome K))
    (C__law_known : Cal P w K mg base 3 "_law_known" fK fdK ["dice"] (spKnown K)) (C__law_drawn : Cal P w K mg base k "_law_drawn" fD fdD ["dice", "words", "most", "choices"] (spDrawn K 11)) : FnOk P w K mg base CX0 (k + 1) f fd ["dice"] (spPromise K) := by
  refine F.ok sc__law_promise (fun vs H Q E h => ?_) (fun cdv A outer s H vs Q E hr h => ?_)
  · obtain ⟨d, rfl, _⟩ := h
    rfl
  · obtain ⟨d, rfl, D, q⟩ := h
    have hr1 := hr.mono (j := 1) (by omega)
    have hr2 := hr.mono (j := 2) (by omega)
    have hr3 := hr.mono (j := 3) (by omega)
    refine ⟨_, (pss_cons (ps_if (pt_cmpR op_eq (pe_call C__law_roll.G hr1 (by rfl) C__law_roll.m C__law_roll.k C__law_roll.b .nil pass0 (pa_cons (pv 0) (pa_cons pe_int pa_nil))) pe_int (nomark _))
  (pss_one (ps_ret (pe_call C__law_known.G hr3 (by rfl) C__law_known.m C__law_known.k C__law_known.b .nil pass0 (pa_cons (pv 0) pa_nil))))
  pss_nil)
  (pss_cons (ps_set (i := 1) sc__law_promise.nd rfl (.inl rfl) (pe_call C__law_some.G hr2 (by rfl) C__law_some.m C__law_some.k C__law_some.b .nil pass0 (pa_cons (pv 0) (pa_cons (pe_lst (pa_cons pe_str (pa_cons pe_str (pa_cons pe_str (pa_cons pe_str (pa_cons pe_str (pa_cons pe_str pa_nil))))))) (pa_cons (pe_op op_add pe_int (pe_call C__law_roll.G hr1 (by rfl) C__law_roll.m C__law_roll.k C__law_roll.b .nil pass0 (pa_cons (pv 0) (pa_cons pe_int pa_nil)))) pa_nil)))))
  (pss_cons (ps_set (i := 1) sc__law_promise.nd rfl (.inl rfl) (pe_op op_cat (pe_lc (own := [("word", 2)]) (g := gName 2) (by rfl) sc__law_promise.nd (piL (K := K) rfl (pv 1)) (blkOk_by (by kernel_rfl)) (fun _ _ _ _ _ => (pg_name (i := 2) sc__law_promise.nd rfl (.inl rfl))) (fun _ _ _ _ _ => (pts_one (pt_cmpR op_ne (pv 2) pe_str (nomark _)))) (fun _ _ _ _ _ => (pv 2))) (pe_lst (pa_cons pe_str pa_nil))))
  (pss_one (ps_ret (pe_call C__law_drawn.G hr (by rfl) C__law_drawn.m C__law_drawn.k C__law_drawn.b .nil pass0 (pa_cons (pv 0) (pa_cons (pe_slice (slL (K := K) rfl) (pv 1) po_none (po_some pe_int)) (pa_cons (pe_call C__law_pick.G hr2 (by rfl) C__law_pick.m C__law_pick.k C__law_pick.b .nil pass0 (pa_cons (pv 0) (pa_cons (pe_lst (pa_cons pe_int (pa_cons pe_int (pa_cons pe_int (pa_cons pe_int (pa_cons pe_int pa_nil)))))) pa_nil))) (pa_cons (pe_call C__law_pick.G hr2 (by rfl) C__law_pick.m C__law_pick.k C__law_pick.b .nil pass0 (pa_cons (pv 0) (pa_cons (pe_lst (pa_cons pe_int (pa_cons pe_int (pa_cons pe_int (pa_cons pe_int (pa_cons pe_int pa_nil)))))) pa_nil))) pa_nil)))))))))), ?_⟩
    refine ⟨_, rfl, d, 6, rfl, D, by decide, by decide, fun r H1 r0 r1 D1 k1 => ?_⟩
    have g1 := off_gr (H := H) D1 k1
    refine ⟨rfl, _, rfl, ite2 (fun _ => ?_) (fun _ => ?_)⟩
    · exact ⟨_, rfl, d, rfl, D1, fun v pl H2 g2 A hw hl hc => q v pl abc H2 (g1.trans g2) A (by decide) (fun z hz => abc_uni hz) hw hl hc⟩
    refine ⟨_, rfl, lenOk 6, fun l1 n1 => ?_⟩
    have a1 := Gr.laid (o := .lst (six6.map V.str)) g1.dice n1
    refine ⟨_, rfl, d, 3, rfl, a1.dice, by decide, by decide, fun r2 H2 r20 r21 D2 k2 => ?_⟩
    have g2 := g1.trans (a1.trans (off_gr D2 k2))
    refine ⟨_, _, rfl, rfl, ?_⟩
    obtain ⟨n, en, hn⟩ : ∃ n : Nat, (1 : Int) + r2 = (n : Int) ∧ 1 ≤ n ∧ n ≤ 3 := ⟨(1 + r2).toNat, by omega, by omega, by omega⟩
    have nl1 : l1 ≠ d := g1.dice.ne n1
    refine ⟨d, l1, six6.map V.str, n, (by show [V.ref d, V.ref l1, V.int (1 + r2)] = _; rw [en]), D2, SqL.of (by rw [k2 l1 nl1]; exact upd_same), nl1, by decide, by omega, fun ys p H3 hys hyl g3 n3 e3 => ?_⟩
    have g4 := g2.trans g3
    have npd : p ≠ d := g2.dice.ne n3
    refine ⟨_, rfl, p, rfl, ⟨ys, SqL.of e3⟩, fun D0 nD => ?_⟩
    have a2 := Gr.laid (o := .lst []) g4.dice nD
    have nDd : D0 ≠ d := g4.dice.ne nD
    have nDH : H D0 = none := g4.free D nD
    have npD : p ≠ D0 := ne_of_none e3 nD
    have mem : ∀ y ∈ ys, ∃ z, y = V.str z ∧ z ∈ six6 := fun y hy => by
      obtain ⟨rest, hp⟩ := hys
      have := hp.mem_iff.mp (List.mem_append_left rest hy)
      obtain ⟨z, hz, rfl⟩ := List.mem_map.mp this
      exact ⟨z, rfl, hz⟩
    have hlen : ys.length ≤ 3 := by omega
    refine lcL (fun j acc H5 => Gr d H H5 ∧ H5 p = some (.lst ys) ∧ ∃ zs : List Str, acc = zs.map V.str ∧ ∀ z ∈ zs, z ∈ uni6) ⟨g4.trans a2, by rw [upd_ne npD]; exact e3, [], rfl, fun _ h => nomatch h⟩ (fun j acc H5 h => SqL.of h.2.1) ?_ ?_
    · rintro j x acc H5 hx hl2 e2 ⟨g5, e5, zs, rfl, hzs⟩
      obtain ⟨z, rfl, hz⟩ := mem x (List.mem_of_getElem? hx)
      have hj : j < 3 := by
        have := (List.getElem?_eq_some_iff.mp hx).1
        omega
      refine ⟨_, rfl, rfl, _, rfl, ?_⟩
      by_cases ez : V.str z = V.str "no"
      · rw [decide_eq_true ez]
        exact iteF ⟨_, by omega, e2, g5, e5, zs, rfl, hzs⟩
      · rw [decide_eq_false ez]
        refine iteT ⟨_, rfl, LcK.mk hl2 (by omega) e2 ⟨g5.put nDH nDd, by rw [upd_ne npD]; exact e5, zs ++ [z], by rw [List.map_append]; rfl, fun u hu => ?_⟩⟩
        rcases List.mem_append.mp hu with h | h
        · exact hzs u h
        · rw [List.mem_singleton.mp h]
          exact six_uni hz fun e => ez (by rw [e])
    · rintro acc H5 hl2 e2 ⟨g5, e5, zs, rfl, hzs⟩
      refine ⟨lenOk 1, fun l3 n5 => ?_⟩
      have a3 := Gr.laid (o := .lst [.str "d"]) g5.dice n5
      refine ⟨D0, l3, _, _, rfl, rfl, a3.keep _ _ nDd e2, upd_same, Nat.le_of_lt (small (by show _ + 1 < _; omega)), fun l4 n6 => ?_⟩
      rw [show zs.map V.str ++ [V.str "d"] = (zs ++ [("d" : Str)]).map V.str from by rw [List.map_append]; rfl]
      have a4 := Gr.laid (o := .lst ((zs ++ [("d" : Str)]).map V.str)) a3.dice n6
      have g6 := g5.trans (a3.trans a4)
      refine ⟨_, rfl, _, rfl, _, rfl, l4, _, rfl, SqL.of upd_same, fun l5 n7 => ?_⟩
      rw [cut3, ← List.map_take]
      obtain ⟨ws, ews⟩ : ∃ ws, ws = (zs ++ [("d" : Str)]).take 3 := ⟨_, rfl⟩
      rw [← ews]
      have hws : ∀ z ∈ ws, z ∈ uni6 := fun z hz => by
        rw [ews] at hz
        rcases List.mem_append.mp (List.mem_of_mem_take hz) with h | h
        · exact hzs z h
        · rw [List.mem_singleton.mp h]
          decide +kernel
      have hw3 : ws.length ≤ 3 := by rw [ews, List.length_take]; omega
      have hw0 : 0 < ws.length := by rw [ews, List.length_take, List.length_append]; show 0 < min 3 (_ + 1); omega
      have a5 := Gr.laid (o := .lst (ws.map V.str)) g6.dice n7
      have g7 := g6.trans a5
      have n5d : l5 ≠ d := g6.dice.ne n7
      refine ⟨_, rfl, lenOk 5, fun l6 n8 => ?_⟩
      have a6 := Gr.laid (o := .lst [.int 3, .int 5, .int 7, .int 9, .int 11]) g7.dice n8
      refine ⟨d, l6, _, rfl, a6.dice, SqL.of upd_same, g7.dice.ne n8, by decide, by decide, fun x H8 hx D8 k8 => ?_⟩
      have g8 := a6.trans (off_gr D8 k8)
      obtain ⟨most, rfl, m1, m2⟩ : ∃ most : Int, x = .int most ∧ 1 ≤ most ∧ most ≤ 11 := by
        simp only [List.mem_cons, List.not_mem_nil, or_false] at hx
        rcases hx with rfl | rfl | rfl | rfl | rfl <;> exact ⟨_, rfl, by decide, by decide⟩
      refine ⟨_, rfl, lenOk 5, fun l7 n9 => ?_⟩
      have a7 := Gr.laid (o := .lst [.int 1, .int 2, .int 2, .int 3, .int 4]) g8.dice n9
      refine ⟨d, l7, _, rfl, a7.dice, SqL.of upd_same, g8.dice.ne n9, by decide, by decide, fun x H9 hx D9 k9 => ?_⟩
      have g9 := g8.trans (a7.trans (off_gr D9 k9))
      obtain ⟨ch, rfl, c1, c2⟩ : ∃ ch : Int, x = .int ch ∧ 0 ≤ ch ∧ ch ≤ 4 := by
        simp only [List.mem_cons, List.not_mem_nil, or_false] at hx
        rcases hx with rfl | rfl | rfl | rfl | rfl <;> exact ⟨_, rfl, by decide, by decide⟩
      refine ⟨d, l5, ws, most, ch, rfl, D9, SqL.of (g9.keep _ _ n5d upd_same), n5d, hw0, by omega, m1, by omega, by decide, c1, by omega, fun v pl H10 g10 A hw hl hc => ?_⟩
      exact q v pl ws H10 (g7.trans (g9.trans g10)) A hw3 hws hw (by omega) (by omega)
end
end Eh
set_option Elab.async false
set_option linter.all false
set_option maxRecDepth 100000
namespace Eh
open PySem PySem.Spec PyProof.Rows L2
def low (c : Nat) : Bool := decide (97 ≤ c ∧ c ≤ 122)
def factS (z : Str) : Bool := decide (1 ≤ z.length ∧ z.length ≤ 8) && !(decide (z = "yes")) && !(decide (z = "no")) && z.cps.toList.all low
def factV : V → Bool
  | .str z => factS z
  | _ => false
/-- a value whose type is known and is not str, or a text -/
def Asc (z : Str) : Prop := z.length < 1000000 ∧ ∀ c ∈ z.cps.toList, c < 128
def Kind (K : PySem.W.Frag) (H : Hp) (v : V) : Prop := (∃ z : Str, v = .str z ∧ Asc z) ∨ ((∀ z, v ≠ .str z) ∧ ∃ t, TyX K H v t ∧ PySem.W.kitOne K t (.type "str") = some false)
section
variable {P : Program} {w : World} {K : PySem.W.Frag} {mg : Str → Option Value} {base : Heap}
def spFact (K : PySem.W.Frag) : Sp := fun vs H Q _ => ∃ v, vs = [v] ∧ Kind K H v ∧ ∀ H', Same H H' → Q (.bl (factV v)) H'
theorem kitStr {K : PySem.W.Frag} : PySem.W.kitOne K (.type "str") (.type "str") = some true := kit_ty (by decide +kernel)
theorem le_sign (c : Nat) : (!decide ((⟨#[c]⟩ : Str).cps.toList < ("a" : Str).cps.toList)) = decide (97 ≤ c) := by
  show (!decide ([c] < [97])) = decide (97 ≤ c)
  have e : ([c] < [97]) ↔ c < 97 := by
    constructor
    · intro h
      cases h with
      | rel h => exact h
      | cons h => cases h
    · intro h
      exact List.Lex.rel h
  rw [decide_eq_decide.mpr e]
  by_cases h : c < 97
  · rw [decide_eq_true h, decide_eq_false (by omega)]
    rfl
  · rw [decide_eq_false h, decide_eq_true (by omega)]
    rfl
theorem ge_sign (c : Nat) : (!decide (("z" : Str).cps.toList < (⟨#[c]⟩ : Str).cps.toList)) = decide (c ≤ 122) := by
  show (!decide ([122] < [c])) = decide (c ≤ 122)
  have e : ([122] < [c]) ↔ 122 < c := by
    constructor
    · intro h
      cases h with
      | rel h => exact h
      | cons h => cases h
    · intro h
      exact List.Lex.rel h
  rw [decide_eq_decide.mpr e]
  by_cases h : 122 < c
  · rw [decide_eq_true h, decide_eq_false (by omega)]
    rfl
  · rw [decide_eq_false h, decide_eq_true (by omega)]
    rfl
theorem sbeq (a b : Str) : (a == b) = decide (a = b) := by rw [Bool.eq_iff_iff, beq_iff_eq, decide_eq_true_iff]
theorem yesno (z : Str) : inV (.str z) [.str "yes", .str "no"] = (decide (("yes" : Str) = z) || decide (("no" : Str) = z)) := by
  show (("yes" : Str) == z || (("no" : Str) == z || false)) = _
  rw [Bool.or_false, sbeq, sbeq]
def rNi (K : PySem.W.Frag) : R2 := fun x y H Q => ∃ p xs, y = .ref p ∧ (SqL K H p xs ∨ SqT K H p xs) ∧ flatV x = true ∧ xs.all flatV = true ∧ ∀ b, inV x xs = b → Q (.bl (!b)) H
theorem niB {X : Cx} (h : X.K = K) : OpR X (compareOp .NotIn) (rNi K) := by
  subst h
  intro pins s σ H x y v u Q I rx ry h
  obtain ⟨p, xs, e1, e2, e3, e4, q⟩ := h
  exact op_notIn_seq pins s σ H x y v u Q I rx ry ⟨p, xs, e1, e2, e3, e4, q _ rfl⟩
theorem all_take {α : Type} {f : α → Bool} {l : List α} {j : Nat} {c : α} (h : l[j]? = some c) : (l.take (j + 1)).map f = (l.take j).map f ++ [f c] := by
  rw [List.take_add_one, h, List.map_append]
  rfl
theorem ok_is_fact {f : Addr} {fd : FuncData} (F : Fun K "is_fact" "is_fact" s_is_fact f fd) (T : Txt mg) (c8 : ∃ t, mg "MAX_LETTERS" = some (.int 8 t)) : FnOk P w K mg base CX0 1 f fd ["value"] (spFact K) := by
  obtain ⟨t8, e8⟩ := c8
  refine F.ok sc_is_fact (fun vs H Q E h => ?_) (fun cdv A outer s H vs Q E hr h => ?_)
  · obtain ⟨v, rfl, _⟩ := h
    rfl
  · obtain ⟨v, rfl, hk, q⟩ := h
    refine ⟨_, (pss_cons (ps_if (PW.pt (pw_or (pt_not (pt_val (pe_callB (isiQ (K := K) rfl) (by rfl) T.isinstance_ (by decide +kernel) (pa_cons (pv 0) (pa_cons (pe_bltn (v := .ty "str") (by rfl) T.str_ (by decide +kernel) rfl) pa_nil))))) (pw_or1 (pt_not (pt_chain op_le op_le pe_int (pe_callB (lenQ (K := K) rfl) (by rfl) T.len_ (by decide +kernel) (pa_cons (pv 0) pa_nil)) (pe_glob (v := .int 8) rfl e8 ⟨_, rfl⟩))))))
  (pss_one (ps_ret pe_bl))
  pss_nil)
  (pss_one (ps_ret (pe_and (pe_cmpR (niB (K := K) rfl) (pv 0) (pe_tup (pa_cons pe_str (pa_cons pe_str pa_nil))) (by rfl)) (pe_one (pe_callB (allQ (K := K) rfl (by rfl)) (by rfl) T.all_ (by decide +kernel) (pa_cons (pe_lc (own := [("letter", 1)]) (g := gName 1) (by rfl) sc_is_fact.nd (pi_str (pv 0)) (blkOk_by (by kernel_rfl)) (fun _ _ _ _ _ => (pg_name (i := 1) sc_is_fact.nd rfl (.inl rfl))) (fun _ _ _ _ _ => pts_nil) (fun _ _ _ _ _ => (pe_chain op_le_str op_le_str pe_str (pv 1) pe_str))) pa_nil))))))), ?_⟩
    rcases hk with ⟨z, rfl, hz, _⟩ | ⟨hn, t, ty, ek⟩
    · refine ⟨_, rfl, .str z, .ty "str", .type "str", .type "str", true, rfl, .ty _, .base (.str z), kitStr, _, rfl, iteF ?_⟩
      refine ⟨_, rfl, .inr ⟨z, rfl, Nat.le_of_lt (small hz), 1, _, rfl, rfl, _, rfl, ite2 (fun h1 => ?_) (fun h1 => ?_)⟩⟩
      · refine ⟨_, 8, rfl, rfl, _, rfl, ?_⟩
        have h1' : (1 : Int) ≤ z.length := of_decide_eq_true h1
        by_cases h8 : (z.length : Int) ≤ 8
        · rw [decide_eq_true h8]
          refine iteF ?_
          refine ⟨_, rfl, lenOk 2, fun t nt => ⟨t, _, rfl, .inr (SqT.of upd_same), rfl, rfl, fun b hb => ⟨_, rfl, ?_⟩⟩⟩
          have s1 : Same H (upd H t (.tup [.str "yes", .str "no"])) := same_new nt
          rw [yesno] at hb
          cases b with
          | true =>
            refine iteF ?_
            have e : factV (.str z) = false := by
              show factS z = false
              unfold factS
              rcases (Bool.or_eq_true _ _).mp hb with h | h
              · rw [← of_decide_eq_true h]; rfl
              · rw [← of_decide_eq_true h]; rfl
            have q' := q _ s1
            rw [e] at q'
            exact q'
          | false =>
            refine iteT ?_
            obtain ⟨hb1, hb2⟩ := (Bool.or_eq_false_iff).mp hb
            refine ⟨_, rfl, z, rfl, fun D nD => ?_⟩
            have s2 := s1.trans (same_new (o := .lst []) nD)
            have nD1 : H D = none := s1.free nD
            refine lcS (fun j acc H2 => Same H H2 ∧ acc = ((z.cps.toList.take j).map low).map V.bl) ⟨s2, rfl⟩ ?_ ?_
            · rintro j c acc H2 hc hl e ⟨s3, ea⟩
              refine yesT ?_
              refine ⟨_, rfl, "a", _, rfl, rfl, _, rfl, ?_⟩
              rw [le_sign]
              have hj : j < 1000000 := by
                have := (Array.getElem?_eq_some_iff.mp hc).1
                have e2 : z.cps.size = z.length := rfl
                omega
              have fin : ∀ H4 b, H4 = H2 → b = low c → LcK (fun j acc H2 => Same H H2 ∧ acc = ((z.cps.toList.take j).map low).map V.bl) D j (.bl b) H4 := by
                rintro _ _ rfl rfl
                refine LcK.mk hl hj e ⟨fun b o eb => ?_, ?_⟩
                · rw [upd_ne (ne_of_none eb nD1)]
                  exact s3 b o eb
                · rw [ea, all_take (by rw [Array.getElem?_toList]; exact hc), List.map_append]
                  rfl
              refine ite2 (fun h1 => ?_) (fun h1 => ?_)
              · refine ⟨_, "z", rfl, rfl, ?_⟩
                rw [ge_sign]
                refine fin _ _ rfl ?_
                have h1' := of_decide_eq_true h1
                unfold low
                exact decide_eq_decide.mpr ⟨fun h => ⟨h1', h⟩, fun h => h.2⟩
              · refine fin _ _ rfl ?_
                have h1' : ¬ (97 ≤ c) := fun h => h1 (decide_eq_true h)
                unfold low
                exact (decide_eq_false (fun h => h1' h.1)).symm
            · rintro acc H2 hl e ⟨s3, ea⟩
              refine ⟨D, _, rfl, SqL.of (e.trans (by rw [ea])), ?_⟩
              have e2 : factV (.str z) = ((z.cps.toList.take z.cps.size).map low).all id := by
                show factS z = _
                unfold factS
                rw [decide_eq_true (show 1 ≤ z.length ∧ z.length ≤ 8 from ⟨by omega, by omega⟩), decide_eq_false (fun h => of_decide_eq_false hb1 h.symm), decide_eq_false (fun h => of_decide_eq_false hb2 h.symm)]
                rw [List.take_of_length_le (by rw [Array.length_toList]; exact Nat.le_refl _), List.all_map]
                rfl
              have q' := q _ s3
              rw [e2] at q'
              exact q'
        · rw [decide_eq_false h8]
          refine iteT ?_
          have e : factV (.str z) = false := by
            show factS z = false
            unfold factS
            rw [decide_eq_false (fun h => h8 (by omega))]
            rfl
          have q' := q _ (Same.refl H)
          rw [e] at q'
          exact q'
      · refine ⟨_, rfl, iteT ?_⟩
        have e : factV (.str z) = false := by
          show factS z = false
          unfold factS
          rw [decide_eq_false (fun h => h1 (decide_eq_true (by omega)))]
          rfl
        have q' := q _ (Same.refl H)
        rw [e] at q'
        exact q'
    · refine ⟨_, rfl, v, .ty "str", t, .type "str", false, rfl, .ty _, ty, ek, _, rfl, iteT ?_⟩
      have e : factV v = false := by
        cases v with
        | str z => exact absurd rfl (hn z)
        | _ => rfl
      have q' := q _ (Same.refl H)
      rw [e] at q'
      exact q'
end
def intV : V → Bool
  | .int i => decide ((if i < 0 then -i else i) < 10 ^ (60 : Int).toNat)
  | _ => false
def KindI (K : PySem.W.Frag) (H : Hp) (v : V) : Prop := (∃ i, v = .int i) ∨ (∃ b, v = .bl b) ∨ ((∀ i, v ≠ .int i) ∧ ∃ t, TyX K H v t ∧ PySem.W.kitOne K t (.type "int") = some false)
section
variable {P : Program} {w : World} {K : PySem.W.Frag} {mg : Str → Option Value} {base : Heap}
def spInteger (K : PySem.W.Frag) : Sp := fun vs H Q _ => ∃ v, vs = [v] ∧ KindI K H v ∧ Q (.bl (intV v)) H
theorem kitII {K : PySem.W.Frag} : PySem.W.kitOne K (.type "int") (.type "int") = some true := kit_ty (by decide +kernel)
theorem kitIB {K : PySem.W.Frag} : PySem.W.kitOne K (.type "int") (.type "bool") = some false := kit_ty (by decide +kernel)
theorem kitBI {K : PySem.W.Frag} : PySem.W.kitOne K (.type "bool") (.type "int") = some true := kit_ty (by decide +kernel)
theorem kitBB {K : PySem.W.Frag} : PySem.W.kitOne K (.type "bool") (.type "bool") = some true := kit_ty (by decide +kernel)
theorem ok_is_integer {f : Addr} {fd : FuncData} (F : Fun K "is_integer" "is_integer" s_is_integer f fd) (T : Txt mg) : FnOk P w K mg base CX0 1 f fd ["value"] (spInteger K) := by
  refine F.ok sc_is_integer (fun vs H Q E h => ?_) (fun cdv A outer s H vs Q E hr h => ?_)
  · obtain ⟨v, rfl, _⟩ := h
    rfl
  · obtain ⟨v, rfl, hk, q⟩ := h
    refine ⟨_, (pss_cons (ps_if (PW.pt (pw_or (pt_not (pt_val (pe_callB (isiQ (K := K) rfl) (by rfl) T.isinstance_ (by decide +kernel) (pa_cons (pv 0) (pa_cons (pe_bltn (v := .ty "int") (by rfl) T.int_ (by decide +kernel) rfl) pa_nil))))) (pw_or1 (pt_val (pe_callB (isiQ (K := K) rfl) (by rfl) T.isinstance_ (by decide +kernel) (pa_cons (pv 0) (pa_cons (pe_bltn (v := .ty "bool") (by rfl) T.bool_ (by decide +kernel) rfl) pa_nil)))))))
  (pss_one (ps_ret pe_bl))
  pss_nil)
  (pss_one (ps_ret (pe_cmpR op_lt (pe_callB call_abs (by rfl) T.abs_ (by decide +kernel) (pa_cons (pv 0) pa_nil)) (pe_op op_pow pe_int pe_int) (nomark _))))), ?_⟩
    rcases hk with ⟨i, rfl⟩ | ⟨b, rfl⟩ | ⟨hn, t, ty, ek⟩
    · refine ⟨_, rfl, .int i, .ty "int", .type "int", .type "int", true, rfl, .ty _, .base (.int i), kitII, _, rfl, iteF ?_⟩
      refine ⟨_, rfl, .int i, .ty "bool", .type "int", .type "bool", false, rfl, .ty _, .base (.int i), kitIB, _, rfl, iteF ?_⟩
      exact ⟨_, rfl, i, rfl, _, _, rfl, rfl, p60, _, _, rfl, rfl, q⟩
    · refine ⟨_, rfl, .bl b, .ty "int", .type "bool", .type "int", true, rfl, .ty _, .base (.bl b), kitBI, _, rfl, iteF ?_⟩
      exact ⟨_, rfl, .bl b, .ty "bool", .type "bool", .type "bool", true, rfl, .ty _, .base (.bl b), kitBB, _, rfl, iteT q⟩
    · refine ⟨_, rfl, v, .ty "int", t, .type "int", false, rfl, .ty _, ty, ek, _, rfl, iteT ?_⟩
      have e : intV v = false := by
        cases v with
        | int i => exact absurd rfl (hn i)
        | _ => rfl
      rw [e] at q
      exact q
end
end Eh
set_option Elab.async false
set_option linter.all false
set_option maxRecDepth 100000
namespace Eh
open PySem PySem.Spec PyProof.Rows L2
def Elt (K : PySem.W.Frag) (H : Hp) (v : V) : Prop := (∃ z, v = .str z ∧ Asc z) ∨ (∃ i, v = .int i) ∨ (∃ b, v = .bl b) ∨ v = .non ∨ ∃ a xs, v = .ref a ∧ SqT K H a xs
theorem ty_tup {K : PySem.W.Frag} {H : Hp} {a : Addr} {xs : List V} (h : SqT K H a xs) : TyX K H (.ref a) (.type "tuple") := by
  rcases h with (h | ⟨o, h⟩) | ⟨o, its, n, h, c, _⟩
  · exact .base (.tup h)
  · exact .fTuple h
  · exact .kTuple h c
theorem Elt.tk {K : PySem.W.Frag} {H H' : Hp} {v : V} (h : Elt K H v) (t : Tk H H') : Elt K H' v := by
  rcases h with h | h | h | h | ⟨a, xs, e, h⟩
  · exact .inl h
  · exact .inr (.inl h)
  · exact .inr (.inr (.inl h))
  · exact .inr (.inr (.inr (.inl h)))
  · exact .inr (.inr (.inr (.inr ⟨a, xs, e, t.seq h⟩)))
theorem Elt.kind {K : PySem.W.Frag} {H : Hp} {v : V} (h : Elt K H v) : Kind K H v := by
  rcases h with h | ⟨i, rfl⟩ | ⟨b, rfl⟩ | rfl | ⟨a, xs, rfl, h⟩
  · exact .inl h
  · exact .inr ⟨fun z e => (nomatch e), _, .base (.int i), kit_ty (by decide +kernel)⟩
  · exact .inr ⟨fun z e => (nomatch e), _, .base (.bl b), kit_ty (by decide +kernel)⟩
  · exact .inr ⟨fun z e => (nomatch e), _, .base .non, kit_ty (by decide +kernel)⟩
  · exact .inr ⟨fun z e => (nomatch e), _, ty_tup h, kit_ty (by decide +kernel)⟩
theorem Elt.kindI {K : PySem.W.Frag} {H : Hp} {v : V} (h : Elt K H v) : KindI K H v := by
  rcases h with ⟨z, rfl, _⟩ | ⟨i, rfl⟩ | ⟨b, rfl⟩ | rfl | ⟨a, xs, rfl, h⟩
  · exact .inr (.inr ⟨fun i e => (nomatch e), _, .base (.str z), kit_ty (by decide +kernel)⟩)
  · exact .inl ⟨i, rfl⟩
  · exact .inr (.inl ⟨b, rfl⟩)
  · exact .inr (.inr ⟨fun i e => (nomatch e), _, .base .non, kit_ty (by decide +kernel)⟩)
  · exact .inr (.inr ⟨fun i e => (nomatch e), _, ty_tup h, kit_ty (by decide +kernel)⟩)
def factKinds : List Str := ["fact", "not"]
def sureKinds : List Str := ["yes", "no"]
def zeroV : V → Bool
  | .int i => decide (i = 0)
  | _ => false
def fewV : V → Bool
  | .int i => decide (2 ≤ i) && decide (i ≤ 4)
  | _ => false
/-- whether a text and a value are a node -/
def nodeAB (k : Str) (b : V) : Bool :=
  if factKinds.contains k then factV b
  else if sureKinds.contains k then zeroV b
  else nodeKinds.contains k && fewV b
def pairNd (a b : V) : Option (Str × V) := match a with
  | .str k => if nodeAB k b = true then some (k, b) else none
  | _ => none
/-- the tuples stay, lists stay lists, dicts stay -/
structure Ku (H H' : Hp) : Prop where
  tk : Tk H H'
  ls : ∀ a xs, H a = some (.lst xs) → ∃ ys, H' a = some (.lst ys)
  dk : ∀ a kvs, H a = some (.dK kvs) → H' a = some (.dK kvs)
theorem ku_same {H H' : Hp} (s : Same H H') : Ku H H' := ⟨stk s, fun a xs e => ⟨xs, s _ _ e⟩, fun a kvs e => s _ _ e⟩
theorem Ku.trans {H H1 H2 : Hp} (a : Ku H H1) (b : Ku H1 H2) : Ku H H2 := ⟨a.tk.trans b.tk, fun p xs e => (a.ls p xs e).elim fun ys e => b.ls p ys e, fun p kvs e => b.dk _ _ (a.dk _ _ e)⟩
theorem Gr.ku {d : Addr} {H H' : Hp} (g : Gr d H H') (D : D3 H d) : Ku H H' := by
  refine ⟨g.tk D, fun a xs e => ?_, fun a kvs e => ?_⟩
  · by_cases z : a = d
    · obtain ⟨x, b, c, e'⟩ := g.dice
      exact ⟨_, by rw [z]; exact e'⟩
    · exact ⟨xs, g.keep a _ z e⟩
  · obtain ⟨x, b, c, e'⟩ := D
    exact g.keep a _ (fun z => by rw [z, e'] at e; cases e) e
theorem Ku.put {H : Hp} {l : Addr} {xs ys : List V} (e : H l = some (.lst xs)) : Ku H (upd H l (.lst ys)) := by
  refine ⟨Tk.put e, fun a zs h => ?_, fun a kvs h => ?_⟩
  · by_cases z : a = l
    · exact ⟨ys, by rw [z]; exact upd_same⟩
    · exact ⟨zs, by rw [upd_ne z]; exact h⟩
  · rw [upd_ne (fun z => by rw [z, e] at h; cases h)]
    exact h
/-- a value that is no tuple -/
def NoT (H : Hp) (v : V) : Prop := (∃ z, v = .str z) ∨ (∃ i, v = .int i) ∨ (∃ b, v = .bl b) ∨ v = .non ∨ (∃ a xs, v = .ref a ∧ H a = some (.lst xs)) ∨ ∃ a kvs, v = .ref a ∧ H a = some (.dK kvs)
theorem NoT.ku {H H' : Hp} {v : V} (h : NoT H v) (k : Ku H H') : NoT H' v := by
  rcases h with h | h | h | h | ⟨a, xs, e, h⟩ | ⟨a, kvs, e, h⟩
  · exact .inl h
  · exact .inr (.inl h)
  · exact .inr (.inr (.inl h))
  · exact .inr (.inr (.inr (.inl h)))
  · obtain ⟨ys, h⟩ := k.ls _ _ h
    exact .inr (.inr (.inr (.inr (.inl ⟨a, ys, e, h⟩))))
  · exact .inr (.inr (.inr (.inr (.inr ⟨a, kvs, e, k.dk _ _ h⟩))))
theorem NoT.ty {K : PySem.W.Frag} {H : Hp} {v : V} (h : NoT H v) : ∃ u, TyX K H v u ∧ PySem.W.kitOne K u (.type "tuple") = some false := by
  rcases h with ⟨z, rfl⟩ | ⟨i, rfl⟩ | ⟨b, rfl⟩ | rfl | ⟨a, xs, rfl, h⟩ | ⟨a, kvs, rfl, h⟩
  · exact ⟨_, .base (.str z), kit_ty (by decide +kernel)⟩
  · exact ⟨_, .base (.int i), kit_ty (by decide +kernel)⟩
  · exact ⟨_, .base (.bl b), kit_ty (by decide +kernel)⟩
  · exact ⟨_, .base .non, kit_ty (by decide +kernel)⟩
  · exact ⟨_, .base (.lst h), kit_ty (by decide +kernel)⟩
  · exact ⟨_, .base (.dK h), kit_ty (by decide +kernel)⟩
inductive NdV (K : PySem.W.Frag) (H : Hp) : V → Option (Str × V) → Prop
  | other {v : V} : NoT H v → NdV K H v none
  | tup {p : Addr} {xs : List V} : SqT K H p xs → xs.length ≠ 2 → xs.length < 1000000 → NdV K H (.ref p) none
  | pair {p : Addr} {a b : V} : SqT K H p [a, b] → Elt K H a → Elt K H b → NdV K H (.ref p) (pairNd a b)
theorem NdV.ku {K : PySem.W.Frag} {H H' : Hp} {v : V} {n : Option (Str × V)} (h : NdV K H v n) (k : Ku H H') : NdV K H' v n := by
  cases h with
  | other t => exact .other (t.ku k)
  | tup h n l => exact .tup (k.tk.seq h) n l
  | pair h a b => exact .pair (k.tk.seq h) (a.tk k.tk) (b.tk k.tk)
structure SignsAt (K : PySem.W.Frag) (w : World) (mg : Str → Option Value) (p : Addr) : Prop where
  g : mg "SIGNS" = some (.ref p)
  d : ∃ es n, KDict K w p es n ∧ ∀ z, ∃ r, PySem.W.nsIn K p z = some r ∧ r.isSome = nodeKinds.contains z
theorem signs_mk {K : PySem.W.Frag} {w : World} {mg : Str → Option Value} {p : Addr} {n : Nat} {h1 h2 h3 h4 : Int} {t1 t2 t3 t4 : Tok} {v1 v2 v3 v4 : Value} (g : mg "SIGNS" = some (.ref p))
    (l : K.lookup p = some ⟨.type "dict", none, .dict #[⟨h1, .str "all" t1, v1⟩, ⟨h2, .str "mine" t2, v2⟩, ⟨h3, .str "some" t3, v3⟩, ⟨h4, .str "yours" t4, v4⟩] n, #[]⟩)
    (hh : PySem.W.KeysLit w.params [⟨h1, .str "all" t1, v1⟩, ⟨h2, .str "mine" t2, v2⟩, ⟨h3, .str "some" t3, v3⟩, ⟨h4, .str "yours" t4, v4⟩]) (low : (p == sysModules) = false) : SignsAt K w mg p := by
  refine ⟨g, _, n, ⟨l, hh, low⟩, fun z => ?_⟩
  have c : nodeKinds.contains z = (("all" : Str) == z || (("some" : Str) == z || (("mine" : Str) == z || (("yours" : Str) == z || false)))) := (inV_strs z nodeKinds).symm
  rw [c]
  unfold PySem.W.nsIn
  rw [l]
  show ∃ r, (match List.find? (fun x => x.key.isStr z) [(⟨h1, .str "all" t1, v1⟩ : DictEntry), ⟨h2, .str "mine" t2, v2⟩, ⟨h3, .str "some" t3, v3⟩, ⟨h4, .str "yours" t4, v4⟩] with
          | some e => some (some e.val)
          | none => if (List.any [(⟨h1, .str "all" t1, v1⟩ : DictEntry), ⟨h2, .str "mine" t2, v2⟩, ⟨h3, .str "some" t3, v3⟩, ⟨h4, .str "yours" t4, v4⟩] fun x => x.refKey) = true then none else some none) = some r ∧ _
  have i (x : Str) (t : Tok) : (Value.str x t).isStr z = (x == z) := rfl
  cases e1 : (("all" : Str) == z) with
  | true => exact ⟨some v1, by simp only [List.find?_cons, i, e1], rfl⟩
  | false =>
    cases e2 : (("mine" : Str) == z) with
    | true => exact ⟨some v2, by simp only [List.find?_cons, i, e1, e2], by simp⟩
    | false =>
      cases e3 : (("some" : Str) == z) with
      | true => exact ⟨some v3, by simp only [List.find?_cons, i, e1, e2, e3], by simp⟩
      | false =>
        cases e4 : (("yours" : Str) == z) with
        | true => exact ⟨some v4, by simp only [List.find?_cons, i, e1, e2, e3, e4], by simp⟩
        | false => exact ⟨none, by simp only [List.find?_cons, i, e1, e2, e3, e4, List.find?_nil]; rfl, by simp⟩
section
variable {P : Program} {w : World} {K : PySem.W.Frag} {mg : Str → Option Value} {base : Heap}
def rInKd (p : Addr) : R2 := fun x y H Q => ∃ z : Str, x = .str z ∧ y = .ref p ∧ Q (.bl (nodeKinds.contains z)) H
theorem inKd {X : Cx} {p : Addr} (S : SignsAt K w mg p) (h : X.K = K) (hw : X.w = w) : OpR X (compareOp .In) (rInKd p) := by
  subst h hw
  obtain ⟨es, n, D, hz⟩ := S.d
  intro pins s σ H x y v u Q I rx ry ⟨z, e1, e2, q⟩
  obtain ⟨r, hr, hs⟩ := hz z
  exact op_in_kd D pins s σ H x y v u Q I rx ry ⟨z, r, e1, e2, hr, by rw [hs]; exact q⟩
def spIsNode (K : PySem.W.Frag) : Sp := fun vs H Q _ => ∃ v nd, vs = [v] ∧ NdV K H v nd ∧ ∀ H', Same H H' → Q (.bl nd.isSome) H'
theorem neSelf {A B : Prop} {v : V} (h : B) : if (!decide (v = v)) = true then A else B := by
  rw [decide_eq_true rfl]
  exact iteF h
theorem kitTT {K : PySem.W.Frag} : PySem.W.kitOne K (.type "tuple") (.type "tuple") = some true := kit_ty (by decide +kernel)
theorem intZ {i : Int} (h : i = 0) : intV (.int i) = true := by
  subst h
  decide +kernel
theorem intS {i : Int} (h : 2 ≤ i ∧ i ≤ 4) : intV (.int i) = true := by
  show decide _ = true
  rw [decide_eq_true_iff, show (10 : Int) ^ (60 : Int).toNat = 10 ^ 60 from rfl]
  split <;> omega
theorem elt_str {K : PySem.W.Frag} {H : Hp} {v : V} (h : Elt K H v) : (∃ z, v = .str z) ∨ ((∀ z, v ≠ .str z) ∧ ∃ t, TyX K H v t ∧ PySem.W.kitOne K t (.type "str") = some false) :=
  h.kind.imp (fun ⟨z, e, _⟩ => ⟨z, e⟩) id
theorem ok_is_node {fF fI p f : Addr} {fdF fdI fd : FuncData} (F : Fun K "is_node" "is_node" s_is_node f fd) (T : Txt mg) (S : SignsAt K w mg p) (c2 : ∃ t, mg "LEAST_PARTS" = some (.int 2 t)) (c4 : ∃ t, mg "MOST_PARTS" = some (.int 4 t))
    (C_is_fact : Cal P w K mg base 1 "is_fact" fF fdF ["value"] (spFact K)) (C_is_integer : Cal P w K mg base 1 "is_integer" fI fdI ["value"] (spInteger K)) : FnOk P w K mg base CX0 2 f fd ["value"] (spIsNode K) := by
  obtain ⟨t2, e2⟩ := c2
  obtain ⟨t4, e4⟩ := c4
  refine F.ok sc_is_node (fun vs H Q E h => ?_) (fun cdv A outer s H vs Q E hr h => ?_)
  · obtain ⟨v, nd, rfl, _⟩ := h
    rfl
  · obtain ⟨v, nd, rfl, hv, q⟩ := h
    refine ⟨_, (pss_cons (ps_if (PW.pt (pw_or (pt_not (pt_val (pe_callB (isiQ (K := K) rfl) (by rfl) T.isinstance_ (by decide +kernel) (pa_cons (pv 0) (pa_cons (pe_bltn (v := .ty "tuple") (by rfl) T.tuple_ (by decide +kernel) rfl) pa_nil))))) (pw_or1 (pt_cmpR op_ne (pe_callB (lenQ (K := K) rfl) (by rfl) T.len_ (by decide +kernel) (pa_cons (pv 0) pa_nil)) pe_int (nomark _)))))
  (pss_one (ps_ret pe_bl))
  pss_nil)
  (pss_cons (ps_asg (pv 0) (pg_tup (by rfl) (pgs_cons (pg_name (i := 1) sc_is_node.nd rfl (.inl rfl)) (pgs_cons (pg_name (i := 2) sc_is_node.nd rfl (.inl rfl)) pgs_nil))))
  (pss_cons (ps_if (pt_not (pt_val (pe_callB (isiQ (K := K) rfl) (by rfl) T.isinstance_ (by decide +kernel) (pa_cons (pv 1) (pa_cons (pe_bltn (v := .ty "str") (by rfl) T.str_ (by decide +kernel) rfl) pa_nil)))))
  (pss_one (ps_ret pe_bl))
  pss_nil)
  (pss_cons (ps_if (pt_cmpR (inQ (K := K) rfl) (pv 1) (pe_tup (pa_cons pe_str (pa_cons pe_str pa_nil))) (by rfl))
  (pss_one (ps_ret (pe_call C_is_fact.G hr (by rfl) C_is_fact.m C_is_fact.k C_is_fact.b .nil pass0 (pa_cons (pv 2) pa_nil))))
  pss_nil)
  (pss_cons (ps_if (pt_cmpR (inQ (K := K) rfl) (pv 1) (pe_tup (pa_cons pe_str (pa_cons pe_str pa_nil))) (by rfl))
  (pss_one (ps_ret (pe_and (pe_call C_is_integer.G hr (by rfl) C_is_integer.m C_is_integer.k C_is_integer.b .nil pass0 (pa_cons (pv 2) pa_nil)) (pe_one (pe_cmpR op_eq (pv 2) pe_int (nomark _))))))
  pss_nil)
  (pss_one (ps_ret (pe_and (pe_cmpR (inKd S rfl rfl) (pv 1) (pe_glob (v := .ref p) rfl S.g rfl) (by rfl)) (pe_and (pe_call C_is_integer.G hr (by rfl) C_is_integer.m C_is_integer.k C_is_integer.b .nil pass0 (pa_cons (pv 2) pa_nil)) (pe_one (pe_chain op_le op_le (pe_glob (v := .int 2) rfl e2 ⟨_, rfl⟩) (pv 2) (pe_glob (v := .int 4) rfl e4 ⟨_, rfl⟩)))))))))))), ?_⟩
    cases hv with
    | other hno =>
      obtain ⟨u, ty, hk⟩ := hno.ty (K := K)
      exact ⟨_, rfl, v, .ty "tuple", _, .type "tuple", false, rfl, .ty _, ty, hk, _, rfl, iteT (q _ (Same.refl H))⟩
    | tup hs hn hl =>
      rename_i p0 xs
      refine ⟨_, rfl, .ref p0, .ty "tuple", _, .type "tuple", true, rfl, .ty _, ty_tup hs, kitTT, _, rfl, iteF ⟨_, rfl, .inl ⟨p0, xs, rfl, .inr hs, ?_⟩⟩⟩
      refine ⟨rfl, _, rfl, ?_⟩
      rw [decide_eq_false (fun e => hn (by injection e with e; omega))]
      exact iteT (q _ (Same.refl H))
    | pair hs ha hb =>
      rename_i p0 a b
      refine ⟨_, rfl, .ref p0, .ty "tuple", _, .type "tuple", true, rfl, .ty _, ty_tup hs, kitTT, _, rfl, iteF ⟨_, rfl, .inl ⟨p0, _, rfl, .inr hs, ?_⟩⟩⟩
      refine ⟨rfl, _, rfl, neSelf ?_⟩
      refine ⟨_, rfl, p0, _, rfl, hs, rfl, _, _, rfl, _, _, rfl, rfl, ?_⟩
      rcases elt_str ha with ⟨k, rfl⟩ | ⟨hn, t, ty, ek⟩
      · refine ⟨_, rfl, .str k, .ty "str", .type "str", .type "str", true, rfl, .ty _, .base (.str k), kitStr, _, rfl, iteF ?_⟩
        refine ⟨_, rfl, lenOk 2, fun t1 n1 => ⟨t1, factKinds.map V.str, rfl, .inr (SqT.of upd_same), rfl, flat_strs _, _, rfl, ?_⟩⟩
        have s1 : Same H (upd H t1 (.tup (factKinds.map V.str))) := same_new n1
        have q : ∀ H', Same H H' → Q (.bl (nodeAB k b)) H' := fun H' s => by
          have e : (pairNd (.str k) b).isSome = nodeAB k b := by
            show (if nodeAB k b = true then some (k, b) else none).isSome = nodeAB k b
            cases nodeAB k b <;> rfl
          rw [← e]
          exact q H' s
        refine ite2 (fun h1 => ?_) (fun h1 => ?_)
        · have h1 : factKinds.contains k = true := (inV_strs k factKinds).symm.trans h1
          refine ⟨_, rfl, b, rfl, (hb.tk (stk s1)).kind, fun H' s2 => ?_⟩
          have q' := q H' (s1.trans s2)
          unfold nodeAB at q'
          rw [if_pos h1] at q'
          exact q'
        have h1 : ¬ factKinds.contains k = true := fun z => h1 ((inV_strs k factKinds).trans z)
        refine ⟨_, rfl, lenOk 2, fun t3 n3 => ⟨t3, sureKinds.map V.str, rfl, .inr (SqT.of upd_same), rfl, flat_strs _, _, rfl, ?_⟩⟩
        have s3 : Same H _ := s1.trans (same_new (o := .tup (sureKinds.map V.str)) n3)
        refine ite2 (fun h2 => ?_) (fun h2 => ?_)
        · have h2 : sureKinds.contains k = true := (inV_strs k sureKinds).symm.trans h2
          have q' := q _ s3
          unfold nodeAB at q'
          rw [if_neg h1, if_pos h2] at q'
          refine ⟨_, rfl, b, rfl, (hb.tk (stk s3)).kindI, _, rfl, ?_⟩
          cases ei : intV b with
          | false =>
            refine iteF ?_
            have e : zeroV b = false := by
              cases b with
              | int i => exact decide_eq_false fun z => by rw [intZ z] at ei; cases ei
              | _ => rfl
            rw [e] at q'
            exact q'
          | true =>
            refine iteT ?_
            cases b with
            | int i =>
              refine ⟨_, rfl, rfl, ?_⟩
              have e : decide ((V.int i) = V.int 0) = decide (i = 0) := decide_eq_decide.mpr ⟨fun z => by injection z, fun z => by rw [z]⟩
              rw [e]
              exact q'
            | _ => cases ei
        have h2 : ¬ sureKinds.contains k = true := fun z => h2 ((inV_strs k sureKinds).trans z)
        have q' := q _ s3
        unfold nodeAB at q'
        rw [if_neg h1, if_neg h2] at q'
        refine ⟨_, rfl, k, rfl, rfl, _, rfl, ?_⟩
        cases ek : nodeKinds.contains k with
        | false =>
          rw [ek] at q'
          exact iteF q'
        | true =>
          rw [ek, Bool.true_and] at q'
          refine iteT ?_
          refine ⟨_, rfl, b, rfl, (hb.tk (stk s3)).kindI, _, rfl, ?_⟩
          cases ei : intV b with
          | false =>
            refine iteF ?_
            have e : fewV b = false := by
              cases b with
              | int i =>
                show (decide (2 ≤ i) && decide (i ≤ 4)) = false
                rw [Bool.and_eq_false_iff]
                by_cases h : 2 ≤ i
                · by_cases h' : i ≤ 4
                  · rw [intS ⟨h, h'⟩] at ei
                    cases ei
                  · exact .inr (decide_eq_false h')
                · exact .inl (decide_eq_false h)
              | _ => rfl
            rw [e] at q'
            exact q'
          | true =>
            refine iteT ?_
            cases b with
            | int i =>
              have q' : Q (.bl (decide (2 ≤ i) && decide (i ≤ 4))) _ := q'
              refine ⟨_, rfl, 2, i, rfl, rfl, _, rfl, ?_⟩
              cases e2 : decide ((2 : Int) ≤ i) with
              | true =>
                refine iteT ⟨i, 4, rfl, rfl, ?_⟩
                rw [e2, Bool.true_and] at q'
                exact q'
              | false =>
                rw [e2] at q'
                exact iteF q'
            | _ => cases ei
      · refine ⟨_, rfl, a, .ty "str", t, .type "str", false, rfl, .ty _, ty, ek, _, rfl, iteT ?_⟩
        have e : pairNd a b = none := by
          unfold pairNd
          split
          · exact absurd rfl (hn _)
          · rfl
        have q' := q _ (Same.refl H)
        rw [e] at q'
        exact q'
end
end Eh
set_option Elab.async false
set_option linter.all false
set_option maxRecDepth 100000
namespace Eh
open PySem PySem.Spec PyProof.Rows L2
def intOf : V → Int
  | .int i => i
  | _ => 0
/-- how many parts a node has -/
def partsN (n : Str × V) : Nat := if nodeKinds.contains n.1 = true then (intOf n.2).toNat else 0
/-- whether nodes are those of so many promises -/
def dueGo : Nat → List (Str × V) → Bool
  | l, [] => decide (l = 0)
  | 0, _ :: _ => false
  | l + 1, n :: ns => dueGo (l + partsN n) ns
def GoodN (ns : List (Str × V)) : Prop := ∀ n ∈ ns, nodeAB n.1 n.2 = true
theorem node_not_fact {k : Str} (h : nodeKinds.contains k = true) : factKinds.contains k = false ∧ sureKinds.contains k = false := by
  rcases node_cases h with rfl | rfl | rfl | rfl <;> exact ⟨by decide +kernel, by decide +kernel⟩
theorem good_int {k : Str} {t : V} (h : nodeAB k t = true) (hk : nodeKinds.contains k = true) : ∃ i : Int, t = .int i ∧ 2 ≤ i ∧ i ≤ 4 := by
  unfold nodeAB at h
  rw [(node_not_fact hk).1, (node_not_fact hk).2, hk] at h
  have h : fewV t = true := by simpa using h
  cases t with
  | int i =>
    have h : (decide (2 ≤ i) && decide (i ≤ 4)) = true := h
    rw [Bool.and_eq_true] at h
    exact ⟨i, rfl, of_decide_eq_true h.1, of_decide_eq_true h.2⟩
  | _ => cases h
theorem sum_set {pre : List Int} {x : Int} : (pre ++ [x]).sum = pre.sum + x := by
  rw [List.sum_append]
  simp
theorem ixN_last (n : Nat) : ixN (n + 1) (-1) = some n := by
  unfold ixN
  rw [if_neg (by omega), if_pos (by omega)]
  congr 1
  omega
theorem drop_at {α : Type} {l : List α} {i : Nat} {x : α} (h : l[i]? = some x) : l.drop i = x :: l.drop (i + 1) := by
  obtain ⟨hl, e⟩ := List.getElem?_eq_some_iff.mp h
  rw [List.drop_eq_getElem_cons hl, e]
/-- a stack of counts -/
def Stk (st : List Int) : Prop := ∀ x ∈ st, 0 ≤ x
theorem Stk.sum {st : List Int} (h : Stk st) : 0 ≤ st.sum := by
  induction st with
  | nil => exact Int.le_refl 0
  | cons a r ih =>
    rw [List.sum_cons]
    have := h a List.mem_cons_self
    have := ih fun x hx => h x (List.mem_cons_of_mem _ hx)
    omega
theorem map_last (pre : List Int) (x : Int) : (pre ++ [x]).map V.int = pre.map V.int ++ [V.int x] := by
  rw [List.map_append]
  rfl
theorem set_last (pre : List Int) (x y : Int) : (pre.map V.int ++ [V.int x]).set pre.length (V.int y) = (pre ++ [y]).map V.int := by
  rw [map_last, List.set_append_right _ _ (by rw [List.length_map]; exact Nat.le_refl _), List.length_map, Nat.sub_self]
  rfl
theorem due_step {s : Int} {n : Str × V} {ns : List (Str × V)} (h : 1 ≤ s) : dueGo s.toNat (n :: ns) = dueGo (s - 1 + partsN n).toNat ns := by
  have e : s.toNat = (s - 1).toNat + 1 := by omega
  rw [e, dueGo]
  congr 1
  omega
theorem last_or {st : List Int} : st = [] ∨ ∃ pre x, st = pre ++ [x] := by
  rcases List.eq_nil_or_concat st with h | ⟨pre, x, h⟩
  · exact .inl h
  · exact .inr ⟨pre, x, by rw [h, List.concat_eq_append]⟩
section
variable {P : Program} {w : World} {K : PySem.W.Frag} {mg : Str → Option Value} {base : Heap}
def spDepth (K : PySem.W.Frag) : Sp := fun vs H Q _ => ∃ p xs ns, vs = [.ref p] ∧ SqT K H p xs ∧ NdsAt K H xs ns ∧ GoodN ns ∧ xs.length < 1000 ∧
  ∀ (dd : Int) H', Same H H' → (1 ≤ dd ↔ dueGo 1 ns = true) → dd ≤ 1 + countIn nodeKinds ns → Q (.int dd) H'
theorem ok_depth_of {p0 f : Addr} {fd : FuncData} (F : Fun K "depth_of" "depth_of" s_depth_of f fd) (T : Txt mg) (S : SignsAt K w mg p0) : FnOk P w K mg base CX0 1 f fd ["nodes"] (spDepth K) := by
  refine F.ok sc_depth_of (fun vs H Q E h => ?_) (fun cdv A outer s H vs Q E hr h => ?_)
  · obtain ⟨p, xs, ns, rfl, _⟩ := h
    rfl
  · obtain ⟨p, xs, ns, rfl, hS, hN, hg, hlen, q⟩ := h
    refine ⟨_, (pss_cons (ps_set (i := 1) sc_depth_of.nd rfl (.inl rfl) (pe_lst (pa_cons pe_int pa_nil)))
  (pss_cons (ps_set (i := 2) sc_depth_of.nd rfl (.inl rfl) pe_int)
  (pss_cons (ps_for PassesOwn.never (by rfl) (pi_tup (pv 0)) (pg_tup (by rfl) (pgs_cons (pg_name (i := 3) sc_depth_of.nd rfl (.inl rfl)) (pgs_cons (pg_name (i := 4) sc_depth_of.nd rfl (.inl rfl)) pgs_nil)))
  (pss_cons (ps_while PassesOwn.never (PW.pt (pw_and (pt_truth (pv 1) (by intro _; rfl)) (pw_and1 (pt_cmpR op_eq (pe_ix (ixL (K := K) rfl) (pv 1) (pe_un un_neg pe_int) (fun _ _ => rfl)) pe_int (nomark _)))))
  (pss_one (ps_expr (bm0K (K := K) rfl (pe_bm0 PySem.F.plainAttrs_list PySem.F.slot_list_pop PySem.F.type_list_pop mt_pop (pv 1))))))
  (pss_cons (ps_if (pt_not (pt_truth (pv 1) (by intro _; rfl)))
  (pss_one (ps_ret pe_int))
  pss_nil)
  (pss_cons (ps_asg (pe_op op_sub (pe_ix (ixL (K := K) rfl) (pv 1) (pe_un un_neg pe_int) (fun _ _ => rfl)) pe_int) (pg_sub (pv 1) (pe_un un_neg pe_int) set_list))
  (pss_cons (ps_set (i := 2) sc_depth_of.nd rfl (.inl rfl) (pe_callB (call_max2 (by rfl)) (by rfl) T.max_ (by decide +kernel) (pa_cons (pv 2) (pa_cons (pe_callB (lenQ (K := K) rfl) (by rfl) T.len_ (by decide +kernel) (pa_cons (pv 1) pa_nil)) pa_nil))))
  (pss_one (ps_if (pt_cmpR (inKd S rfl rfl) (pv 3) (pe_glob (v := .ref p0) rfl S.g rfl) (by rfl))
  (pss_one (ps_expr (bmK (K := K) rfl (pe_bm PySem.F.plainAttrs_list PySem.F.slot_list_append PySem.F.type_list_append mt_append (pv 1) (pa_cons (pv 4) pa_nil)))))
  pss_nil)))))))
  (pss_one (ps_ret (pe_ifExp (pt_cmpR op_eq (pe_callB (cr_sum (by rfl)) (by rfl) T.sum_ (by decide +kernel) (pa_cons (pv 1) pa_nil)) pe_int (nomark _)) (pv 2) pe_int)))))), ?_⟩
    refine ⟨lenOk 1, fun l nl => ?_⟩
    have s1 : Same H (upd H l (.lst [.int 1])) := same_new nl
    have hxn := hN.length
    refine ⟨_, rfl, p, rfl, ⟨xs, (stk s1).seq hS⟩, for_tup (K := K) (a := p) (xs := xs) (fun i σ H2 => ∃ (st : List Int) (dp : Int) (x3 x4 : Option V), σ = [some (.ref p), some (.ref l), some (.int dp), x3, x4] ∧ Same H H2 ∧ H2 l = some (.lst (st.map V.int)) ∧ Stk st ∧
      dueGo 1 ns = dueGo st.sum.toNat (ns.drop i) ∧ (st.length : Int) ≤ 1 + countIn nodeKinds (ns.take i) ∧ dp ≤ 1 + countIn nodeKinds (ns.take i) ∧ (1 ≤ dp ∨ 0 < st.sum) ∧ st.length ≤ i + 1 ∧ (i = 0 → dp = 0)) ?_ (fun i σ H2 _ h => ?_) ?_ ?_⟩
    · refine ⟨[1], 0, none, none, rfl, s1, upd_same, ?_, rfl, ?_, ?_, .inr (by decide), Nat.le_refl _, fun _ => rfl⟩
      · intro x hx
        rw [List.mem_singleton.mp hx]
        decide
      · show (1 : Int) ≤ 1 + _
        omega
      · omega
    · obtain ⟨st, dp, x3, x4, _, s2, _⟩ := h
      exact (stk s2).seq hS
    · rintro i x σ H2 hi ⟨st, dp, x3, x4, rfl, s2, e2, hst, hdue, hsl, hdp, hor, hsi, _⟩
      obtain ⟨a, k, t, rfl, hk, ha⟩ := hN.get hi
      have hgn := hg _ (List.mem_of_getElem? hk)
      have hi9 : i < 1000 := by
        have := (List.getElem?_eq_some_iff.mp hi).1
        omega
      refine ⟨a, _, rfl, (stk s2).seq ha, rfl, _, _, rfl, _, _, rfl, rfl, ?_⟩
      refine ⟨fun m σ H3 => ∃ st' : List Int, m = st'.length ∧ σ = [some (.ref p), some (.ref l), some (.int dp), some (.str k), some t] ∧ Same H H3 ∧ H3 l = some (.lst (st'.map V.int)) ∧ Stk st' ∧ st'.sum = st.sum ∧ st'.length ≤ st.length, ⟨_, st, rfl, rfl, s2, e2, hst, rfl, Nat.le_refl _⟩, ?_⟩
      rintro m σ H3 ⟨st', rfl, rfl, s3, e3, hst', hsum, hl'⟩
      have nH : H l = none := nl
      have keep : ∀ {H' : Hp} {o : HO}, Same H H' → Same H (upd H' l o) := fun {H' o} s b u eb => by
        rw [upd_ne (ne_of_none eb nH)]
        exact s b u eb
      have dr := drop_at hk
      rcases last_or (st := st') with rfl | ⟨pre, x, rfl⟩
      · -- nothing is missing any more
        refine ⟨_, rfl, false, .inl ⟨[], SqL.of e3, rfl⟩, ?_⟩
        refine iteF ?_
        refine ⟨_, rfl, false, .inl ⟨[], SqL.of e3, rfl⟩, ?_⟩
        refine iteT ?_
        refine q 0 H3 s3 ⟨fun z => by omega, fun z => ?_⟩ (by omega)
        rw [hdue, ← hsum, dr] at z
        cases z
      · rw [map_last] at e3
        have hx0 : 0 ≤ x := hst' x (List.mem_append_right _ List.mem_cons_self)
        have hpre : Stk pre := fun y hy => hst' y (List.mem_append_left _ hy)
        have hsum : pre.sum + x = st.sum := by rw [← hsum, sum_set]
        have hl' : pre.length + 1 ≤ st.length := by rw [List.length_append] at hl'; exact hl'
        refine ⟨_, rfl, true, .inl ⟨_, SqL.of e3, by simp⟩, iteT ⟨_, rfl, _, rfl, l, _, (-1), .int x, rfl, rfl, SqL.of e3, atI_last, rfl, _, rfl, ?_⟩⟩
        by_cases hx : V.int x = V.int 0
        · rw [decide_eq_true hx]
          have hx : x = 0 := by injection hx
          refine iteT ⟨_, fun σ' H' h => h, ?_⟩
          refine ⟨_, rfl, .inl ⟨rfl, _, SqL.of e3⟩, l, _, .int x, rfl, rfl, e3, ?_, ?_⟩
          · rw [List.length_append, List.length_singleton, Nat.add_sub_cancel]
            exact List.getElem?_concat_length
          · rw [List.dropLast_concat]
            exact ⟨pre.length, by rw [List.length_append]; exact Nat.lt_succ_self _, pre, rfl, rfl, keep s3, upd_same, hpre, by omega, by omega⟩
        · rw [decide_eq_false hx]
          have hx : x ≠ 0 := fun e => hx (by rw [e])
          refine iteF ?_
          refine ⟨_, rfl, true, .inl ⟨_, SqL.of e3, by simp⟩, iteF ?_⟩
          refine ⟨_, rfl, _, rfl, l, _, (-1), .int x, rfl, rfl, SqL.of e3, atI_last, _, _, rfl, rfl, ?_⟩
          refine ⟨_, rfl, _, rfl, l, _, (-1), pre.length, rfl, rfl, e3, ?_, ?_⟩
          · rw [List.length_append, List.length_map]
            exact ixN_last _
          rw [set_last]
          have s4 : Same H (upd H3 l (.lst ((pre ++ [x - 1]).map V.int))) := keep s3
          have hst4 : Stk (pre ++ [x - 1]) := fun y hy => by
            rcases List.mem_append.mp hy with h | h
            · exact hpre y h
            · rw [List.mem_singleton.mp h]
              omega
          have hps := hpre.sum
          refine ⟨_, rfl, _, rfl, .inl ⟨l, _, rfl, .inl (SqL.of upd_same), _, _, rfl, ?_⟩⟩
          obtain ⟨d2, ed, hd1, hd2⟩ : ∃ d2 : Int, (if (((pre ++ [x - 1]).map V.int).length : Int) > dp then (((pre ++ [x - 1]).map V.int).length : Int) else dp) = d2 ∧ 1 ≤ d2 ∧ d2 ≤ 1 + countIn nodeKinds (ns.take i) := by
            refine ⟨_, rfl, ?_⟩
            rw [List.length_map, List.length_append, List.length_singleton]
            split <;> omega
          rw [ed]
          have ct : countIn nodeKinds (ns.take (i + 1)) = countIn nodeKinds (ns.take i) + countIn nodeKinds [(k, t)] := by rw [take_succ' hk, countIn_app]
          refine ⟨_, rfl, k, rfl, rfl, _, rfl, ?_⟩
          cases ek : nodeKinds.contains k with
          | true =>
            obtain ⟨ti, rfl, ht2, ht4⟩ := good_int hgn ek
            rw [countIn_one, if_pos ek] at ct
            refine iteT ⟨_, rfl, .inl ⟨rfl, _, SqL.of upd_same⟩, _, rfl, l, _, .int ti, rfl, rfl, upd_same, small (by rw [List.length_map, List.length_append, List.length_singleton]; omega), ?_⟩
            rw [← map_last]
            refine ⟨(pre ++ [x - 1]) ++ [ti], d2, _, _, rfl, keep s4, upd_same, ?_, ?_, ?_, ?_, ?_, ?_, fun e => by omega⟩
            · intro y hy
              rcases List.mem_append.mp hy with h | h
              · exact hst4 y h
              · rw [List.mem_singleton.mp h]
                omega
            · rw [hdue, dr, ← hsum, due_step (by omega), sum_set, sum_set]
              congr 2
              unfold partsN
              rw [if_pos ek]
              show pre.sum + x - 1 + ((ti.toNat : Nat) : Int) = _
              omega
            · rw [List.length_append, List.length_append, List.length_singleton, List.length_singleton]
              omega
            · omega
            · exact .inl hd1
            · rw [List.length_append, List.length_append, List.length_singleton, List.length_singleton]
              omega
          | false =>
            rw [countIn_one, if_neg (by rw [ek]; exact Bool.false_ne_true)] at ct
            refine iteF ⟨pre ++ [x - 1], d2, _, _, rfl, s4, upd_same, hst4, ?_, ?_, ?_, ?_, ?_, fun e => by omega⟩
            · rw [hdue, dr, ← hsum, due_step (by omega), sum_set]
              congr 2
              unfold partsN
              rw [if_neg (by rw [ek]; exact Bool.false_ne_true)]
              show pre.sum + x - 1 + 0 = _
              omega
            · rw [List.length_append, List.length_singleton]
              omega
            · omega
            · exact .inl hd1
            · rw [List.length_append, List.length_singleton]
              omega
    · rintro σ H2 ⟨st, dp, x3, x4, rfl, s2, e2, hst, hdue, hsl, hdp, hor, hsi, h0⟩
      refine ⟨_, rfl, l, st, rfl, SqL.of e2, rfl, _, rfl, ?_⟩
      rw [hxn, List.drop_length] at hdue
      rw [hxn, List.take_length] at hsl hdp
      have hs := hst.sum
      have hd : dueGo 1 ns = decide (st.sum.toNat = 0) := hdue
      refine ite2 (fun h => ?_) (fun h => ?_)
      · have h : V.int st.sum = V.int 0 := of_decide_eq_true h
        have h : st.sum = 0 := by injection h
        refine ⟨_, rfl, q dp H2 s2 ⟨fun _ => by rw [hd]; exact decide_eq_true (by omega), fun _ => by omega⟩ hdp⟩
      · have h : st.sum ≠ 0 := fun e => h (decide_eq_true (by rw [e]))
        exact q 0 H2 s2 ⟨fun z => by omega, fun z => by rw [hd] at z; have := of_decide_eq_true z; omega⟩ (by omega)
end
end Eh
set_option Elab.async false
set_option linter.all false
set_option maxRecDepth 100000
namespace Eh
open PySem PySem.Spec PyProof.Rows L2
/-- the facts of nodes -/
def factsN (ns : List (Str × V)) : List Str := ns.filterMap fun n => if factKinds.contains n.1 = true then (match n.2 with | .str z => some z | _ => none) else none
theorem good_fact {k : Str} {t : V} (h : nodeAB k t = true) (hk : factKinds.contains k = true) : ∃ z, t = .str z ∧ factS z = true := by
  unfold nodeAB at h
  rw [if_pos hk] at h
  cases t with
  | str z => exact ⟨z, rfl, h⟩
  | _ => cases h
theorem factsN_one {k : Str} {t : V} {z : Str} (hk : factKinds.contains k = true) (ht : t = .str z) : factsN [(k, t)] = [z] := by
  subst ht
  unfold factsN
  simp only [List.filterMap_cons, hk, if_true, List.filterMap_nil]
theorem factsN_none {k : Str} {t : V} (hk : factKinds.contains k = false) : factsN [(k, t)] = [] := by
  unfold factsN
  simp only [List.filterMap_cons, hk, Bool.false_eq_true, if_false, List.filterMap_nil]
theorem factsN_app (a b : List (Str × V)) : factsN (a ++ b) = factsN a ++ factsN b := by
  unfold factsN
  rw [List.filterMap_append]
theorem pgT {X : Cx} {K : PySem.W.Frag} {es : List Expr} {k : Nat} {pos : Pos} {t : TGs} {n : Nat} (h : X.K = K) (hc : X.calm = true) (hp : PGs X es t)
    (hn : (assignEach es X.env).length = n := by rfl) (hst : (assignEach es X.env).findIdx? (·.1) = none := by rfl) : PG X (.Tuple es k pos) (gTup K n t) := by
  subst h
  exact pg_tup hc hp hn hst
theorem mem_put (x z : Str) (ts : List Str) : x ∈ put z ts ↔ x = z ∨ x ∈ ts := by
  unfold put
  split
  · rename_i h
    exact ⟨.inr, fun e => e.elim (fun e => by rw [e]; exact h) id⟩
  · rw [List.mem_cons]
theorem nodup_put {z : Str} {ts : List Str} (h : ts.Nodup) : (put z ts).Nodup := by
  unfold put
  split
  · exact h
  · rename_i n
    exact List.nodup_cons.mpr ⟨n, h⟩
section
variable {P : Program} {w : World} {K : PySem.W.Frag} {mg : Str → Option Value} {base : Heap}
def spFacts (K : PySem.W.Frag) : Sp := fun vs H Q _ => ∃ p xs ns, vs = [.ref p] ∧ SqT K H p xs ∧ NdsAt K H xs ns ∧ GoodN ns ∧ xs.length < 60 ∧
  ∀ (ys : List Str) p' H', Same H H' → H p' = none → H' p' = some (.tup (ys.map V.str)) → ys.Nodup → sortedS ys = true → (∀ z, z ∈ ys ↔ z ∈ factsN ns) → Q (.ref p') H'
theorem ok_facts_of {f : Addr} {fd : FuncData} (F : Fun K "facts_of" "facts_of" s_facts_of f fd) (T : Txt mg) : FnOk P w K mg base CX0 1 f fd ["nodes"] (spFacts K) := by
  refine F.ok sc_facts_of (fun vs H Q E h => ?_) (fun cdv A outer s H vs Q E hr h => ?_)
  · obtain ⟨p, xs, ns, rfl, _⟩ := h
    rfl
  · obtain ⟨p, xs, ns, rfl, hS, hN, hg, hlen, q⟩ := h
    refine ⟨_, (pss_one (ps_ret (pe_callTy call_tuple_of (by rfl) T.tuple_ (by decide +kernel) (pa_cons (pe_callB (sortX (by rfl)) (by rfl) T.sorted_ (by decide +kernel) (pa_cons (pe_sc (own := [("kind", 1), ("told", 2)]) (g := gTup K 2 (gCons (gName 1) (gCons (gName 2) gNil))) (by rfl) sc_facts_of.nd (pi_tup (pv 0)) (blkOk_by (by kernel_rfl)) (fun _ _ _ _ _ => (pgT (K := K) rfl (by rfl) (pgs_cons (pg_name (i := 1) sc_facts_of.nd rfl (.inl rfl)) (pgs_cons (pg_name (i := 2) sc_facts_of.nd rfl (.inl rfl)) pgs_nil)))) (fun _ _ _ _ _ => (pts_one (pt_cmpR (inQ (K := K) rfl) (pv 1) (pe_tup (pa_cons pe_str (pa_cons pe_str pa_nil))) (by rfl)))) (fun _ _ _ _ _ => (pv 2))) pa_nil)) pa_nil)))), ?_⟩
    have hxn := hN.length
    refine ⟨_, rfl, p, rfl, ⟨xs, hS⟩, fun D nD => ?_⟩
    have s1 : Same H (upd H D (SetX w D [])) := same_new nD
    refine scTg (K := K) (a := p) (xs := xs) (fun j ts H2 => Same H H2 ∧ ts.Nodup ∧ ∀ z, z ∈ ts ↔ z ∈ factsN (ns.take j)) ⟨s1, List.nodup_nil, fun z => Iff.rfl⟩ (fun j ts H2 h => (stk h.1).seq hS) ?_ ?_
    · rintro j x ts H2 hx hl e ⟨s2, nd, hm⟩
      obtain ⟨a, k, t, rfl, hk, ha⟩ := hN.get hx
      have hgn := hg _ (List.mem_of_getElem? hk)
      have hj : j < 60 := by
        have := (List.getElem?_eq_some_iff.mp hx).1
        omega
      have et : factsN (ns.take (j + 1)) = factsN (ns.take j) ++ factsN [(k, t)] := by rw [take_succ' hk, factsN_app]
      have nDH : H D = none := nD
      refine ⟨a, _, rfl, (stk s2).seq ha, rfl, _, _, rfl, _, _, rfl, rfl, rfl, ?_⟩
      refine ⟨_, rfl, lenOk 2, fun t1 n1 => ⟨t1, factKinds.map V.str, rfl, .inr (SqT.of upd_same), rfl, flat_strs _, _, rfl, ?_⟩⟩
      have s3 : Same H (upd H2 t1 (.tup (factKinds.map V.str))) := s2.trans (same_new n1)
      have e3 := same_new (o := .tup (factKinds.map V.str)) n1 _ _ e
      cases ek : factKinds.contains k with
      | true =>
        obtain ⟨z, rfl, _⟩ := good_fact hgn ek
        rw [factsN_one ek rfl] at et
        refine iteT' ((inV_strs k factKinds).trans ek) ⟨_, rfl, ScK.mk hl (by omega) e3 ⟨fun b o eb => ?_, nodup_put nd, fun y => ?_⟩⟩
        · rw [upd_ne (ne_of_none eb nDH)]
          exact s3 b o eb
        · rw [mem_put, et, List.mem_append, List.mem_singleton, hm y, or_comm]
      | false =>
        rw [factsN_none ek, List.append_nil] at et
        exact iteF' ((inV_strs k factKinds).trans ek) ⟨ts, by omega, e3, s3, nd, fun y => by rw [et]; exact hm y⟩
    · rintro ts H2 hl e ⟨s2, nd, hm⟩
      refine ⟨D, ts, rfl, e, nd, by omega, fun ys p2 hp hs n2 => ?_⟩
      have s3 := s2.trans (same_new (o := .lst (ys.map V.str)) n2)
      refine ⟨p2, _, rfl, .inl ⟨SqL.of upd_same, fun p3 n3 => ?_⟩⟩
      rw [hxn, List.take_length] at hm
      exact q ys p3 _ (s3.trans (same_new n3)) (s3.free n3) upd_same (hp.nodup_iff.mpr nd) hs fun z => by rw [hp.mem_iff]; exact hm z
def spChoices (K : PySem.W.Frag) : Sp := fun vs H Q _ => ∃ p xs ns, vs = [.ref p] ∧ SqT K H p xs ∧ NdsAt K H xs ns ∧ xs.length < 1000 ∧ ∀ H', Same H H' → Q (.int (countIn choiceKinds ns)) H'
theorem ok_choices_of {f : Addr} {fd : FuncData} (F : Fun K "choices_of" "choices_of" s_choices_of f fd) (T : Txt mg) : FnOk P w K mg base CX0 1 f fd ["nodes"] (spChoices K) := by
  refine F.ok sc_choices_of (fun vs H Q E h => ?_) (fun cdv A outer s H vs Q E hr h => ?_)
  · obtain ⟨p, xs, ns, rfl, _⟩ := h
    rfl
  · obtain ⟨p, xs, ns, rfl, hS, hN, hlen, q⟩ := h
    refine ⟨_, (pss_one (ps_ret (pe_callB (lenQ (K := K) rfl) (by rfl) T.len_ (by decide +kernel) (pa_cons (pe_lc (own := [("kind", 1), ("_", 2)]) (g := gTup K 2 (gCons (gName 1) (gCons (gName 2) gNil))) (by rfl) sc_choices_of.nd (pi_tup (pv 0)) (blkOk_by (by kernel_rfl)) (fun _ _ _ _ _ => (pgT (K := K) rfl (by rfl) (pgs_cons (pg_name (i := 1) sc_choices_of.nd rfl (.inl rfl)) (pgs_cons (pg_name (i := 2) sc_choices_of.nd rfl (.inl rfl)) pgs_nil)))) (fun _ _ _ _ _ => (pts_one (pt_cmpR (inQ (K := K) rfl) (pv 1) (pe_tup (pa_cons pe_str (pa_cons pe_str pa_nil))) (by rfl)))) (fun _ _ _ _ _ => (pv 1))) pa_nil)))), ?_⟩
    have hxn := hN.length
    refine ⟨_, rfl, p, rfl, ⟨xs, hS⟩, fun D nD => ?_⟩
    have s1 : Same H (upd H D (.lst [])) := same_new nD
    refine lcTg (K := K) (a := p) (xs := xs) (fun j acc H2 => Same H H2 ∧ acc.length = countIn choiceKinds (ns.take j)) ⟨s1, rfl⟩ (fun j ts H2 h => (stk h.1).seq hS) ?_ ?_
    · rintro j x acc H2 hx hl e ⟨s2, hm⟩
      obtain ⟨a, k, t, rfl, hk, ha⟩ := hN.get hx
      have hj : j < 1000 := by
        have := (List.getElem?_eq_some_iff.mp hx).1
        omega
      have et : countIn choiceKinds (ns.take (j + 1)) = countIn choiceKinds (ns.take j) + countIn choiceKinds [(k, t)] := by rw [take_succ' hk, countIn_app]
      have nDH : H D = none := nD
      refine ⟨a, _, rfl, (stk s2).seq ha, rfl, _, _, rfl, _, _, rfl, rfl, rfl, ?_⟩
      refine ⟨_, rfl, lenOk 2, fun t1 n1 => ⟨t1, choiceKinds.map V.str, rfl, .inr (SqT.of upd_same), rfl, flat_strs _, _, rfl, ?_⟩⟩
      have s3 : Same H (upd H2 t1 (.tup (choiceKinds.map V.str))) := s2.trans (same_new n1)
      have e3 := same_new (o := .tup (choiceKinds.map V.str)) n1 _ _ e
      cases ek : choiceKinds.contains k with
      | true =>
        rw [countIn_one, if_pos ek] at et
        refine iteT' ((inV_strs k choiceKinds).trans ek) ⟨_, rfl, LcK.mk hl (by omega) e3 ⟨fun b o eb => ?_, ?_⟩⟩
        · rw [upd_ne (ne_of_none eb nDH)]
          exact s3 b o eb
        · rw [List.length_append, hm, et]
          rfl
      | false =>
        rw [countIn_one, if_neg (by rw [ek]; exact Bool.false_ne_true)] at et
        exact iteF' ((inV_strs k choiceKinds).trans ek) ⟨acc, by omega, e3, s3, by rw [et]; exact hm⟩
    · rintro acc H2 hl e ⟨s2, hm⟩
      refine .inl ⟨D, acc, rfl, .inl (SqL.of e), ?_⟩
      rw [hxn, List.take_length] at hm
      rw [hm]
      exact q H2 s2
end
end Eh
set_option Elab.async false
set_option linter.all false
set_option maxRecDepth 100000
namespace Eh
open PySem PySem.Spec PyProof.Rows L2
inductive NdAll (K : PySem.W.Frag) (H : Hp) : List V → List (Option (Str × V)) → Prop
  | nil : NdAll K H [] []
  | cons {v : V} {vs : List V} {n : Option (Str × V)} {ns : List (Option (Str × V))} : NdV K H v n → NdAll K H vs ns → NdAll K H (v :: vs) (n :: ns)
theorem NdAll.length {K : PySem.W.Frag} {H : Hp} : ∀ {vs : List V} {ns : List (Option (Str × V))}, NdAll K H vs ns → vs.length = ns.length
  | _, _, .nil => rfl
  | _, _, .cons _ r => by rw [List.length_cons, List.length_cons, r.length]
theorem NdAll.get {K : PySem.W.Frag} {H : Hp} : ∀ {vs : List V} {ns : List (Option (Str × V))}, NdAll K H vs ns → ∀ {i : Nat} {v : V}, vs[i]? = some v → ∃ n, ns[i]? = some n ∧ NdV K H v n
  | _, _, .nil, i, v, h => by simp at h
  | _, _, .cons (v := x) (n := n) hp r, 0, v, h => by
    cases (show some x = some v from h)
    exact ⟨n, rfl, hp⟩
  | _, _, .cons hp r, i + 1, v, h => r.get (i := i) h
theorem NdAll.ku {K : PySem.W.Frag} {H H' : Hp} (k : Ku H H') : ∀ {vs : List V} {ns : List (Option (Str × V))}, NdAll K H vs ns → NdAll K H' vs ns
  | _, _, .nil => .nil
  | _, _, .cons h r => .cons (h.ku k) (r.ku k)
/-- whether values are the nodes of a promise, bounds aside -/
def okNs (nds : List (Option (Str × V))) : Bool := nds.all Option.isSome && dueGo 1 (nds.filterMap id)
theorem all_some {nds : List (Option (Str × V))} (h : nds.all Option.isSome = true) : ∃ ns : List (Str × V), nds = ns.map some := by
  induction nds with
  | nil => exact ⟨[], rfl⟩
  | cons n r ih =>
    rw [List.all_cons, Bool.and_eq_true] at h
    obtain ⟨ns, e⟩ := ih h.2
    cases n with
    | none => cases h.1
    | some x => exact ⟨x :: ns, by rw [e]; rfl⟩
theorem filterMap_some (ns : List (Str × V)) : (ns.map some).filterMap id = ns := by
  induction ns with
  | nil => rfl
  | cons a r ih =>
    show a :: _ = a :: r
    rw [show List.filterMap id (List.map some r) = r from ih]
theorem pairNd_some {a b : V} {n : Str × V} (h : pairNd a b = some n) : a = .str n.1 ∧ b = n.2 ∧ nodeAB n.1 n.2 = true := by
  unfold pairNd at h
  split at h
  · split at h
    · rename_i g
      cases h
      exact ⟨rfl, rfl, g⟩
    · cases h
  · cases h
theorem NdAll.nds {K : PySem.W.Frag} {H : Hp} : ∀ {vs : List V} {ns : List (Str × V)}, NdAll K H vs (ns.map some) → NdsAt K H vs ns ∧ GoodN ns
  | vs, [], h => by
    cases h
    exact ⟨.nil, fun _ h => nomatch h⟩
  | vs, n :: ns, h => by
    generalize e : (n :: ns).map some = m at h
    cases h with
    | nil => cases e
    | cons hv hr =>
      injection e with e1 e2
      subst e2
      obtain ⟨r1, r2⟩ := hr.nds
      cases hv with
      | other _ => cases e1
      | tup _ _ _ => cases e1
      | pair h a b =>
        obtain ⟨ea, eb, g⟩ := pairNd_some e1.symm
        subst ea eb
        exact ⟨.cons h r1, fun x hx => (List.mem_cons.mp hx).elim (fun e => by rw [e]; exact g) (r2 x)⟩
theorem countIn_mono {ws us : List Str} (h : ∀ k, ws.contains k = true → us.contains k = true) : ∀ ns : List (Str × V), countIn ws ns ≤ countIn us ns
  | [] => Nat.le_refl _
  | n :: ns => by
    have ih := countIn_mono h ns
    rw [show n :: ns = [(n.1, n.2)] ++ ns from rfl, countIn_app, countIn_app, countIn_one, countIn_one]
    by_cases c : ws.contains n.1 = true
    · rw [if_pos c, if_pos (h _ c)]
      omega
    · rw [if_neg c]
      omega
theorem choice_inner {k : Str} (h : choiceKinds.contains k = true) : nodeKinds.contains k = true := choice_node h
theorem due_inner : ∀ {ns : List (Str × V)} {l : Nat}, GoodN ns → dueGo l ns = true → 2 * countIn nodeKinds ns + l ≤ ns.length
  | [], l, _, h => by
    have h : decide (l = 0) = true := h
    have h := of_decide_eq_true h
    show 2 * 0 + l ≤ 0
    omega
  | n :: ns, 0, _, h => by cases h
  | n :: ns, l + 1, g, h => by
    have ih := due_inner (fun x hx => g x (List.mem_cons_of_mem _ hx)) (show dueGo (l + partsN n) ns = true from h)
    rw [show countIn nodeKinds (n :: ns) = countIn nodeKinds ([(n.1, n.2)] ++ ns) from rfl, countIn_app, countIn_one, List.length_cons]
    unfold partsN at ih
    by_cases c : nodeKinds.contains n.1 = true
    · rw [if_pos c] at ih ⊢
      obtain ⟨i, e, h2, h4⟩ := good_int (g n List.mem_cons_self) c
      rw [e] at ih
      have : (intOf (.int i)).toNat = i.toNat := rfl
      omega
    · rw [if_neg c] at ih ⊢
      omega
theorem not_due_of {nds : List (Option (Str × V))} {ns : List (Str × V)} (e : nds = ns.map some) : okNs nds = dueGo 1 ns := by
  subst e
  unfold okNs
  rw [filterMap_some, show (ns.map some).all Option.isSome = true from by rw [List.all_map]; exact List.all_eq_true.mpr fun _ _ => rfl, Bool.true_and]
theorem nodup_le : ∀ {ys us : List Str}, ys.Nodup → (∀ z ∈ ys, z ∈ us) → ys.length ≤ us.length
  | [], us, _, _ => Nat.zero_le _
  | a :: r, us, nd, h => by
    have ha := h a List.mem_cons_self
    obtain ⟨n1, n2⟩ := List.nodup_cons.mp nd
    have ih := nodup_le (us := us.erase a) n2 fun z hz => (List.mem_erase_of_ne (fun e => n1 (by rw [← e]; exact hz))).mpr (h z (List.mem_cons_of_mem _ hz))
    rw [List.length_erase_of_mem ha] at ih
    have := List.length_pos_of_mem ha
    rw [List.length_cons]
    omega
section
variable {P : Program} {w : World} {K : PySem.W.Frag} {mg : Str → Option Value} {base : Heap}
/-- the nodes of a value: none, where it is no tuple -/
inductive NodesV (K : PySem.W.Frag) (H : Hp) : V → List (Option (Str × V)) → Bool → Prop
  | other {v : V} : NoT H v → NodesV K H v [] false
  | tup {p : Addr} {xs : List V} {nds : List (Option (Str × V))} : SqT K H p xs → NdAll K H xs nds → NodesV K H (.ref p) nds (okNs nds)
theorem NodesV.ku {H H' : Hp} {v : V} {nds : List (Option (Str × V))} {b : Bool} (h : NodesV K H v nds b) (k : Ku H H') : NodesV K H' v nds b := by
  cases h with
  | other t => exact .other (t.ku k)
  | tup h n => exact .tup (k.tk.seq h) (n.ku k)
/-- few enough, and with few facts -/
structure Few (nds : List (Option (Str × V))) (b : Bool) : Prop where
  len : nds.length < 60
  short : nds.length ≤ 15 ∨ b = false
  facts : ∀ ns, nds = ns.map some → ∀ z ∈ factsN ns, z ∈ uni6
def spAre (K : PySem.W.Frag) : Sp := fun vs H Q _ => ∃ v nds b, vs = [v] ∧ NodesV K H v nds b ∧ Few nds b ∧ ∀ H', Same H H' → Q (.bl b) H'
theorem ok_are_nodes {fN fF fC fD f : Addr} {fdN fdF fdC fdD fd : FuncData} (F : Fun K "_are_nodes" "_are_nodes" s__are_nodes f fd) (T : Txt mg)
    (c40 : ∃ t, mg "MAX_NODES" = some (.int 40 t)) (c6 : ∃ t, mg "MAX_FACTS" = some (.int 6 t)) (c10 : ∃ t, mg "MAX_CHOICES" = some (.int 10 t)) (c8 : ∃ t, mg "MAX_DEPTH" = some (.int 8 t))
    (C_is_node : Cal P w K mg base 2 "is_node" fN fdN ["value"] (spIsNode K)) (C_facts_of : Cal P w K mg base 1 "facts_of" fF fdF ["nodes"] (spFacts K)) (C_choices_of : Cal P w K mg base 1 "choices_of" fC fdC ["nodes"] (spChoices K)) (C_depth_of : Cal P w K mg base 1 "depth_of" fD fdD ["nodes"] (spDepth K)) :
    FnOk P w K mg base CX0 3 f fd ["value"] (spAre K) := by
  obtain ⟨t40, e40⟩ := c40
  obtain ⟨t6, e6⟩ := c6
  obtain ⟨t10, e10⟩ := c10
  obtain ⟨t8, e8⟩ := c8
  refine F.ok sc__are_nodes (fun vs H Q E h => ?_) (fun cdv A outer s H vs Q E hr h => ?_)
  · obtain ⟨v, nds, b, rfl, _⟩ := h
    rfl
  · obtain ⟨v, nds, b, rfl, hv, few, q⟩ := h
    have hr1 := hr.mono (j := 1) (by omega)
    refine ⟨_, (pss_cons (ps_if (PW.pt (pw_or (pt_not (pt_val (pe_callB (isiQ (K := K) rfl) (by rfl) T.isinstance_ (by decide +kernel) (pa_cons (pv 0) (pa_cons (pe_bltn (v := .ty "tuple") (by rfl) T.tuple_ (by decide +kernel) rfl) pa_nil))))) (pw_or1 (pt_cmpR op_gt (pe_callB (lenQ (K := K) rfl) (by rfl) T.len_ (by decide +kernel) (pa_cons (pv 0) pa_nil)) (pe_glob (v := .int 40) rfl e40 ⟨_, rfl⟩) (nomark _)))))
  (pss_one (ps_ret pe_bl))
  pss_nil)
  (pss_cons (ps_if (pt_not (pt_val (pe_callB (allQ (K := K) rfl (by rfl)) (by rfl) T.all_ (by decide +kernel) (pa_cons (pe_lc (own := [("node", 1)]) (g := gName 1) (by rfl) sc__are_nodes.nd (pi_tup (pv 0)) (blkOk_by (by kernel_rfl)) (fun _ _ _ _ _ => (pg_name (i := 1) sc__are_nodes.nd rfl (.inl rfl))) (fun _ _ _ _ _ => pts_nil) (fun _ _ _ _ _ => (pe_call C_is_node.G hr (by rfl) C_is_node.m C_is_node.k C_is_node.b .nil pass0 (pa_cons (pv 1) pa_nil)))) pa_nil))))
  (pss_one (ps_ret pe_bl))
  pss_nil)
  (pss_cons (ps_if (PW.pt (pw_or (pt_cmpR op_gt (pe_callB (lenQ (K := K) rfl) (by rfl) T.len_ (by decide +kernel) (pa_cons (pe_call C_facts_of.G hr1 (by rfl) C_facts_of.m C_facts_of.k C_facts_of.b .nil pass0 (pa_cons (pv 0) pa_nil)) pa_nil)) (pe_glob (v := .int 6) rfl e6 ⟨_, rfl⟩) (nomark _)) (pw_or1 (pt_cmpR op_gt (pe_call C_choices_of.G hr1 (by rfl) C_choices_of.m C_choices_of.k C_choices_of.b .nil pass0 (pa_cons (pv 0) pa_nil)) (pe_glob (v := .int 10) rfl e10 ⟨_, rfl⟩) (nomark _)))))
  (pss_one (ps_ret pe_bl))
  pss_nil)
  (pss_one (ps_ret (pe_chain op_le op_le pe_int (pe_call C_depth_of.G hr1 (by rfl) C_depth_of.m C_depth_of.k C_depth_of.b .nil pass0 (pa_cons (pv 0) pa_nil)) (pe_glob (v := .int 8) rfl e8 ⟨_, rfl⟩))))))), ?_⟩
    cases hv with
    | other hno =>
      obtain ⟨u, ty, hk⟩ := hno.ty (K := K)
      exact ⟨_, rfl, v, .ty "tuple", _, .type "tuple", false, rfl, .ty _, ty, hk, _, rfl, iteT (q _ (Same.refl H))⟩
    | tup hs hn =>
      rename_i p xs
      have hlen := hn.length
      have hx60 := few.len
      refine ⟨_, rfl, .ref p, .ty "tuple", _, .type "tuple", true, rfl, .ty _, ty_tup hs, kitTT, _, rfl, iteF ⟨_, rfl, .inl ⟨p, xs, rfl, .inr hs, _, 40, rfl, rfl, _, rfl, ite2 (fun h => ?_) (fun h => ?_)⟩⟩⟩
      · have h : (40 : Int) < xs.length := of_decide_eq_true h
        have eb : okNs nds = false := few.short.resolve_left (by omega)
        have q' := q _ (Same.refl H)
        rw [eb] at q'
        exact q'
      refine ⟨_, rfl, p, rfl, ⟨xs, hs⟩, fun D nD => ?_⟩
      have s1 : Same H (upd H D (.lst [])) := same_new nD
      refine lcT (K := K) (a := p) (xs := xs) (fun j acc H2 => Same H H2 ∧ acc = ((nds.take j).map Option.isSome).map V.bl) ⟨s1, rfl⟩ (fun j acc H2 h => (stk h.1).seq hs) ?_ ?_
      · rintro j x acc H2 hx hl e ⟨s2, ea⟩
        obtain ⟨n, en, hnd⟩ := hn.get hx
        have hj : j < 60 := by
          have := (List.getElem?_eq_some_iff.mp hx).1
          omega
        refine yesT ⟨_, rfl, x, n, rfl, hnd.ku (ku_same s2), fun H3 s3 => ?_⟩
        refine LcK.mk hl (by omega) (s3 _ _ e) ⟨fun b o eb => ?_, ?_⟩
        · rw [upd_ne (ne_of_none eb nD)]
          exact s3 _ _ (s2 b o eb)
        · rw [ea, take_succ' en, List.map_append, List.map_append]
          rfl
      · rintro acc H2 hl e ⟨s2, ea⟩
        refine ⟨D, _, rfl, SqL.of (e.trans (by rw [ea])), ?_⟩
        rw [hlen, List.take_length, List.all_map]
        cases ha : nds.all (id ∘ Option.isSome) with
        | false =>
          refine ⟨_, rfl, iteT ?_⟩
          have q' := q _ s2
          have eb : okNs nds = false := by
            unfold okNs
            rw [show nds.all Option.isSome = false from ha, Bool.false_and]
          rw [eb] at q'
          exact q'
        | true =>
          obtain ⟨ns, en⟩ := all_some ha
          have hok := not_due_of en
          rw [hok] at few q
          subst en
          obtain ⟨N, hg⟩ := hn.nds
          have hnl := N.length
          refine ⟨_, rfl, iteF ?_⟩
          refine ⟨_, rfl, p, xs, ns, rfl, (stk s2).seq hs, N.tk (stk s2), hg, by omega, fun ys p3 H3 s3 n3 e3 nd so mem => ?_⟩
          have hys : ys.length ≤ 6 := nodup_le nd fun z hz => few.facts ns rfl z ((mem z).mp hz)
          have s4 := s2.trans s3
          refine .inl ⟨p3, _, rfl, .inr (SqT.of e3), _, 6, rfl, rfl, _, rfl, ?_⟩
          rw [List.length_map, decide_eq_false (by omega)]
          refine iteF ?_
          refine ⟨_, rfl, p, xs, ns, rfl, (stk s4).seq hs, N.tk (stk s4), by omega, fun H5 s5 => ?_⟩
          have s6 := s4.trans s5
          have hc := countIn_mono (fun k h => choice_inner (k := k) h) ns
          have hdi := due_inner (l := 1) hg
          have hlen2 : xs.length = ns.length := hnl
          have hl3 : (ns.map some).length = ns.length := List.length_map ..
          have hsh := few.short
          rw [hl3] at hsh
          refine ⟨_, 10, rfl, rfl, _, rfl, ite2 (fun h => ?_) (fun h => ?_)⟩
          · have h : (10 : Int) < countIn choiceKinds ns := of_decide_eq_true h
            have eb : dueGo 1 ns = false := by
              cases e : dueGo 1 ns with
              | false => rfl
              | true =>
                have := hdi e
                rcases hsh with h15 | h15
                · omega
                · rw [e] at h15
                  cases h15
            have q' := q _ s6
            rw [eb] at q'
            exact q'
          refine ⟨_, rfl, p, xs, ns, rfl, (stk s6).seq hs, N.tk (stk s6), hg, by omega, fun dd H7 s7 d1 d2 => ?_⟩
          have q' := q _ (s6.trans s7)
          refine ⟨1, dd, rfl, rfl, _, rfl, ?_⟩
          cases e : dueGo 1 ns with
          | false =>
            rw [e] at q'
            rw [decide_eq_false (fun z => by have := d1.mp z; rw [e] at this; cases this)]
            exact iteF q'
          | true =>
            rw [e] at q'
            rw [decide_eq_true (d1.mpr e)]
            refine iteT ⟨dd, 8, rfl, rfl, ?_⟩
            have := hdi e
            have h8 : dd ≤ 8 := by
              rcases hsh with h15 | h15
              · omega
              · rw [e] at h15
                cases h15
            show Q (.bl (decide (dd ≤ 8))) H7
            rw [decide_eq_true h8]
            exact q'
end
end Eh
set_option Elab.async false
set_option linter.all false
set_option maxRecDepth 100000
namespace Eh
open PySem PySem.Spec PyProof.Rows L2
section
variable {X : Cx} {CX : CXT} {k : Nat} {f C : Addr} {fd : FuncData} {ps : List Str} {sp : Sp} {E : L2.St → XK} {x m : Str} {p pos apos : Pos} {e o : Expr} {es : List Expr} {ta : TE} {t : TA}
theorem run_makeS {pins : List (Addr × Obj)} {σ : L2.St} {H : Hp} {s : Shared} {Q : VK} {us : List Value} {vs : List V} (M : Mk X.K C f) (F : FnOk X.prog X.w X.K X.mg X.base CX k f fd ps sp) (hr : Room (k + 1) X.A) (hb : Binds X.K fd ps [])
    (hx : PassesAt CX X σ (E σ)) (I : Inv X pins σ H s) (r : Vals vs us)
    (h : ∀ x dx, H x = none → H dx = none → dx ≠ x → sp (.ref x :: vs) (upd (upd H dx (.own x)) x (.ins C dx [])) (fun v H2 => v = .non ∧ Q (.ref x) H2) (E σ)) :
    wpAny (model X.prog X.w) X.A (call (.ref C) us) (EP X pins σ Q) X.xe s := by
  have hq := h (s.heap.objs.size + 1) s.heap.objs.size (I.hok.fresh (Nat.le_succ _)) (I.hok.fresh (Nat.le_refl _)) (Nat.ne_of_lt (Nat.lt_succ_self _))
  have I2 := Inv.made (C := C) I
  have r2 : Vals (V.ref (s.heap.objs.size + 1) :: vs) (Value.ref (s.heap.objs.size + 1) :: us) := .cons rfl r
  have hl : (Value.ref (s.heap.objs.size + 1) :: us).length = ps.length := by
    have e := r2.length
    rw [F.len _ _ _ _ hq] at e
    exact e.symm
  have b := hb _ (Value.ref (s.heap.objs.size + 1) :: us) I2.kIn (by rw [List.append_nil]; exact hl)
  rw [List.append_nil] at b
  refine wpAny_call (make_map (f := f) I.kIn M.makes M.init (beq_iff_eq.mp M.fn) (codeAny_mono (F.run _ X.stack _ _ ⟨Value.ref (s.heap.objs.size + 1) :: us, []⟩ (Value.ref (s.heap.objs.size + 1) :: us) _ _ (E σ) (hr.make C us [])
    (I2.env0.make C us []) b r2 hq) fun r s' hq' => ?_))
  cases r with
  | error e => exact hx pins _ _ e s' I2 hq'
  | ok fl =>
    cases fl with
    | ret u =>
      obtain ⟨v, H', I3, rv, ev, q3⟩ := I2.after hq'
      subst ev
      exact ⟨rv, ⟨V.ref (s.heap.objs.size + 1), H', I3, rfl, q3⟩⟩
    | next => exact False.elim hq'
    | brk => exact False.elim hq'
    | cont => exact False.elim hq'
/-- C(e, ..), within a try -/
def tMakeS (C : Addr) (sp : Sp) (E : L2.St → XK) (t : TA) : TE := fun σ H Q => t σ H fun vs H1 => ∀ x dx, H1 x = none → H1 dx = none → dx ≠ x → sp (.ref x :: vs) (upd (upd H1 dx (.own x)) x (.ins C dx [])) (fun v H2 => v = .non ∧ Q (.ref x) H2) (E σ)
theorem pe_makeS (M : Mk X.K C f) (F : FnOk X.prog X.w X.K X.mg X.base CX k f fd ps sp) (hr : Room (k + 1) X.A) (hg : Gl X x) (hm : X.mg x = some (.ref C)) (hb : Binds X.K fd ps []) (hx : ∀ σ, PassesAt CX X σ (E σ))
    (ha : PA X (e :: es) t) (hdb : (x == ("__debug__" : Str)) = false := by decide) (he : starEach (e :: es) X.env = (false, eval e X.env) :: starEach es X.env := by rfl) (hpl : (backTo pos (starEach es X.env)).any (·.1) = false := by rfl) :
    PE X (.Call (.Name x p) (e :: es) [] pos) (tMakeS C sp E t) := by
  refine ⟨fun pins s σ H Q I h => ?_⟩
  refine wpAny_Call_Name_kw (ld_glob I hg hm ?_ hdb)
  refine PySem.W.callWith_K (h₀ := X.base) I.ok.mod.kin M.kp (thn (ha.run pos pins s σ H _ I h) fun us s1 ⟨vs, H1, I1, r, q⟩ => ⟨I1.kIn, ?_⟩) he hpl
  exact run_makeS M F hr hb (hx σ) I1 r q
end
end Eh
set_option Elab.async false
set_option linter.all false
set_option maxRecDepth 100000
namespace Eh
open PySem PySem.Spec PyProof.Rows L2
/-- what it takes to raise and to catch an own error without an __init__ -/
structure ErrC (K : PySem.W.Frag) (mg : Str → Option Value) (x : Str) (C : Addr) : Prop where
  g : mg x = some (.ref C)
  q : PySem.W.excIn K C [.type "ValueError", .type "Exception", .type "BaseException", .type "object"] "ValueError.__new__" = true
  k : PySem.W.keepIn K (.ref C) = true
  b : PySem.W.subIn K (.ref C) (.type "BaseException") = some true
  t : PySem.W.typeIn K (.ref C) = some (.type "type")
  e : PySem.W.exmOne K (.ref C) (.ref C) = some true
/-- the class Promise -/
structure PromC (K : PySem.W.Frag) (mg : Str → Option Value) (C fI fL : Addr) : Prop where
  g : mg "Promise" = some (.ref C)
  mkC : Mk K C fI
  cl : Cls K C
  nn : NoAttr K C "_nodes"
  ln : PySem.W.findIn K (.ref C) "__len__" = some (some (.ref fL))
  lf : PySem.W.isFn K (.ref fL) = true
section
variable {P : Program} {w : World} {K : PySem.W.Frag} {mg : Str → Option Value} {base : Heap}
/-- what stands stays, but the new object at x -/
def But (x : Addr) (H H' : Hp) : Prop := ∀ b o, b ≠ x → H b = some o → H' b = some o
def spInit (K : PySem.W.Frag) (C CE : Addr) : Sp := fun vs H Q E => ∃ x dx v nds b, vs = [.ref x, v] ∧ H x = some (.ins C dx []) ∧ NodesV K H v nds b ∧ Few nds b ∧
  (b = true → ∀ H', But x H H' → H' x = some (.ins C dx [(("_nodes" : Str), v)]) → Q .non H') ∧ (b = false → ∀ H', Same H H' → E (.ref CE) none H')
theorem ok_init {C fL CE fA f : Addr} {fdA fd : FuncData} (F : Fun K "__init__" "Promise.__init__" s_Promise___init__ f fd) (T : Txt mg) (R : ErrC K mg "InvalidPromise" CE) (PC : PromC K mg C f fL)
    (C__are_nodes : Cal P w K mg base 3 "_are_nodes" fA fdA ["value"] (spAre K)) : FnOk P w K mg base (L2.CX P w) 4 f fd ["self", "nodes"] (spInit K C CE) := by
  refine F.okX sc_Promise___init__ (fun vs H Q E h => ?_) (fun cdv A outer s H vs Q E hr h => ?_)
  · obtain ⟨x, dx, v, nds, b, rfl, _⟩ := h
    rfl
  · obtain ⟨x, dx, v, nds, b, rfl, ex, hv, few, q1, q2⟩ := h
    refine ⟨_, (pss_cons (ps_if (pt_not (pt_val (pe_call C__are_nodes.G hr (by rfl) C__are_nodes.m C__are_nodes.k C__are_nodes.b .nil pass0 (pa_cons (pv 1) pa_nil))))
      (pss_one (ps_raise rfl (takes_of rfl rfl rfl rfl) (pmk_own PySem.F.excBase_ValueError R.q R.g R.k (raises_own R.b R.t) rfl))) pss_nil)
      (pss_one (ps_fld (pv 0) (pv 1) rfl))), ?_⟩
    refine ⟨_, rfl, v, nds, b, rfl, hv, few, fun H1 s1 => ⟨_, rfl, ?_⟩⟩
    cases b with
    | false => exact iteT (q2 rfl H1 s1)
    | true =>
      refine iteF ?_
      refine ⟨_, rfl, _, rfl, x, C, dx, [], rfl, s1 _ _ ex, PC.cl, PC.nn, by decide, ?_⟩
      exact q1 rfl _ (fun b o n e => by rw [upd_ne n]; exact s1 b o e) upd_same
def spLen (K : PySem.W.Frag) (C : Addr) : Sp := fun vs H Q _ => ∃ x dx fs p xs, vs = [.ref x] ∧ H x = some (.ins C dx fs) ∧ fs.lookup ("_nodes" : Str) = some (.ref p) ∧ SqT K H p xs ∧ Q (.int xs.length) H
theorem ok_len {C fI f : Addr} {fd : FuncData} (F : Fun K "__len__" "Promise.__len__" s_Promise___len__ f fd) (T : Txt mg) (PC : PromC K mg C fI f) : FnOk P w K mg base CX0 1 f fd ["self"] (spLen K C) := by
  refine F.ok sc_Promise___len__ (fun vs H Q E h => ?_) (fun cdv A outer s H vs Q E hr h => ?_)
  · obtain ⟨x, dx, fs, p, xs, rfl, _⟩ := h
    rfl
  · obtain ⟨x, dx, fs, p, xs, rfl, ex, hl, hs, q⟩ := h
    refine ⟨_, (pss_one (ps_ret (pe_callB (lenQ (K := K) rfl) (by rfl) T.len_ (by decide +kernel) (pa_cons (pe_fld (pv 0) rfl) pa_nil)))), ?_⟩
    exact ⟨_, rfl, x, C, dx, fs, .ref p, rfl, ex, PC.cl, PC.nn, hl, .inl ⟨p, xs, rfl, .inr hs, q⟩⟩
end
end Eh
set_option Elab.async false
set_option linter.all false
set_option maxRecDepth 100000
set_option Elab.async false
set_option linter.all false
set_option maxRecDepth 100000
namespace Eh
open PySem PySem.Spec PyProof.Rows L2
def ascB (z : Str) : Bool := decide (z.length < 1000000) && z.cps.toList.all fun c => decide (c < 128)
theorem asc_of {z : Str} (h : ascB z = true) : Asc z := by
  unfold ascB at h
  rw [Bool.and_eq_true] at h
  exact ⟨of_decide_eq_true h.1, fun c hc => of_decide_eq_true (List.all_eq_true.mp h.2 c hc)⟩
theorem eltS {K : PySem.W.Frag} {H : Hp} (z : Str) (h : ascB z = true) : Elt K H (.str z) := .inl ⟨z, rfl, asc_of h⟩
theorem eltI {K : PySem.W.Frag} {H : Hp} (i : Int) : Elt K H (.int i) := .inr (.inl ⟨i, rfl⟩)
theorem eltB {K : PySem.W.Frag} {H : Hp} (b : Bool) : Elt K H (.bl b) := .inr (.inr (.inl ⟨b, rfl⟩))
theorem eltN {K : PySem.W.Frag} {H : Hp} : Elt K H .non := .inr (.inr (.inr (.inl rfl)))
def ToldOk (K : PySem.W.Frag) (H : Hp) (b : V) : Prop := Elt K H b ∧ ∀ z, b = .str z → factS z = true → z ∈ uni6
theorem ToldOk.tk {K : PySem.W.Frag} {H H' : Hp} {b : V} (h : ToldOk K H b) (t : Tk H H') : ToldOk K H' b := ⟨h.1.tk t, h.2⟩
theorem toldE {K : PySem.W.Frag} {H : Hp} {b : V} (h : Elt K H b) (n : ∀ z, b ≠ .str z) : ToldOk K H b := ⟨h, fun z e => absurd e (n z)⟩
/-- its told fact, if it is a node of one, is among six -/
def FactOk (n : Option (Str × V)) : Prop := ∀ k z, n = some (k, .str z) → z ∈ uni6
def BNode (K : PySem.W.Frag) (H : Hp) (v : V) : Prop := ∃ n, NdV K H v n ∧ FactOk n
theorem BNode.ku {K : PySem.W.Frag} {H H' : Hp} {v : V} (h : BNode K H v) (k : Ku H H') : BNode K H' v := by
  obtain ⟨n, a, b⟩ := h
  exact ⟨n, a.ku k, b⟩
theorem node_str {k z : Str} (h : nodeAB k (.str z) = true) : factS z = true := by
  unfold nodeAB at h
  split at h
  · exact h
  · split at h
    · cases h
    · rw [Bool.and_eq_true] at h
      cases h.2
def BAll (K : PySem.W.Frag) (H : Hp) (xs : List V) : Prop := ∀ v ∈ xs, BNode K H v
theorem BAll.ku {K : PySem.W.Frag} {H H' : Hp} {xs : List V} (h : BAll K H xs) (k : Ku H H') : BAll K H' xs := fun v hv => (h v hv).ku k
theorem facts_ok {nds : List (Option (Str × V))} (h : ∀ n ∈ nds, FactOk n) : ∀ ns : List (Str × V), nds = ns.map some → ∀ z ∈ factsN ns, z ∈ uni6 := fun ns e z hz => by
  unfold factsN at hz
  obtain ⟨⟨k, t⟩, hn, hf⟩ := List.mem_filterMap.mp hz
  have hm : some (k, t) ∈ nds := by rw [e]; exact List.mem_map_of_mem hn
  split at hf
  · cases t with
    | str y =>
      cases hf
      exact h _ hm k z rfl
    | _ => cases hf
  · cases hf
theorem few_of {nds : List (Option (Str × V))} (h : ∀ n ∈ nds, FactOk n) (l : nds.length ≤ 15) : Few nds (okNs nds) := ⟨by omega, .inl l, facts_ok h⟩
theorem ixN_nat {n a : Nat} (h : a < n) : ixN n (a : Int) = some a := by
  unfold ixN
  rw [if_pos (by omega), if_pos (by omega), Int.toNat_natCast]
theorem asc_uni {z : Str} (h : z ∈ uni6) : ascB z = true := by
  unfold uni6 at h
  simp only [List.mem_cons, List.not_mem_nil, or_false] at h
  rcases h with rfl | rfl | rfl | rfl | rfl | rfl <;> decide +kernel
theorem asc_kind {k : Str} {t : V} (h : nodeAB k t = true) : ascB k = true := by
  unfold nodeAB at h
  by_cases h1 : factKinds.contains k = true
  · unfold factKinds at h1
    rw [List.contains_iff_mem] at h1
    simp only [List.mem_cons, List.not_mem_nil, or_false] at h1
    rcases h1 with rfl | rfl <;> decide +kernel
  · rw [if_neg h1] at h
    by_cases h2 : sureKinds.contains k = true
    · unfold sureKinds at h2
      rw [List.contains_iff_mem] at h2
      simp only [List.mem_cons, List.not_mem_nil, or_false] at h2
      rcases h2 with rfl | rfl <;> decide +kernel
    · rw [if_neg h2, Bool.and_eq_true] at h
      rcases node_cases h.1 with rfl | rfl | rfl | rfl <;> decide +kernel
/-- a node of a promise, as it stands -/
theorem good_elt {K : PySem.W.Frag} {H : Hp} {k : Str} {t : V} (h : nodeAB k t = true) (hu : ∀ z, t = .str z → z ∈ uni6) : Elt K H (.str k) ∧ ToldOk K H t := by
  refine ⟨eltS k (asc_kind h), ?_⟩
  cases t with
  | str z => exact ⟨eltS z (asc_uni (hu z rfl)), fun y e _ => hu y e⟩
  | int i => exact toldE (eltI i) fun z e => nomatch e
  | bl b => exact toldE (eltB b) fun z e => nomatch e
  | non => exact toldE eltN fun z e => nomatch e
  | _ =>
    exfalso
    unfold nodeAB at h
    split at h
    · cases h
    · split at h
      · cases h
      · rw [Bool.and_eq_true] at h
        cases h.2
end Eh
set_option Elab.async false
set_option linter.all false
set_option maxRecDepth 100000
set_option maxHeartbeats 4000000
namespace Eh
open PySem PySem.Spec PyProof.Rows L2
theorem fact_uni {z : Str} (h : z ∈ uni6) : factS z = true := by
  unfold uni6 at h
  simp only [List.mem_cons, List.not_mem_nil, or_false] at h
  rcases h with rfl | rfl | rfl | rfl | rfl | rfl <;> decide +kernel
theorem leaf_good {k : Str} {t : V} (o : leafOk k t = true) (w : ∀ z, t = .str z → z ∈ uni6) : nodeAB k t = true ∧ partsN (k, t) = 0 := by
  unfold leafOk at o
  cases t with
  | str z =>
    have hz : factV (.str z) = true := fact_uni (w z rfl)
    rcases (Bool.or_eq_true _ _).mp o with h | h
    · rw [eq_of_beq h]
      exact ⟨by unfold nodeAB; rw [if_pos (by decide +kernel)]; exact hz, by unfold partsN; rw [if_neg (show ¬ nodeKinds.contains "fact" = true by decide +kernel)]⟩
    · rw [eq_of_beq h]
      exact ⟨by unfold nodeAB; rw [if_pos (by decide +kernel)]; exact hz, by unfold partsN; rw [if_neg (show ¬ nodeKinds.contains "not" = true by decide +kernel)]⟩
  | int i =>
    obtain ⟨h, h0⟩ := (Bool.and_eq_true _ _).mp o
    have h0 : i = 0 := of_decide_eq_true h0
    subst h0
    rcases (Bool.or_eq_true _ _).mp h with h | h
    · rw [eq_of_beq h]
      exact ⟨by decide +kernel, by decide +kernel⟩
    · rw [eq_of_beq h]
      exact ⟨by decide +kernel, by decide +kernel⟩
  | _ => cases o
theorem InW.left {ws : List Str} {a b : List (Str × V)} (h : InW ws (a ++ b)) : InW ws a := fun k z m => h k z (List.mem_append_left _ m)
theorem InW.right {ws : List Str} {a b : List (Str × V)} (h : InW ws (a ++ b)) : InW ws b := fun k z m => h k z (List.mem_append_right _ m)
mutual
theorem At.due {K : PySem.W.Frag} {H : Hp} : ∀ {v : V} {p : Pl}, At K H v p → InW uni6 (nodesOf p) → (∀ l rest, dueGo (l + 1) (nodesOf p ++ rest) = dueGo l rest) ∧ GoodN (nodesOf p)
  | _, _, .leaf (k := k) (t := t) h o, w => by
    rw [nodesOf] at w ⊢
    obtain ⟨g1, g2⟩ := leaf_good o fun z e => w k z (by rw [e]; exact List.mem_cons_self)
    refine ⟨fun l rest => ?_, fun n hn => ?_⟩
    · show dueGo (l + partsN (k, t)) rest = _
      rw [g2]
      rfl
    · rw [List.mem_singleton.mp hn]
      exact g1
  | _, _, .node (k := k) (ps := ps) h1 h2 o a b r, w => by
    rw [nodesOf] at w ⊢
    obtain ⟨g1, g2⟩ := AtAll.due r fun x z m => w x z (List.mem_cons_of_mem _ m)
    refine ⟨fun l rest => ?_, fun n hn => ?_⟩
    · show dueGo (l + partsN (k, .int (ps.length : Int))) (nodesAll ps ++ rest) = _
      have e : partsN (k, .int (ps.length : Int)) = ps.length := by
        unfold partsN
        rw [if_pos (show nodeKinds.contains k = true from o)]
        exact Int.toNat_natCast _
      rw [e]
      exact g1 l rest
    · rcases List.mem_cons.mp hn with e | e
      · rw [e]
        unfold nodeAB
        have f := node_not_fact (k := k) o
        rw [f.1, f.2, show nodeKinds.contains k = true from o]
        show (true && (decide ((2 : Int) ≤ ps.length) && decide ((ps.length : Int) ≤ 4))) = true
        rw [decide_eq_true (by omega), decide_eq_true (by omega)]
        rfl
      · exact g2 n e
theorem AtAll.due {K : PySem.W.Frag} {H : Hp} : ∀ {vs : List V} {ps : List Pl}, AtAll K H vs ps → InW uni6 (nodesAll ps) → (∀ l rest, dueGo (l + ps.length) (nodesAll ps ++ rest) = dueGo l rest) ∧ GoodN (nodesAll ps)
  | _, _, .nil, w => by
    rw [nodesAll]
    exact ⟨fun l rest => rfl, fun n h => nomatch h⟩
  | _, _, .cons (p := p) (ps := ps) h r, w => by
    rw [nodesAll] at w ⊢
    obtain ⟨a1, a2⟩ := At.due h w.left
    obtain ⟨b1, b2⟩ := AtAll.due r w.right
    refine ⟨fun l rest => ?_, fun n hn => (List.mem_append.mp hn).elim (a2 n) (b2 n)⟩
    rw [List.append_assoc, List.length_cons, show l + (ps.length + 1) = (l + ps.length) + 1 from rfl, a1, b1]
end
theorem nds_all {K : PySem.W.Frag} {H : Hp} : ∀ {xs : List V} {ns : List (Str × V)}, NdsAt K H xs ns → GoodN ns → InW uni6 ns → NdAll K H xs (ns.map some)
  | _, _, .nil, _, _ => .nil
  | _, _, .cons (k := k) (t := t) (ns := ns) h r, g, w => by
    have hg := g _ List.mem_cons_self
    obtain ⟨e1, e2⟩ := good_elt (K := K) (H := H) hg fun z e => w k z (by rw [show t = V.str z from e]; exact List.mem_cons_self)
    have e : pairNd (.str k) t = some (k, t) := by
      show (if nodeAB k t = true then some (k, t) else none) = _
      rw [if_pos hg]
    have p := NdV.pair h e1 e2.1
    rw [e] at p
    exact .cons p (nds_all r (fun n hn => g n (List.mem_cons_of_mem _ hn)) fun x z m => w x z (List.mem_cons_of_mem _ m))
theorem NdAll.app {K : PySem.W.Frag} {H : Hp} : ∀ {xs ys : List V} {a b : List (Option (Str × V))}, NdAll K H xs a → NdAll K H ys b → NdAll K H (xs ++ ys) (a ++ b)
  | _, _, _, _, .nil, h => h
  | _, _, _, _, .cons x r, h => .cons x (r.app h)
theorem fact_some {ns : List (Str × V)} (w : InW uni6 ns) : ∀ n ∈ ns.map some, FactOk n := fun n hn k z e => by
  obtain ⟨x, hx, rfl⟩ := List.mem_map.mp hn
  cases e
  exact w k z hx
/-- a value that is no promise's nodes -/
def Odd (K : PySem.W.Frag) (H : Hp) (v : V) : Prop := ∃ nds, NodesV K H v nds false ∧ Few nds false
theorem Odd.ku {K : PySem.W.Frag} {H H' : Hp} {v : V} (h : Odd K H v) (k : Ku H H') : Odd K H' v := by
  obtain ⟨nds, a, b⟩ := h
  exact ⟨nds, a.ku k, b⟩
end Eh
set_option Elab.async false
set_option linter.all false
set_option maxRecDepth 100000
namespace Eh
open PySem PySem.Spec PyProof.Rows L2
mutual
def depthOf : Pl → Nat
  | .leaf _ _ => 1
  | .node _ ps => 1 + depthAll ps
def depthAll : List Pl → Nat
  | [] => 0
  | p :: ps => max (depthOf p) (depthAll ps)
end
theorem at_good {K : PySem.W.Frag} {H : Hp} {v : V} {pl : Pl} (h : At K H v pl) (w : InW uni6 (nodesOf pl)) (l : (nodesOf pl).length ≤ 15) : dueGo 1 (nodesOf pl) = true ∧ GoodN (nodesOf pl) ∧ okNs ((nodesOf pl).map some) = true ∧ Few ((nodesOf pl).map some) true := by
  obtain ⟨du, gd⟩ := h.due w
  have hd : dueGo 1 (nodesOf pl) = true := by
    have := du 0 []
    rw [List.append_nil] at this
    exact this
  have ok : okNs ((nodesOf pl).map some) = true := by rw [not_due_of rfl]; exact hd
  have fw := few_of (nds := (nodesOf pl).map some) (fact_some w) (by rw [List.length_map]; exact l)
  rw [ok] at fw
  exact ⟨hd, gd, ok, fw⟩
end Eh
set_option Elab.async false
set_option linter.all false
set_option maxRecDepth 100000
namespace Eh
open PySem PySem.Spec PyProof.Rows L2
def signOf (k : Str) : Str := if k = "all" then " & " else if k = "mine" then " + " else if k = "some" then " | " else " * "
def brack (k : Str) (ts : List Str) : Str := if choiceKinds.contains k = true then "[" ++ Txt.join (signOf k) ts ++ "]" else "(" ++ Txt.join (signOf k) ts ++ ")"
def plainT (k : Str) (t : V) : Str := match t with
  | .str z => if k = "fact" then z else "!" ++ z
  | _ => k
mutual
def textOf : Pl → Str
  | .leaf k t => plainT k t
  | .node k ps => brack k (textAll ps)
def textAll : List Pl → List Str
  | [] => []
  | p :: ps => textOf p :: textAll ps
end
theorem textAll_length : ∀ ps : List Pl, (textAll ps).length = ps.length
  | [] => by rw [textAll]; rfl
  | p :: ps => by rw [textAll, List.length_cons, List.length_cons, textAll_length ps]
/-- what stands on the stack behind nodes, read from behind; the first on top -/
def stackT : List (Str × V) → List Str
  | [] => []
  | n :: ns => if nodeKinds.contains n.1 = true then brack n.1 ((stackT ns).take (partsN n)) :: (stackT ns).drop (partsN n) else plainT n.1 n.2 :: stackT ns
mutual
theorem At.stack {K : PySem.W.Frag} {H : Hp} : ∀ {v : V} {p : Pl}, At K H v p → ∀ rest, stackT (nodesOf p ++ rest) = textOf p :: stackT rest
  | _, _, .leaf (k := k) (t := t) h o, rest => by
    rw [nodesOf, textOf]
    show (if nodeKinds.contains k = true then _ else _) = _
    rw [if_neg]
    · rfl
    · intro z
      have h1 := leaf_kind o
      rw [node_kind z] at h1
      cases h1
  | _, _, .node (k := k) (ps := ps) h1 h2 o a b r, rest => by
    have ih := AtAll.stack r rest
    rw [nodesOf, textOf]
    show (if nodeKinds.contains k = true then brack k ((stackT (nodesAll ps ++ rest)).take (partsN (k, .int (ps.length : Int)))) :: (stackT (nodesAll ps ++ rest)).drop (partsN (k, .int (ps.length : Int))) else _) = _
    have e : partsN (k, .int (ps.length : Int)) = (textAll ps).length := by
      rw [textAll_length]
      unfold partsN
      rw [if_pos (show nodeKinds.contains k = true from o)]
      exact Int.toNat_natCast _
    rw [if_pos (show nodeKinds.contains k = true from o), ih, e, List.take_left, List.drop_left]
theorem AtAll.stack {K : PySem.W.Frag} {H : Hp} : ∀ {vs : List V} {ps : List Pl}, AtAll K H vs ps → ∀ rest, stackT (nodesAll ps ++ rest) = textAll ps ++ stackT rest
  | _, _, .nil, rest => by rw [nodesAll, textAll]; rfl
  | _, _, .cons (p := p) (ps := ps) h r, rest => by
    rw [nodesAll, textAll, List.append_assoc, At.stack h, AtAll.stack r]
    rfl
end
end Eh
set_option Elab.async false
set_option linter.all false
set_option maxRecDepth 100000
set_option maxHeartbeats 2000000
namespace Eh
open PySem PySem.Spec PyProof.Rows L2
structure SgnV (K : PySem.W.Frag) (w : World) (mg : Str → Option Value) (p : Addr) : Prop where
  g : mg "SIGNS" = some (.ref p)
  v : ∀ k, nodeKinds.contains k = true → KDct K w p k (.str (signOf k))
theorem sgn_mk {K : PySem.W.Frag} {w : World} {mg : Str → Option Value} {p : Addr} {n : Nat} {h1 h2 h3 h4 : Int} {t1 t2 t3 t4 u1 u2 u3 u4 : Tok} (g : mg "SIGNS" = some (.ref p))
    (l : K.lookup p = some ⟨.type "dict", none, .dict #[⟨h1, .str "all" t1, .str " & " u1⟩, ⟨h2, .str "mine" t2, .str " + " u2⟩, ⟨h3, .str "some" t3, .str " | " u3⟩, ⟨h4, .str "yours" t4, .str " * " u4⟩] n, #[]⟩)
    (hh : PySem.W.KeysLit w.params [⟨h1, .str "all" t1, .str " & " u1⟩, ⟨h2, .str "mine" t2, .str " + " u2⟩, ⟨h3, .str "some" t3, .str " | " u3⟩, ⟨h4, .str "yours" t4, .str " * " u4⟩]) : SgnV K w mg p := by
  refine ⟨g, fun k hk => ?_⟩
  have i (x z : Str) (t : Tok) : (Value.str x t).isStr z = (x == z) := rfl
  have e (z : Str) : PySem.W.nsIn K p z = (match List.find? (fun x => x.key.isStr z) [(⟨h1, .str "all" t1, .str " & " u1⟩ : DictEntry), ⟨h2, .str "mine" t2, .str " + " u2⟩, ⟨h3, .str "some" t3, .str " | " u3⟩, ⟨h4, .str "yours" t4, .str " * " u4⟩] with
          | some e => some (some e.val)
          | none => if (List.any [(⟨h1, .str "all" t1, .str " & " u1⟩ : DictEntry), ⟨h2, .str "mine" t2, .str " + " u2⟩, ⟨h3, .str "some" t3, .str " | " u3⟩, ⟨h4, .str "yours" t4, .str " * " u4⟩] fun x => x.refKey) = true then none else some none) := by
    unfold PySem.W.nsIn
    rw [l]
    rfl
  rcases node_cases hk with rfl | rfl | rfl | rfl
  · exact ⟨_, n, .str " & " u1, l, hh, by rw [e]; simp only [List.find?_cons, i, show (("all" : Str) == "all") = true from by decide +kernel], ⟨u1, rfl⟩⟩
  · exact ⟨_, n, .str " | " u3, l, hh, by rw [e]; simp only [List.find?_cons, i, show (("all" : Str) == "some") = false from by decide +kernel, show (("mine" : Str) == "some") = false from by decide +kernel, show (("some" : Str) == "some") = true from by decide +kernel], ⟨u3, by rw [show signOf "some" = " | " from by decide +kernel]⟩⟩
  · exact ⟨_, n, .str " + " u2, l, hh, by rw [e]; simp only [List.find?_cons, i, show (("all" : Str) == "mine") = false from by decide +kernel, show (("mine" : Str) == "mine") = true from by decide +kernel], ⟨u2, by rw [show signOf "mine" = " + " from by decide +kernel]⟩⟩
  · exact ⟨_, n, .str " * " u4, l, hh, by rw [e]; simp only [List.find?_cons, i, show (("all" : Str) == "yours") = false from by decide +kernel, show (("mine" : Str) == "yours") = false from by decide +kernel, show (("some" : Str) == "yours") = false from by decide +kernel, show (("yours" : Str) == "yours") = true from by decide +kernel], ⟨u4, by rw [show signOf "yours" = " * " from by decide +kernel]⟩⟩
def sumL (ts : List Str) : Nat := (ts.map (·.length)).sum
theorem sumL_cons (a : Str) (ts : List Str) : sumL (a :: ts) = a.length + sumL ts := by
  unfold sumL
  rw [List.map_cons, List.sum_cons]
theorem sumL_take_drop (ts : List Str) (n : Nat) : sumL (ts.take n) + sumL (ts.drop n) = sumL ts := by
  unfold sumL
  rw [← List.sum_append, ← List.map_append, List.take_append_drop]
theorem sapp (a b : Str) : (a ++ b).length = a.length + b.length := Str.length_append a b
theorem join_len (y : Str) : ∀ ts : List Str, (Str.join y ts).length ≤ sumL ts + ts.length * y.length
  | [] => Nat.zero_le _
  | [x] => by
    show x.length ≤ _
    rw [sumL_cons]
    omega
  | x :: z :: r => by
    have ih := join_len y (z :: r)
    show (x ++ y ++ Str.join y (z :: r)).length ≤ _
    rw [sapp, sapp, sumL_cons, List.length_cons, Nat.succ_mul]
    omega
theorem sign_len (k : Str) : (signOf k).length = 3 := by
  unfold signOf
  split
  · decide +kernel
  · split
    · decide +kernel
    · split <;> decide +kernel
theorem brack_len (k : Str) (ts : List Str) : (brack k ts).length ≤ sumL ts + ts.length * 3 + 2 := by
  have h := join_len (signOf k) ts
  rw [sign_len] at h
  unfold brack
  rw [TL.join_eq]
  split <;> rw [sapp, sapp] <;> (show 1 + _ + 1 ≤ _) <;> omega
theorem stack_len : ∀ {ns : List (Str × V)} {l : Nat}, dueGo l ns = true → (stackT ns).length = l
  | [], l, h => by
    have h : decide (l = 0) = true := h
    exact (of_decide_eq_true h).symm
  | n :: ns, 0, h => by cases h
  | n :: ns, l + 1, h => by
    have ih := stack_len (show dueGo (l + partsN n) ns = true from h)
    show (if nodeKinds.contains n.1 = true then _ else _ : List Str).length = _
    by_cases c : nodeKinds.contains n.1 = true
    · rw [if_pos c, List.length_cons, List.length_drop, ih]
      omega
    · rw [if_neg c, List.length_cons, ih]
      unfold partsN
      rw [if_neg c]
theorem due_drop : ∀ {ns : List (Str × V)} {l : Nat}, dueGo l ns = true → ∀ i, ∃ m, dueGo m (ns.drop i) = true
  | ns, l, h, 0 => ⟨l, h⟩
  | [], l, h, i + 1 => ⟨0, rfl⟩
  | n :: ns, 0, h, i + 1 => by cases h
  | n :: ns, l + 1, h, i + 1 => due_drop (show dueGo (l + partsN n) ns = true from h) i
theorem plain_len {k : Str} {t : V} (h : nodeAB k t = true) (c : nodeKinds.contains k = false) : (plainT k t).length ≤ 9 := by
  unfold nodeAB at h
  by_cases h1 : factKinds.contains k = true
  · rw [if_pos h1] at h
    cases t with
    | str z =>
      have hz : factS z = true := h
      have h8 : z.length ≤ 8 := by
        unfold factS at hz
        simp only [Bool.and_eq_true] at hz
        exact (of_decide_eq_true hz.1.1.1).2
      show (if k = "fact" then z else "!" ++ z).length ≤ 9
      split
      · omega
      · rw [sapp]
        show 1 + _ ≤ 9
        omega
    | _ => cases h
  · rw [if_neg h1] at h
    by_cases h2 : sureKinds.contains k = true
    · rw [if_pos h2] at h
      have hk : k.length ≤ 9 := by
        unfold sureKinds at h2
        rw [List.contains_iff_mem] at h2
        simp only [List.mem_cons, List.not_mem_nil, or_false] at h2
        rcases h2 with rfl | rfl <;> decide +kernel
      cases t with
      | int i => exact hk
      | _ => cases h
    · rw [if_neg h2, c] at h
      cases h
theorem stack_sum : ∀ {ns : List (Str × V)}, GoodN ns → sumL (stackT ns) ≤ 16 * ns.length
  | [], _ => Nat.le_refl _
  | n :: ns, g => by
    have ih := stack_sum (fun x hx => g x (List.mem_cons_of_mem _ hx) : GoodN ns)
    have hn := g n List.mem_cons_self
    show sumL (if nodeKinds.contains n.1 = true then _ else _) ≤ _
    rw [List.length_cons]
    by_cases c : nodeKinds.contains n.1 = true
    · rw [if_pos c, sumL_cons]
      have b := brack_len n.1 ((stackT ns).take (partsN n))
      have e := sumL_take_drop (stackT ns) (partsN n)
      obtain ⟨i, et, h2, h4⟩ := good_int hn c
      have hp : ((stackT ns).take (partsN n)).length ≤ 4 := by
        rw [List.length_take]
        unfold partsN
        rw [if_pos c, et]
        show min i.toNat _ ≤ 4
        omega
      omega
    · rw [if_neg c, sumL_cons]
      have := plain_len hn (by cases e : nodeKinds.contains n.1 with | false => rfl | true => exact absurd e c)
      omega
section
variable {P : Program} {w : World} {K : PySem.W.Frag} {mg : Str → Option Value} {base : Heap}
def spPlainT : Sp := fun vs H Q _ => ∃ k t, vs = [.str k, t] ∧ nodeAB k t = true ∧ nodeKinds.contains k = false ∧ Q (.str (plainT k t)) H
theorem ok_plain_text {f : Addr} {fd : FuncData} (F : Fun K "plain_text" "plain_text" s_plain_text f fd) (T : Txt mg) : FnOk P w K mg base CX0 1 f fd ["kind", "told"] spPlainT := by
  refine F.ok sc_plain_text (fun vs H Q E h => ?_) (fun cdv A outer s H vs Q E hr h => ?_)
  · obtain ⟨k, t, rfl, _⟩ := h
    rfl
  · obtain ⟨k, t, rfl, hg, hc, q⟩ := h
    refine ⟨_, (pss_cons (ps_if (pt_cmpR op_eq (pv 0) pe_str (nomark _))
  (pss_one (ps_ret (pv 1)))
  pss_nil)
  (pss_one (ps_ret (pe_ifExp (pt_cmpR op_eq (pv 0) pe_str (nomark _)) (pe_op op_add_str pe_str (pv 1)) (pv 0))))), ?_⟩
    have hl := plain_len hg hc
    unfold nodeAB at hg
    by_cases h1 : factKinds.contains k = true
    · rw [if_pos h1] at hg
      cases t with
      | str z =>
        unfold factKinds at h1
        rw [List.contains_iff_mem] at h1
        simp only [List.mem_cons, List.not_mem_nil, or_false] at h1
        rcases h1 with rfl | rfl
        · refine ⟨_, rfl, rfl, _, rfl, iteT' (by decide +kernel) ⟨_, rfl, ?_⟩⟩
          have e : plainT "fact" (.str z) = z := by
            show (if ("fact" : Str) = "fact" then z else "!" ++ z) = z
            rw [if_pos rfl]
          rw [e] at q
          exact q
        · refine ⟨_, rfl, rfl, _, rfl, iteF' (by decide +kernel) ?_⟩
          refine ⟨_, rfl, rfl, _, rfl, iteT' (by decide +kernel) ?_⟩
          have e : plainT "not" (.str z) = "!" ++ z := by
            show (if ("not" : Str) = "fact" then z else "!" ++ z) = _
            rw [if_neg (by decide +kernel)]
          rw [e] at q hl
          rw [sapp] at hl
          refine ⟨_, rfl, "!", z, rfl, rfl, Nat.le_of_lt (small (by omega)), q⟩
      | _ => cases hg
    · rw [if_neg h1] at hg
      by_cases h2 : sureKinds.contains k = true
      · rw [if_pos h2] at hg
        cases t with
        | int i =>
          have e : plainT k (.int i) = k := rfl
          rw [e] at q
          unfold sureKinds at h2
          rw [List.contains_iff_mem] at h2
          simp only [List.mem_cons, List.not_mem_nil, or_false] at h2
          rcases h2 with rfl | rfl
          · exact ⟨_, rfl, rfl, _, rfl, iteF' (by decide +kernel) ⟨_, rfl, rfl, _, rfl, iteF' (by decide +kernel) ⟨_, rfl, q⟩⟩⟩
          · exact ⟨_, rfl, rfl, _, rfl, iteF' (by decide +kernel) ⟨_, rfl, rfl, _, rfl, iteF' (by decide +kernel) ⟨_, rfl, q⟩⟩⟩
        | _ => cases hg
      · rw [if_neg h2, hc] at hg
        cases hg
end
end Eh
set_option Elab.async false
set_option linter.all false
set_option maxRecDepth 100000
set_option maxHeartbeats 2000000
namespace Eh
open PySem PySem.Spec PyProof.Rows L2
theorem revtop {s : Str} {r : List Str} : ((s :: r).reverse).map V.str = r.reverse.map V.str ++ [V.str s] := by
  rw [List.reverse_cons, List.map_append]
  rfl
theorem stack_le : ∀ ns : List (Str × V), (stackT ns).length ≤ ns.length
  | [] => Nat.le_refl _
  | n :: ns => by
    have ih := stack_le ns
    show (if nodeKinds.contains n.1 = true then _ else _ : List Str).length ≤ _
    split
    · rw [List.length_cons, List.length_drop, List.length_cons]
      omega
    · rw [List.length_cons, List.length_cons]
      omega
section
variable {P : Program} {w : World} {K : PySem.W.Frag} {mg : Str → Option Value} {base : Heap}
theorem ixKd {X : Cx} (h : X.K = K) (hw : X.w = w) : IxR X (rIxD K w) := by
  subst h hw
  exact ix_kdict
def spBrack (K : PySem.W.Frag) : Sp := fun vs H Q _ => ∃ k p ts, vs = [.str k, .ref p] ∧ nodeKinds.contains k = true ∧ SqL K H p (ts.map V.str) ∧ sumL ts + ts.length * 3 ≤ 900000 ∧ ∀ H', Same H H' → Q (.str (brack k ts)) H'
theorem ok_bracketed {p0 f : Addr} {fd : FuncData} (F : Fun K "bracketed" "bracketed" s_bracketed f fd) (T : Txt mg) (S : SgnV K w mg p0) : FnOk P w K mg base CX0 1 f fd ["kind", "parts"] (spBrack K) := by
  refine F.ok sc_bracketed (fun vs H Q E h => ?_) (fun cdv A outer s H vs Q E hr h => ?_)
  · obtain ⟨k, p, ts, rfl, _⟩ := h
    rfl
  · obtain ⟨k, p, ts, rfl, hk, hS, hl, q⟩ := h
    refine ⟨_, (pss_cons (ps_set (i := 2) sc_bracketed.nd rfl (.inl rfl) (pe_join (pe_ix (ixKd (K := K) (w := w) rfl rfl) (pe_glob (v := .ref p0) rfl S.g rfl) (pv 0) (fun _ _ => rfl)) (pv 1)))
  (pss_one (ps_ret (pe_ifExp (pt_cmpR (inQ (K := K) rfl) (pv 0) (pe_tup (pa_cons pe_str (pa_cons pe_str pa_nil))) (by rfl)) (pe_op op_add_str (pe_op op_add_str pe_str (pv 2)) pe_str) (pe_op op_add_str (pe_op op_add_str pe_str (pv 2)) pe_str))))), ?_⟩
    have h3 := sign_len k
    have hj := join_len (signOf k) ts
    rw [h3] at hj
    have hj2 : (Txt.join (signOf k) ts).length ≤ 900000 := by rw [TL.join_eq]; omega
    refine ⟨_, rfl, p0, k, _, rfl, rfl, S.v k hk, ⟨_, rfl⟩, _, rfl, signOf k, p, ts, rfl, rfl, .inl hS, ?_, ?_⟩
    · rw [h3]
      have : (ts.map (·.length)).sum = sumL ts := rfl
      omega
    refine ⟨_, rfl, lenOk 2, fun t nt => ⟨t, choiceKinds.map V.str, rfl, .inr (SqT.of upd_same), rfl, flat_strs _, _, rfl, ?_⟩⟩
    have s1 : Same H (upd H t (.tup (choiceKinds.map V.str))) := same_new nt
    have q' := q _ s1
    unfold brack at q'
    cases ec : choiceKinds.contains k with
    | true =>
      rw [if_pos ec] at q'
      refine iteT' ((inV_strs k choiceKinds).trans ec) ⟨_, rfl, "[", _, rfl, rfl, Nat.le_of_lt (small (by show 1 + _ < _; omega)), _, "]", rfl, rfl, Nat.le_of_lt (small (by rw [sapp]; show 1 + _ + 1 < _; omega)), q'⟩
    | false =>
      rw [if_neg (by rw [ec]; exact Bool.false_ne_true)] at q'
      refine iteF' ((inV_strs k choiceKinds).trans ec) ⟨_, rfl, "(", _, rfl, rfl, Nat.le_of_lt (small (by show 1 + _ < _; omega)), _, ")", rfl, rfl, Nat.le_of_lt (small (by rw [sapp]; show 1 + _ + 1 < _; omega)), q'⟩
def spText (K : PySem.W.Frag) : Sp := fun vs H Q _ => ∃ p xs ns t, vs = [.ref p] ∧ SqT K H p xs ∧ NdsAt K H xs ns ∧ GoodN ns ∧ dueGo 1 ns = true ∧ xs.length < 1000 ∧ stackT ns = [t] ∧ ∀ H', Same H H' → Q (.str t) H'
theorem ok_text_of {p0 fB fP f : Addr} {fdB fdP fd : FuncData} (F : Fun K "text_of" "text_of" s_text_of f fd) (T : Txt mg) (S : SignsAt K w mg p0) (C_bracketed : Cal P w K mg base 1 "bracketed" fB fdB ["kind", "parts"] (spBrack K)) (C_plain_text : Cal P w K mg base 1 "plain_text" fP fdP ["kind", "told"] spPlainT) :
    FnOk P w K mg base CX0 2 f fd ["nodes"] (spText K) := by
  refine F.ok sc_text_of (fun vs H Q E h => ?_) (fun cdv A outer s H vs Q E hr h => ?_)
  · obtain ⟨p, xs, ns, t, rfl, _⟩ := h
    rfl
  · obtain ⟨p, xs, ns, t, rfl, hS, hN, hg, hd, hlen, hst, q⟩ := h
    refine ⟨_, (pss_cons (ps_set (i := 1) sc_text_of.nd rfl (.inl rfl) (pe_lst pa_nil))
  (pss_cons (ps_for PassesOwn.never (by rfl) (pi_reversed (by rfl) T.reversed_ (pa_cons (pe_callTy (lstOf (K := K) rfl) (by rfl) T.list_ (by decide +kernel) (pa_cons (pv 0) pa_nil)) pa_nil)) (pg_tup (by rfl) (pgs_cons (pg_name (i := 2) sc_text_of.nd rfl (.inl rfl)) (pgs_cons (pg_name (i := 3) sc_text_of.nd rfl (.inl rfl)) pgs_nil)))
  (pss_one (ps_if (pt_cmpR (inKd S rfl rfl) (pv 2) (pe_glob (v := .ref p0) rfl S.g rfl) (by rfl))
  (pss_cons (ps_set (i := 4) sc_text_of.nd rfl (.inl rfl) (pe_lst pa_nil))
  (pss_cons (ps_for PassesOwn.never (by rfl) (pi_range1 (by rfl) T.range_ (pa_cons (pv 3) pa_nil)) (pg_name (i := 5) sc_text_of.nd rfl (.inl rfl))
  (pss_one (ps_expr (bmK (K := K) rfl (pe_bm PySem.F.plainAttrs_list PySem.F.slot_list_append PySem.F.type_list_append mt_append (pv 4) (pa_cons (bm0K (K := K) rfl (pe_bm0 PySem.F.plainAttrs_list PySem.F.slot_list_pop PySem.F.type_list_pop mt_pop (pv 1))) pa_nil))))))
  (pss_one (ps_expr (bmK (K := K) rfl (pe_bm PySem.F.plainAttrs_list PySem.F.slot_list_append PySem.F.type_list_append mt_append (pv 1) (pa_cons (pe_call C_bracketed.G (hr.mono (by omega)) (by rfl) C_bracketed.m C_bracketed.k C_bracketed.b .nil pass0 (pa_cons (pv 2) (pa_cons (pv 4) pa_nil))) pa_nil)))))))
  (pss_one (ps_expr (bmK (K := K) rfl (pe_bm PySem.F.plainAttrs_list PySem.F.slot_list_append PySem.F.type_list_append mt_append (pv 1) (pa_cons (pe_call C_plain_text.G (hr.mono (by omega)) (by rfl) C_plain_text.m C_plain_text.k C_plain_text.b .nil pass0 (pa_cons (pv 2) (pa_cons (pv 3) pa_nil))) pa_nil))))))))
  (pss_one (ps_ret (pe_ix (ixL (K := K) rfl) (pv 1) pe_int (fun _ _ => rfl)))))), ?_⟩
    have hxn := hN.length
    refine ⟨Nat.zero_le _, fun l nl => ?_⟩
    have s1 : Same H (upd H l (.lst [])) := same_new nl
    refine ⟨_, rfl, p, xs, rfl, .inr ((stk s1).seq hS), fun lq nq => ?_⟩
    have s2 := s1.trans (same_new (o := .lst xs) nq)
    have nH : H l = none := nl
    have nqH : H lq = none := s1.free nq
    have nlq : l ≠ lq := fun e => by rw [← e, upd_same] at nq; cases nq
    have keep : ∀ {a : Addr} {H' : Hp} {o : HO}, H a = none → Same H H' → Same H (upd H' a o) := fun {a H' o} na s b u eb => by
      rw [upd_ne (ne_of_none eb na)]
      exact s b u eb
    refine ⟨lq, xs, rfl, SqL.of upd_same, RT.for_Itv (K := K) (a := lq) (xs := xs) (fun i σ H2 => ∃ (x2 x3 x4 x5 : Option V), σ = [some (.ref p), some (.ref l), x2, x3, x4, x5] ∧ Same H H2 ∧ H2 lq = some (.lst xs) ∧ H2 l = some (.lst ((stackT (ns.drop (xs.length - i))).reverse.map V.str))) ?_ (fun i σ H2 h => ?_) ?_ ?_⟩
    · refine ⟨none, none, none, none, rfl, s2, upd_same, ?_⟩
      rw [upd_ne nlq, upd_same, Nat.sub_zero, hxn, List.drop_length]
      rfl
    · obtain ⟨x2, x3, x4, x5, _, s3, e3, _⟩ := h
      exact SqL.of e3
    · rintro i x σ H2 hi hx ⟨x2, x3, x4, x5, rfl, s3, e3, e4⟩
      obtain ⟨a, k, t2, rfl, hk, ha⟩ := hN.get hx
      have hgn := hg _ (List.mem_of_getElem? hk)
      have dr := drop_at hk
      rw [show xs.length - 1 - i + 1 = xs.length - i from by omega] at dr
      obtain ⟨mm, hmm⟩ := due_drop hd (xs.length - 1 - i)
      rw [show xs.length - (i + 1) = xs.length - 1 - i from by omega]
      rw [dr] at hmm ⊢
      generalize hrest : ns.drop (xs.length - i) = rest at hmm e4 ⊢
      have hrl : rest.length ≤ ns.length := by rw [← hrest, List.length_drop]; omega
      have hgr : GoodN rest := fun y hy => hg y (by rw [← hrest] at hy; exact List.mem_of_mem_drop hy)
      have hsum := stack_sum hgr
      refine ⟨a, _, rfl, (stk s3).seq ha, rfl, _, _, rfl, _, _, rfl, rfl, ?_⟩
      refine ⟨_, rfl, k, rfl, rfl, _, rfl, ?_⟩
      cases ek : nodeKinds.contains k with
      | false =>
        refine iteF ?_
        have hsl : (stackT rest).length < 1000 := by
          have := stack_le rest
          omega
        refine ⟨_, rfl, .inl ⟨rfl, _, SqL.of e4⟩, _, rfl, _, rfl, k, t2, rfl, hgn, ek, ?_⟩
        refine ⟨l, _, .str (plainT k t2), rfl, rfl, e4, small (by rw [List.length_map, List.length_reverse]; omega), ?_⟩
        refine ⟨_, _, _, _, rfl, keep nH s3, by rw [upd_ne nlq.symm]; exact e3, ?_⟩
        rw [upd_same]
        show some (HO.lst _) = some (HO.lst ((if nodeKinds.contains k = true then _ else _ : List Str).reverse.map V.str))
        rw [if_neg (by rw [ek]; exact Bool.false_ne_true), revtop]
      | true =>
        refine iteT ?_
        obtain ⟨ti, rfl, ht2, ht4⟩ := good_int hgn ek
        have hp : partsN (k, .int ti) = ti.toNat := by
          unfold partsN
          rw [if_pos ek]
          rfl
        have hS4 : ti.toNat ≤ (stackT rest).length := by
          cases mm with
          | zero => cases hmm
          | succ l' =>
            have := stack_len (show dueGo (l' + partsN (k, .int ti)) rest = true from hmm)
            rw [hp] at this
            omega
        have hle := stack_le rest
        have est : stackT ((k, .int ti) :: rest) = brack k ((stackT rest).take ti.toNat) :: (stackT rest).drop ti.toNat := by
          show (if nodeKinds.contains k = true then brack k ((stackT rest).take (partsN (k, .int ti))) :: (stackT rest).drop (partsN (k, .int ti)) else _) = _
          rw [if_pos ek, hp]
        rw [est]
        have hsum2 := sumL_take_drop (stackT rest) ti.toNat
        generalize stackT rest = S0 at e4 hS4 hle hsum hsum2 ⊢
        refine ⟨Nat.zero_le _, fun lp np => ?_⟩
        have npH : H lp = none := s3.free np
        have nlp : l ≠ lp := ne_of_none e4 np
        have nqp : lq ≠ lp := ne_of_none e3 np
        refine ⟨_, rfl, ti, rfl, by omega, by omega, ?_⟩
        refine for_range (lo := 0) (n := ti.toNat) (fun j σ H3 => (∃ y5 : Option V, σ = [some (.ref p), some (.ref l), some (.str k), some (.int ti), some (.ref lp), y5]) ∧ Same H H3 ∧ H3 lq = some (.lst xs) ∧ H3 l = some (.lst ((S0.drop j).reverse.map V.str)) ∧ H3 lp = some (.lst ((S0.take j).map V.str))) ?_ ?_ ?_
        · refine ⟨⟨_, rfl⟩, s3.trans (same_new np), by rw [upd_ne nqp]; exact e3, by rw [upd_ne nlp]; exact e4, upd_same⟩
        · rintro j σ H3 hj ⟨⟨y5, rfl⟩, u3, uq, ul, up⟩
          have hjl : j < S0.length := by omega
          have djs := drop_at (List.getElem?_eq_getElem hjl)
          rw [djs, revtop] at ul
          refine ⟨_, rfl, .inl ⟨rfl, _, SqL.of up⟩, _, rfl, .inl ⟨rfl, _, SqL.of ul⟩, l, _, .str S0[j], rfl, rfl, ul, ?_, ?_⟩
          · rw [List.length_append, List.length_singleton, Nat.add_sub_cancel]
            exact List.getElem?_concat_length
          rw [List.dropLast_concat]
          have up2 : (upd H3 l (.lst ((S0.drop (j + 1)).reverse.map V.str))) lp = some (.lst ((S0.take j).map V.str)) := by rw [upd_ne nlp.symm]; exact up
          refine ⟨lp, _, .str S0[j], rfl, rfl, up2, small (by rw [List.length_map, List.length_take]; omega), ?_⟩
          refine ⟨⟨_, rfl⟩, keep npH (keep nH u3), by rw [upd_ne nqp, upd_ne nlq.symm]; exact uq, by rw [upd_ne nlp]; exact upd_same, ?_⟩
          rw [upd_same, take_succ' (List.getElem?_eq_getElem hjl), List.map_append]
          rfl
        · rintro σ H3 ⟨⟨y5, rfl⟩, u3, uq, ul, up⟩
          refine ⟨_, rfl, .inl ⟨rfl, _, SqL.of ul⟩, _, rfl, _, rfl, k, lp, S0.take ti.toNat, rfl, ek, SqL.of up, ?_, fun H5 s5 => ?_⟩
          · rw [List.length_take]
            omega
          refine ⟨l, _, .str (brack k (S0.take ti.toNat)), rfl, rfl, s5 _ _ ul, small (by rw [List.length_map, List.length_reverse, List.length_drop]; omega), ?_⟩
          refine ⟨_, _, _, _, rfl, keep nH (u3.trans s5), by rw [upd_ne nlq.symm]; exact s5 _ _ uq, ?_⟩
          rw [upd_same, revtop]
    · rintro σ H2 ⟨x2, x3, x4, x5, rfl, s3, e3, e4⟩
      rw [Nat.sub_self, List.drop_zero, hst] at e4
      exact ⟨_, rfl, l, _, 0, .str t, rfl, rfl, SqL.of e4, rfl, q H2 s3⟩
end
end Eh
set_option Elab.async false
set_option linter.all false
set_option maxRecDepth 100000
set_option maxHeartbeats 2000000
namespace Eh
open PySem PySem.Spec PyProof.Rows L2
def kS (z : Str) : Key := .inr z
theorem nodes_sub : ∀ {ps : List Pl} {i : Nat} {p : Pl}, ps[i]? = some p → ∀ n ∈ nodesOf p, n ∈ nodesAll ps
  | [], _, _, h, _, _ => by simp at h
  | q :: ps, 0, p, h, n, hn => by
    cases (show some q = some p from h)
    rw [nodesAll]
    exact List.mem_append_left _ hn
  | q :: ps, i + 1, p, h, n, hn => by
    rw [nodesAll]
    exact List.mem_append_right _ (nodes_sub (ps := ps) (i := i) h n hn)
end Eh
set_option Elab.async false
set_option linter.all false
set_option maxRecDepth 100000
set_option maxHeartbeats 2000000
namespace Eh
open PySem PySem.Spec PyProof.Rows L2
def toldD : V → PyData
  | .str z => .str z
  | .int i => .int i
  | _ => .none
def nodeD (n : Str × V) : PyData := .tuple [.str n.1, toldD n.2]
def nodesD (ns : List (Str × V)) : PyData := .tuple (ns.map nodeD)
/-- a node of a drawn promise -/
def NOk (n : Str × V) : Prop := nodeAB n.1 n.2 = true ∧ ∀ z, n.2 = .str z → z ∈ uni6
theorem nok_of {ns : List (Str × V)} (g : GoodN ns) (w : InW uni6 ns) : ∀ n ∈ ns, NOk n := fun n hn => ⟨g n hn, fun z e => w n.1 z (by rw [← e]; exact hn)⟩
theorem kind_lay {k : Str} {t : V} (h : nodeAB k t = true) : PyData.canLay0 (.str k) = true := by
  unfold nodeAB at h
  by_cases h1 : factKinds.contains k = true
  · unfold factKinds at h1
    rw [List.contains_iff_mem] at h1
    simp only [List.mem_cons, List.not_mem_nil, or_false] at h1
    rcases h1 with rfl | rfl <;> decide +kernel
  · rw [if_neg h1] at h
    by_cases h2 : sureKinds.contains k = true
    · unfold sureKinds at h2
      rw [List.contains_iff_mem] at h2
      simp only [List.mem_cons, List.not_mem_nil, or_false] at h2
      rcases h2 with rfl | rfl <;> decide +kernel
    · rw [if_neg h2, Bool.and_eq_true] at h
      rcases node_cases h.1 with rfl | rfl | rfl | rfl <;> decide +kernel
theorem hu64e {A : Around} {k : Nat} (hr : Room k A) : A.units + 64 < cLine := by
  have := hr.un
  omega
section
variable {P : Program} {w : World} {K : PySem.W.Frag} {mg : Str → Option Value} {base : Heap}
/-- a promise as the laws have it: with good nodes -/
def PrOk (K : PySem.W.Frag) (C : Addr) (H : Hp) (a : Addr) (ns : List (Str × V)) : Prop := ∃ dx p xs, H a = some (.ins C dx [(("_nodes" : Str), .ref p)]) ∧ SqT K H p xs ∧ NdsAt K H xs ns ∧ ∀ n ∈ ns, NOk n
structure IsC (K : PySem.W.Frag) (C : Addr) : Prop where
  cls : PySem.W.findIn K (.ref C) "__class__" = some (some (.builtin "object.__class__"))
  sp : PySem.W.specialIn K (.builtin "object.__class__") "__get__" = some (some (.builtin "getset_descriptor.__get__"))
  tk : PySem.W.takesIn K (.builtin "object.__class__") = some true
  mro : PySem.W.mroIn K C (.type "object") = some true
  self : PySem.W.kitOne K (.ref C) (.ref C) = some true
end
end Eh
set_option Elab.async false
set_option linter.all false
set_option maxRecDepth 100000
set_option maxHeartbeats 2000000
namespace Eh
open PySem PySem.Spec PyProof.Rows L2
section
variable {P : Program} {w : World} {K : PySem.W.Frag} {mg : Str → Option Value} {base : Heap}
def spNodesP (K : PySem.W.Frag) (C : Addr) : Sp := fun vs H Q _ => ∃ a dx fs p, vs = [.ref a] ∧ H a = some (.ins C dx fs) ∧ fs.lookup ("_nodes" : Str) = some (.ref p) ∧ Q (.ref p) H
theorem ok_nodesP {C fI fL f : Addr} {fd : FuncData} (F : Fun K "nodes" "Promise.nodes" s_Promise_nodes f fd) (PC : PromC K mg C fI fL) : FnOk P w K mg base CX0 1 f fd ["self"] (spNodesP K C) := by
  refine F.ok sc_Promise_nodes (fun vs H Q E h => ?_) (fun cdv A outer s H vs Q E hr h => ?_)
  · obtain ⟨a, dx, fs, p, rfl, _⟩ := h
    rfl
  · obtain ⟨a, dx, fs, p, rfl, ha, hl, q⟩ := h
    exact ⟨_, (pss_one (ps_ret (pe_fld (pv 0) rfl))), _, rfl, a, C, dx, fs, .ref p, rfl, ha, PC.cl, PC.nn, hl, q⟩
def spTextP (K : PySem.W.Frag) (C : Addr) : Sp := fun vs H Q _ => ∃ a ns t, vs = [.ref a] ∧ PrOk K C H a ns ∧ dueGo 1 ns = true ∧ ns.length < 1000 ∧ stackT ns = [t] ∧ ∀ H', Same H H' → Q (.str t) H'
theorem ok_textP {C fI fL fT f : Addr} {fdT fd : FuncData} (F : Fun K "text" "Promise.text" s_Promise_text f fd) (PC : PromC K mg C fI fL) (C_text_of : Cal P w K mg base 2 "text_of" fT fdT ["nodes"] (spText K)) : FnOk P w K mg base CX0 3 f fd ["self"] (spTextP K C) := by
  refine F.ok sc_Promise_text (fun vs H Q E h => ?_) (fun cdv A outer s H vs Q E hr h => ?_)
  · obtain ⟨a, ns, t, rfl, _⟩ := h
    rfl
  · obtain ⟨a, ns, t, rfl, ⟨dx, p, xs, ha, hs, hN, ho⟩, hd, hl, ht, q⟩ := h
    refine ⟨_, (pss_one (ps_ret (pe_call C_text_of.G hr (by rfl) C_text_of.m C_text_of.k C_text_of.b .nil pass0 (pa_cons (pe_fld (pv 0) rfl) pa_nil)))), ?_⟩
    exact ⟨_, rfl, a, C, dx, _, .ref p, rfl, ha, PC.cl, PC.nn, rfl, p, xs, ns, t, rfl, hs, hN, fun n hn => (ho n hn).1, hd, by rw [hN.length]; exact hl, ht, q⟩
def spChoicesP (K : PySem.W.Frag) (C : Addr) : Sp := fun vs H Q _ => ∃ a ns, vs = [.ref a] ∧ PrOk K C H a ns ∧ ns.length < 1000 ∧ ∀ H', Same H H' → Q (.int (countIn choiceKinds ns)) H'
theorem ok_choicesP {C fI fL fT f : Addr} {fdT fd : FuncData} (F : Fun K "choices" "Promise.choices" s_Promise_choices f fd) (PC : PromC K mg C fI fL) (C_choices_of : Cal P w K mg base 1 "choices_of" fT fdT ["nodes"] (spChoices K)) : FnOk P w K mg base CX0 2 f fd ["self"] (spChoicesP K C) := by
  refine F.ok sc_Promise_choices (fun vs H Q E h => ?_) (fun cdv A outer s H vs Q E hr h => ?_)
  · obtain ⟨a, ns, rfl, _⟩ := h
    rfl
  · obtain ⟨a, ns, rfl, ⟨dx, p, xs, ha, hs, hN, ho⟩, hl, q⟩ := h
    refine ⟨_, (pss_one (ps_ret (pe_call C_choices_of.G hr (by rfl) C_choices_of.m C_choices_of.k C_choices_of.b .nil pass0 (pa_cons (pe_fld (pv 0) rfl) pa_nil)))), ?_⟩
    exact ⟨_, rfl, a, C, dx, _, .ref p, rfl, ha, PC.cl, PC.nn, rfl, p, xs, ns, rfl, hs, hN, by rw [hN.length]; exact hl, q⟩
end
end Eh
set_option Elab.async false
set_option linter.all false
set_option maxRecDepth 100000
set_option maxHeartbeats 2000000
namespace Eh
open PySem PySem.Spec PyProof.Rows L2
mutual
/-- a tree in which each node is of a kind with parts, and each leaf is not -/
def plOk : Pl → Bool
  | .leaf k _ => !nodeKinds.contains k
  | .node k ps => nodeKinds.contains k && plsOk ps
def plsOk : List Pl → Bool
  | [] => true
  | p :: ps => plOk p && plsOk ps
end
mutual
theorem At.plOk {K : PySem.W.Frag} {H : Hp} : ∀ {v : V} {p : Pl}, At K H v p → plOk p = true
  | _, _, .leaf (k := k) h o => by
    rw [Eh.plOk]
    cases e : nodeKinds.contains k with
    | false => rfl
    | true =>
      have h1 := leaf_kind o
      rw [node_kind e] at h1
      cases h1
  | _, _, .node (k := k) h1 h2 o a b r => by
    rw [Eh.plOk, show nodeKinds.contains k = true from o, AtAll.plsOk r]
    rfl
theorem AtAll.plsOk {K : PySem.W.Frag} {H : Hp} : ∀ {vs : List V} {ps : List Pl}, AtAll K H vs ps → plsOk ps = true
  | _, _, .nil => by rw [Eh.plsOk]
  | _, _, .cons h r => by
    rw [Eh.plsOk, At.plOk h, AtAll.plsOk r]
    rfl
end
theorem plsOk_app : ∀ (ps qs : List Pl), plsOk (ps ++ qs) = (plsOk ps && plsOk qs)
  | [], qs => by rw [List.nil_append, plsOk, Bool.true_and]
  | p :: ps, qs => by rw [List.cons_append, plsOk, plsOk, plsOk_app ps qs, Bool.and_assoc]
section
variable {P : Program} {w : World} {K : PySem.W.Frag} {mg : Str → Option Value} {base : Heap}
def spEnd (K : PySem.W.Frag) : Sp := fun vs H Q _ => ∃ p xs ns st pl rest, vs = [.ref p, .int (st : Nat)] ∧ SqT K H p xs ∧ NdsAt K H xs ns ∧ xs.length < 1000 ∧ ns.drop st = nodesOf pl ++ rest ∧ plOk pl = true ∧ Q (.int ((st + (nodesOf pl).length : Nat) : Int)) H
theorem ok_end_of {p0 f : Addr} {fd : FuncData} (F : Fun K "end_of" "end_of" s_end_of f fd) (T : Txt mg) (S : SignsAt K w mg p0) : FnOk P w K mg base CX0 1 f fd ["nodes", "start"] (spEnd K) := by
  refine F.ok sc_end_of (fun vs H Q E h => ?_) (fun cdv A outer s H vs Q E hr h => ?_)
  · obtain ⟨p, xs, ns, st, pl, rest, rfl, _⟩ := h
    rfl
  · obtain ⟨p, xs, ns, st, pl, rest, rfl, hS, hN, hlen, hd, hok, q⟩ := h
    refine ⟨_, (pss_cons (ps_set (i := 2) sc_end_of.nd rfl (.inl rfl) pe_int)
  (pss_cons (ps_set (i := 3) sc_end_of.nd rfl (.inl rfl) (pv 1))
  (pss_cons (ps_while PassesOwn.never (pt_cmpR op_gt (pv 2) pe_int (nomark _))
  (pss_cons (ps_asg (pe_ix (ixT (K := K) rfl) (pv 0) (pv 3) (fun _ _ => rfl)) (pg_tup (by rfl) (pgs_cons (pg_name (i := 4) sc_end_of.nd rfl (.inl rfl)) (pgs_cons (pg_name (i := 5) sc_end_of.nd rfl (.inl rfl)) pgs_nil))))
  (pss_cons (ps_set (i := 2) sc_end_of.nd rfl (.inl rfl) (pe_op op_add (pe_op op_sub (pv 2) pe_int) (pe_ifExp (pt_cmpR (inKd S rfl rfl) (pv 4) (pe_glob (v := .ref p0) rfl S.g rfl) (by rfl)) (pv 5) pe_int)))
  (pss_one (ps_set (i := 3) sc_end_of.nd rfl (.inl rfl) (pe_op op_add (pv 3) pe_int))))))
  (pss_one (ps_ret (pv 3)))))), ?_⟩
    have hxn := hN.length
    refine ⟨_, rfl, ?_⟩
    refine ⟨fun m σ H2 => ∃ (qs : List Pl) (e : Nat) (x4 x5 : Option V), m = (nodesAll qs).length ∧ σ = [some (.ref p), some (.int (st : Int)), some (.int (qs.length : Int)), some (.int (e : Int)), x4, x5] ∧ H2 = H ∧ ns.drop e = nodesAll qs ++ rest ∧ plsOk qs = true ∧ e + (nodesAll qs).length = st + (nodesOf pl).length, ⟨_, [pl], st, none, none, rfl, rfl, rfl, ?_, ?_, ?_⟩, ?_⟩
    · rw [nodesAll, nodesAll, List.append_nil]
      exact hd
    · rw [plsOk, plsOk, hok]
      rfl
    · rw [nodesAll, nodesAll, List.append_nil]
    · rintro m σ H2 ⟨qs, e, x4, x5, rfl, rfl, rfl, hdq, hok2, he⟩
      refine ⟨_, rfl, _, _, rfl, rfl, _, rfl, ?_⟩
      match qs, hdq, hok2, he with
      | [], hdq, hok2, he =>
        refine iteF' (by decide) ⟨_, rfl, ?_⟩
        rw [nodesAll] at he
        have : e = st + (nodesOf pl).length := he
        rw [this]
        exact q
      | t :: qs, hdq, hok2, he =>
        refine iteT' (decide_eq_true (by rw [List.length_cons]; omega)) ⟨_, fun σ' H' h => h, ?_⟩
        rw [plsOk, Bool.and_eq_true] at hok2
        -- the next node
        obtain ⟨k, u, more, hcons, hq2, hcount⟩ : ∃ k u, ∃ more : List Pl, nodesAll (t :: qs) = (k, u) :: nodesAll more ∧ plsOk more = true ∧ (more.length : Int) = (qs.length : Int) + (if nodeKinds.contains k = true then intOf u else 0) ∧ (nodeKinds.contains k = true → ∃ i, u = .int i) := by
          cases t with
          | leaf k u =>
            have hk : nodeKinds.contains k = false := by
              have := hok2.1
              rw [plOk] at this
              simpa using this
            refine ⟨k, u, qs, by rw [nodesAll, nodesOf]; rfl, hok2.2, by rw [if_neg (by rw [hk]; exact Bool.false_ne_true)]; omega, fun h => ?_⟩
            rw [hk] at h
            cases h
          | node k ps =>
            have hk := hok2.1
            rw [plOk, Bool.and_eq_true] at hk
            refine ⟨k, .int (ps.length : Int), ps ++ qs, by rw [nodesAll, nodesOf, List.cons_append, nodesAll_append], by rw [plsOk_app, hk.2, hok2.2]; rfl, ?_, fun _ => ⟨_, rfl⟩⟩
            rw [if_pos hk.1, List.length_append]
            show ((ps.length + qs.length : Nat) : Int) = (qs.length : Int) + (ps.length : Int)
            omega
        obtain ⟨hcount, hint⟩ := hcount
        rw [hcons] at hdq he
        have hke : ns[e]? = some (k, u) := by
          have h0 : (ns.drop e)[0]? = some (k, u) := by rw [hdq]; rfl
          rw [List.getElem?_drop] at h0
          exact h0
        have hel : e < ns.length := (List.getElem?_eq_some_iff.mp hke).1
        obtain ⟨a, k', u', ex, hk', ha⟩ := hN.get (List.getElem?_eq_getElem (show e < xs.length by omega))
        rw [hke] at hk'
        cases hk'
        have hdrop : ns.drop (e + 1) = nodesAll more ++ rest := by
          have d1 := drop_at hke
          rw [hdq] at d1
          injection d1 with _ d2
          exact d2.symm
        refine ⟨_, rfl, _, rfl, p, xs, _, .ref a, rfl, rfl, hS, atI_nat (by rw [← ex]; exact List.getElem?_eq_getElem (show e < xs.length by omega)), ?_⟩
        refine ⟨a, _, rfl, ha, rfl, _, _, rfl, _, _, rfl, rfl, ?_⟩
        refine ⟨_, rfl, _, _, rfl, rfl, _, rfl, k, rfl, rfl, _, rfl, ?_⟩
        have hm : (nodesAll more).length < (nodesAll (t :: qs)).length := by rw [hcons]; exact Nat.lt_succ_self _
        cases ek : nodeKinds.contains k with
        | true =>
          obtain ⟨i, rfl⟩ := hint ek
          rw [if_pos ek] at hcount
          refine iteT ⟨_, rfl, _, _, rfl, rfl, _, rfl, _, _, rfl, rfl, ?_⟩
          refine ⟨_, hm, more, e + 1, some (.str k), some (.int i), rfl, ?_, rfl, hdrop, hq2, by rw [List.length_cons] at he; omega⟩
          have e1 : ((t :: qs).length : Int) - 1 + i = (more.length : Int) := by
            rw [List.length_cons]
            have : intOf (.int i) = i := rfl
            rw [this] at hcount
            omega
          rw [← e1]
          rfl
        | false =>
          rw [if_neg (by rw [ek]; exact Bool.false_ne_true)] at hcount
          refine iteF ⟨_, _, rfl, rfl, _, rfl, _, _, rfl, rfl, ?_⟩
          refine ⟨_, hm, more, e + 1, some (.str k), some u, rfl, ?_, rfl, hdrop, hq2, by rw [List.length_cons] at he; omega⟩
          have e1 : ((t :: qs).length : Int) - 1 + 0 = (more.length : Int) := by
            rw [List.length_cons]
            omega
          rw [← e1]
          rfl
end
end Eh
set_option Elab.async false
set_option linter.all false
set_option maxRecDepth 100000
set_option maxHeartbeats 2000000
namespace Eh
open PySem PySem.Spec PyProof.Rows L2
def partsPl : Pl → List Pl
  | .leaf _ _ => []
  | .node _ ps => ps
/-- each stands as the tuple of its nodes -/
inductive PartsAt (K : PySem.W.Frag) (H : Hp) : List V → List Pl → Prop
  | nil : PartsAt K H [] []
  | cons {a : Addr} {ys vs : List V} {p : Pl} {ps : List Pl} : SqT K H a ys → NdsAt K H ys (nodesOf p) → PartsAt K H vs ps → PartsAt K H (.ref a :: vs) (p :: ps)
theorem PartsAt.tk {K : PySem.W.Frag} {H H' : Hp} (t : Tk H H') : ∀ {vs : List V} {ps : List Pl}, PartsAt K H vs ps → PartsAt K H' vs ps
  | _, _, .nil => .nil
  | _, _, .cons h n r => .cons (t.seq h) (n.tk t) (r.tk t)
theorem PartsAt.snoc {K : PySem.W.Frag} {H : Hp} {a : Addr} {ys : List V} {p : Pl} (h : SqT K H a ys) (n : NdsAt K H ys (nodesOf p)) : ∀ {vs : List V} {ps : List Pl}, PartsAt K H vs ps → PartsAt K H (vs ++ [.ref a]) (ps ++ [p])
  | _, _, .nil => .cons h n .nil
  | _, _, .cons h' n' r => .cons h' n' (PartsAt.snoc h n r)
theorem PartsAt.length {K : PySem.W.Frag} {H : Hp} : ∀ {vs : List V} {ps : List Pl}, PartsAt K H vs ps → vs.length = ps.length
  | _, _, .nil => rfl
  | _, _, .cons _ _ r => by rw [List.length_cons, List.length_cons, r.length]
theorem NdsAt.drop {K : PySem.W.Frag} {H : Hp} : ∀ {vs : List V} {ns : List (Str × V)}, NdsAt K H vs ns → ∀ i, NdsAt K H (vs.drop i) (ns.drop i)
  | _, _, h, 0 => h
  | _, _, .nil, i + 1 => .nil
  | _, _, .cons h r, i + 1 => r.drop i
theorem NdsAt.take {K : PySem.W.Frag} {H : Hp} : ∀ {vs : List V} {ns : List (Str × V)}, NdsAt K H vs ns → ∀ i, NdsAt K H (vs.take i) (ns.take i)
  | _, _, h, 0 => .nil
  | _, _, .nil, i + 1 => .nil
  | _, _, .cons h r, i + 1 => .cons h (r.take i)
theorem cutC (xs : List V) (a b : Nat) (h : a ≤ xs.length) (h2 : b ≤ xs.length) : cutV xs (some (a : Int)) (some (b : Int)) = (xs.drop a).take (b - a) := by
  unfold cutV
  rw [HT.sIx_nat, HT.sIx_nat, Nat.min_eq_left h, Nat.min_eq_left h2]
theorem nodes_ge : ∀ ps : List Pl, ps.length ≤ (nodesAll ps).length
  | [] => Nat.zero_le _
  | p :: ps => by
    have h1 := nodesOf_pos p
    have h2 := nodes_ge ps
    rw [nodesAll, List.length_append, List.length_cons]
    omega
section
variable {P : Program} {w : World} {K : PySem.W.Frag} {mg : Str → Option Value} {base : Heap}
def spPartsOf (K : PySem.W.Frag) : Sp := fun vs H Q _ => ∃ p xs pl, vs = [.ref p] ∧ SqT K H p xs ∧ NdsAt K H xs (nodesOf pl) ∧ plOk pl = true ∧ xs.length < 1000 ∧ ∀ l us H', Same H H' → H l = none → H' l = some (.lst us) → PartsAt K H' us (partsPl pl) → Q (.ref l) H'
theorem ok_parts_of {fE f : Addr} {fdE fd : FuncData} (F : Fun K "parts_of" "parts_of" s_parts_of f fd) (T : Txt mg) (C_end_of : Cal P w K mg base 1 "end_of" fE fdE ["nodes", "start"] (spEnd K)) : FnOk P w K mg base CX0 2 f fd ["nodes"] (spPartsOf K) := by
  refine F.ok sc_parts_of (fun vs H Q E h => ?_) (fun cdv A outer s H vs Q E hr h => ?_)
  · obtain ⟨p, xs, pl, rfl, _⟩ := h
    rfl
  · obtain ⟨p, xs, pl, rfl, hS, hN, hok, hlen, q⟩ := h
    refine ⟨_, (pss_cons (ps_set (i := 1) sc_parts_of.nd rfl (.inl rfl) (pe_lst pa_nil))
  (pss_cons (ps_set (i := 2) sc_parts_of.nd rfl (.inl rfl) pe_int)
  (pss_cons (ps_while PassesOwn.never (pt_cmpR op_lt (pv 2) (pe_callB (lenQ (K := K) rfl) (by rfl) T.len_ (by decide +kernel) (pa_cons (pv 0) pa_nil)) (nomark _))
  (pss_cons (ps_set (i := 3) sc_parts_of.nd rfl (.inl rfl) (pe_call C_end_of.G hr (by rfl) C_end_of.m C_end_of.k C_end_of.b .nil pass0 (pa_cons (pv 0) (pa_cons (pv 2) pa_nil))))
  (pss_cons (ps_expr (bmK (K := K) rfl (pe_bm PySem.F.plainAttrs_list PySem.F.slot_list_append PySem.F.type_list_append mt_append (pv 1) (pa_cons (pe_slice sl_tup (pv 0) (po_some (pv 2)) (po_some (pv 3))) pa_nil))))
  (pss_one (ps_set (i := 2) sc_parts_of.nd rfl (.inl rfl) (pv 3))))))
  (pss_one (ps_ret (pv 1)))))), ?_⟩
    have hxn := hN.length
    have hpos := nodesOf_pos pl
    obtain ⟨n0, hn0, hok2⟩ : ∃ n0, nodesOf pl = n0 :: nodesAll (partsPl pl) ∧ plsOk (partsPl pl) = true := by
      cases pl with
      | leaf k t =>
        refine ⟨(k, t), ?_, ?_⟩
        · rw [nodesOf, partsPl, nodesAll]
        · rw [partsPl, plsOk]
      | node k ps =>
        refine ⟨(k, .int (ps.length : Int)), ?_, ?_⟩
        · rw [nodesOf, partsPl]
        · rw [plOk, Bool.and_eq_true] at hok
          rw [partsPl]
          exact hok.2
    have hn1 : (nodesAll (partsPl pl)).length + 1 = xs.length := by rw [hxn, hn0, List.length_cons]
    refine ⟨Nat.zero_le _, fun l nl => ?_⟩
    have nH : H l = none := nl
    have s1 : Same H (upd H l (.lst [])) := same_new nl
    refine ⟨fun m σ H2 => ∃ (d qs : List Pl) (us : List V) (x3 : Option V), m = qs.length ∧ partsPl pl = d ++ qs ∧ σ = [some (.ref p), some (.ref l), some (.int ((1 + (nodesAll d).length : Nat) : Int)), x3] ∧ Same H H2 ∧ H2 l = some (.lst us) ∧ PartsAt K H2 us d, ⟨_, [], partsPl pl, [], none, rfl, rfl, ?_, s1, upd_same, .nil⟩, ?_⟩
    · rw [nodesAll]
      rfl
    · rintro m σ H2 ⟨d, qs, us, x3, rfl, hdq, rfl, s2, e2, hp⟩
      have hall : (nodesAll (partsPl pl)).length = (nodesAll d).length + (nodesAll qs).length := by rw [hdq, nodesAll_append, List.length_append]
      refine ⟨_, rfl, _, rfl, .inl ⟨p, xs, rfl, .inr ((stk s2).seq hS), _, _, rfl, rfl, _, rfl, ?_⟩⟩
      cases qs with
      | nil =>
        rw [nodesAll] at hall
        have hall : (nodesAll (partsPl pl)).length = (nodesAll d).length := hall
        refine iteF' (decide_eq_false (by omega)) ⟨_, rfl, ?_⟩
        rw [List.append_nil] at hdq
        refine q l us H2 s2 nH e2 ?_
        rw [hdq]
        exact hp
      | cons t qs =>
        have ht := nodesOf_pos t
        have hall : (nodesAll (partsPl pl)).length = (nodesAll d).length + ((nodesOf t).length + (nodesAll qs).length) := by
          rw [hall, nodesAll, List.length_append]
        refine iteT' (decide_eq_true (by omega)) ⟨_, fun σ' H' h => h, ?_⟩
        have hokt : plOk t = true := by
          rw [hdq, plsOk_app, Bool.and_eq_true] at hok2
          have := hok2.2
          rw [plsOk, Bool.and_eq_true] at this
          exact this.1
        have hdrop : (nodesOf pl).drop (1 + (nodesAll d).length) = nodesOf t ++ nodesAll qs := by
          rw [hn0, Nat.add_comm, List.drop_succ_cons, hdq, nodesAll_append, List.drop_left, nodesAll]
        refine ⟨_, rfl, _, rfl, p, xs, nodesOf pl, 1 + (nodesAll d).length, t, nodesAll qs, rfl, (stk s2).seq hS, hN.tk (stk s2), hlen, hdrop, hokt, ?_⟩
        refine ⟨_, rfl, .inl ⟨rfl, _, SqL.of e2⟩, _, rfl, _, rfl, _, rfl, _, rfl, _, rfl, p, xs, rfl, (stk s2).seq hS, ?_, fun r nr => ?_⟩
        · intro h
          have h := h.1
          rw [HT.sIx_nat] at h
          omega
        rw [cutC xs _ _ (by omega) (by omega)]
        have s3 := s2.trans (same_new (o := .tup ((xs.drop (1 + (nodesAll d).length)).take (1 + (nodesAll d).length + (nodesOf t).length - (1 + (nodesAll d).length)))) nr)
        have e3 := same_new (o := .tup ((xs.drop (1 + (nodesAll d).length)).take (1 + (nodesAll d).length + (nodesOf t).length - (1 + (nodesAll d).length)))) nr _ _ e2
        have hul := hp.length
        have hdl : d.length ≤ (nodesAll d).length := nodes_ge d
        refine ⟨l, us, .ref r, rfl, rfl, e3, small (by omega), ?_⟩
        have kp := Tk.put (ys := us ++ [V.ref r]) e3
        refine ⟨_, rfl, _, Nat.lt_succ_self _, d ++ [t], qs, us ++ [.ref r], some (.int ((1 + (nodesAll d).length + (nodesOf t).length : Nat) : Int)), rfl, by rw [hdq, List.append_assoc]; rfl, ?_, fun b o eb => ?_, upd_same, ?_⟩
        · have e5 : (1 + (nodesAll (d ++ [t])).length : Nat) = 1 + (nodesAll d).length + (nodesOf t).length := by
            rw [nodesAll_append, nodesAll, nodesAll, List.append_nil, List.length_append]
            omega
          rw [e5]
          rfl
        · rw [upd_ne (ne_of_none eb nH)]
          exact s3 b o eb
        · refine PartsAt.snoc (kp.seq (SqT.of upd_same)) ?_ ((hp.tk (Tk.new nr)).tk kp)
          have hnd := ((hN.tk (stk s3)).tk kp).drop (1 + (nodesAll d).length)
          have htk := hnd.take (1 + (nodesAll d).length + (nodesOf t).length - (1 + (nodesAll d).length))
          rw [hdrop, Nat.add_sub_cancel_left, List.take_left] at htk
          rw [Nat.add_sub_cancel_left]
          exact htk
end
end Eh
set_option Elab.async false
set_option linter.all false
set_option maxRecDepth 100000
set_option maxHeartbeats 2000000
set_option Elab.async false
set_option linter.all false
set_option maxRecDepth 100000
set_option maxHeartbeats 2000000
namespace Eh
open PySem PySem.Spec PyProof.Rows L2
theorem PartsAt.get {K : PySem.W.Frag} {H : Hp} : ∀ {vs : List V} {ps : List Pl}, PartsAt K H vs ps → ∀ {i : Nat} {v : V}, vs[i]? = some v → ∃ a ys p, v = .ref a ∧ ps[i]? = some p ∧ SqT K H a ys ∧ NdsAt K H ys (nodesOf p)
  | _, _, .nil, i, v, h => by simp at h
  | _, _, .cons (a := a) (ys := ys) (p := p) h n r, 0, v, hv => by
    cases (show some (V.ref a) = some v from hv)
    exact ⟨a, ys, p, rfl, rfl, h, n⟩
  | _, _, .cons h n r, i + 1, v, hv => r.get (i := i) hv
end Eh
set_option Elab.async false
set_option linter.all false
set_option maxRecDepth 100000
set_option maxHeartbeats 2000000
namespace Eh
open PySem PySem.Spec PyProof.Rows L2
mutual
theorem pl_due : ∀ {p : Pl}, plOk p = true → ∀ l rest, dueGo (l + 1) (nodesOf p ++ rest) = dueGo l rest
  | .leaf k t, h, l, rest => by
    rw [plOk] at h
    rw [nodesOf]
    show dueGo (l + partsN (k, t)) rest = _
    have e : partsN (k, t) = 0 := by
      unfold partsN
      rw [if_neg (fun z => by rw [show nodeKinds.contains k = true from z] at h; cases h)]
    rw [e]
    rfl
  | .node k ps, h, l, rest => by
    rw [plOk, Bool.and_eq_true] at h
    rw [nodesOf]
    show dueGo (l + partsN (k, .int (ps.length : Int))) (nodesAll ps ++ rest) = _
    have e : partsN (k, .int (ps.length : Int)) = ps.length := by
      unfold partsN
      rw [if_pos h.1]
      exact Int.toNat_natCast _
    rw [e]
    exact pls_due h.2 l rest
theorem pls_due : ∀ {ps : List Pl}, plsOk ps = true → ∀ l rest, dueGo (l + ps.length) (nodesAll ps ++ rest) = dueGo l rest
  | [], _, l, rest => by
    rw [nodesAll]
    rfl
  | p :: ps, h, l, rest => by
    rw [plsOk, Bool.and_eq_true] at h
    rw [nodesAll, List.append_assoc, List.length_cons, show l + (ps.length + 1) = (l + ps.length) + 1 from rfl, pl_due h.1, pls_due h.2]
end
theorem PrOk.same {K : PySem.W.Frag} {C a : Addr} {H H' : Hp} {ns : List (Str × V)} (h : PrOk K C H a ns) (s : Same H H') : PrOk K C H' a ns := by
  obtain ⟨dx, p, xs, e, hs, hN, ho⟩ := h
  exact ⟨dx, p, xs, s _ _ e, (stk s).seq hs, hN.tk (stk s), ho⟩
theorem PrOk.put {K : PySem.W.Frag} {C a l : Addr} {H : Hp} {ns : List (Str × V)} {us vs : List V} (h : PrOk K C H a ns) (e : H l = some (.lst us)) : PrOk K C (upd H l (.lst vs)) a ns := by
  obtain ⟨dx, p, xs, e1, hs, hN, ho⟩ := h
  have n : a ≠ l := fun z => by rw [z, e] at e1; cases e1
  exact ⟨dx, p, xs, by rw [upd_ne n]; exact e1, (Tk.put e).seq hs, hN.tk (Tk.put e), ho⟩
/-- promises in a row -/
inductive PrsAt (K : PySem.W.Frag) (C : Addr) (H : Hp) : List V → List Pl → Prop
  | nil : PrsAt K C H [] []
  | cons {a : Addr} {vs : List V} {p : Pl} {ps : List Pl} : PrOk K C H a (nodesOf p) → PrsAt K C H vs ps → PrsAt K C H (.ref a :: vs) (p :: ps)
theorem PrsAt.same {K : PySem.W.Frag} {C : Addr} {H H' : Hp} (s : Same H H') : ∀ {vs : List V} {ps : List Pl}, PrsAt K C H vs ps → PrsAt K C H' vs ps
  | _, _, .nil => .nil
  | _, _, .cons h r => .cons (h.same s) (PrsAt.same s r)
theorem PrsAt.put {K : PySem.W.Frag} {C l : Addr} {H : Hp} {us ws : List V} (e : H l = some (.lst us)) : ∀ {vs : List V} {ps : List Pl}, PrsAt K C H vs ps → PrsAt K C (upd H l (.lst ws)) vs ps
  | _, _, .nil => .nil
  | _, _, .cons h r => .cons (h.put e) (PrsAt.put e r)
theorem PrsAt.snoc {K : PySem.W.Frag} {C a : Addr} {H : Hp} {p : Pl} (h : PrOk K C H a (nodesOf p)) : ∀ {vs : List V} {ps : List Pl}, PrsAt K C H vs ps → PrsAt K C H (vs ++ [.ref a]) (ps ++ [p])
  | _, _, .nil => .cons h .nil
  | _, _, .cons h' r => .cons h' (PrsAt.snoc h r)
theorem plsOk_get : ∀ {ps : List Pl} {i : Nat} {p : Pl}, plsOk ps = true → ps[i]? = some p → plOk p = true
  | [], _, _, _, h => by simp at h
  | q :: ps, 0, p, o, h => by
    cases (show some q = some p from h)
    rw [plsOk, Bool.and_eq_true] at o
    exact o.1
  | q :: ps, i + 1, p, o, h => by
    rw [plsOk, Bool.and_eq_true] at o
    exact plsOk_get (ps := ps) (i := i) o.2 h
section
variable {P : Program} {w : World} {K : PySem.W.Frag} {mg : Str → Option Value} {base : Heap}
/-- good nodes make a promise: what __init__ wants -/
theorem good_nodes {H : Hp} {p : Addr} {ys : List V} {ns : List (Str × V)} (hs : SqT K H p ys) (hN : NdsAt K H ys ns) (ho : ∀ n ∈ ns, NOk n) (hd : dueGo 1 ns = true) (hl : ns.length ≤ 15) : NodesV K H (.ref p) (ns.map some) true ∧ Few (ns.map some) true := by
  have g : GoodN ns := fun n hn => (ho n hn).1
  have w : InW uni6 ns := fun k z hz => (ho _ hz).2 z rfl
  have ok : okNs (ns.map some) = true := by rw [not_due_of rfl]; exact hd
  have nv := NodesV.tup hs (nds_all hN g w)
  have fw := few_of (nds := ns.map some) (fact_some w) (by rw [List.length_map]; exact hl)
  rw [ok] at nv fw
  exact ⟨nv, fw⟩
def spPartsP (K : PySem.W.Frag) (C : Addr) : Sp := fun vs H Q _ => ∃ a pl, vs = [.ref a] ∧ PrOk K C H a (nodesOf pl) ∧ plOk pl = true ∧ (nodesOf pl).length ≤ 15 ∧ ∀ r us H', Same H H' → H r = none → H' r = some (.tup us) → PrsAt K C H' us (partsPl pl) → Q (.ref r) H'
theorem ok_partsP {C CE fI fL fO f : Addr} {fdI fdO fd : FuncData} (F : Fun K "parts" "Promise.parts" s_Promise_parts f fd) (T : Txt mg) (PC : PromC K mg C fI fL) (C_parts_of : Cal P w K mg base 2 "parts_of" fO fdO ["nodes"] (spPartsOf K))
    (GI : FnOk P w K mg base (L2.CX P w) 4 fI fdI ["self", "nodes"] (spInit K C CE)) (bI : Binds K fdI ["self", "nodes"] []) : FnOk P w K mg base CX0 6 f fd ["self"] (spPartsP K C) := by
  refine F.ok sc_Promise_parts (fun vs H Q E h => ?_) (fun cdv A outer s H vs Q E hr h => ?_)
  · obtain ⟨a, pl, rfl, _⟩ := h
    rfl
  · obtain ⟨a, pl, rfl, ⟨dx0, p, xs, ha, hs, hN, ho⟩, hok, hl, q⟩ := h
    have hr2 := hr.mono (j := 2) (by omega)
    refine ⟨_, (pss_one (ps_ret (pe_callTy call_tuple_of (by rfl) T.tuple_ (by decide +kernel) (pa_cons (pe_lc (own := [("nodes", 1)]) (g := gName 1) (by rfl) sc_Promise_parts.nd (piL (K := K) rfl (pe_call C_parts_of.G hr2 (by rfl) C_parts_of.m C_parts_of.k C_parts_of.b .nil pass0 (pa_cons (pe_fld (pv 0) rfl) pa_nil))) (blkOk_by (by kernel_rfl)) (fun _ _ _ _ _ => (pg_name (i := 1) sc_Promise_parts.nd rfl (.inl rfl))) (fun _ _ _ _ _ => pts_nil) (fun _ _ _ _ _ => (pe_make PC.mkC GI hr (by rfl) PC.g bI .nil passL (pa_cons (pv 1) pa_nil)))) pa_nil)))), ?_⟩
    have hxn := hN.length
    refine ⟨_, rfl, a, C, dx0, _, .ref p, rfl, ha, PC.cl, PC.nn, rfl, p, xs, pl, rfl, hs, hN, hok, by omega, fun l us H1 s1 n1 e1 P1 => ?_⟩
    refine ⟨l, rfl, ⟨us, SqL.of e1⟩, fun D nD => ?_⟩
    have hok2 : plsOk (partsPl pl) = true := by
      cases pl with
      | leaf k t => rw [partsPl, plsOk]
      | node k ps =>
        rw [plOk, Bool.and_eq_true] at hok
        rw [partsPl]
        exact hok.2
    have hsub : ∀ {i : Nat} {t : Pl}, (partsPl pl)[i]? = some t → (∀ n ∈ nodesOf t, n ∈ nodesOf pl) ∧ (nodesOf t).length ≤ (nodesOf pl).length := fun {i t} h => by
      cases pl with
      | leaf k u =>
        rw [partsPl] at h
        simp at h
      | node k ps =>
        rw [partsPl] at h
        rw [nodesOf]
        exact ⟨fun n hn => List.mem_cons_of_mem _ (nodes_sub h n hn), Nat.le_succ_of_le (nodesOf_get h)⟩
    have nDH : H D = none := s1.free nD
    have nlD : l ≠ D := ne_of_none e1 nD
    have u0 := same_new (o := .lst []) nD
    refine lcL (K := K) (a := l) (xs := us) (fun j acc H2 => Same H H2 ∧ Same H1 H2 ∧ PrsAt K C H2 acc ((partsPl pl).take j)) ⟨s1.trans u0, u0, .nil⟩ (fun j acc H2 h => SqL.of (h.2.1 _ _ e1)) ?_ ?_
    · rintro j x acc H2 hx hl2 e ⟨s2, u2, hp⟩
      obtain ⟨b, ys, t, rfl, ht, hb, hn⟩ := P1.get hx
      have hul := P1.length
      have hj : j < 1000000 := by
        have h1 := (List.getElem?_eq_some_iff.mp hx).1
        have h2 := nodes_ge (partsPl pl)
        have h3 : (nodesAll (partsPl pl)).length ≤ (nodesOf pl).length := by
          cases pl with
          | leaf k u => rw [partsPl, nodesAll]; exact Nat.zero_le _
          | node k ps => rw [partsPl, nodesOf, List.length_cons]; exact Nat.le_succ _
        omega
      obtain ⟨hs1, hs2⟩ := hsub ht
      refine yesT ⟨_, rfl, fun x dx nx nd ne => ?_⟩
      have u3 : Same H2 (upd (upd H2 dx (.own x)) x (.ins C dx [])) := fun b' o' eb => by
        rw [upd_ne (ne_of_none eb nx), upd_ne (ne_of_none eb nd)]
        exact eb
      have t3 := stk (u2.trans u3)
      have hdt : dueGo 1 (nodesOf t) = true := by
        have := pl_due (plsOk_get hok2 ht) 0 []
        rw [List.append_nil] at this
        exact this
      have hot : ∀ n ∈ nodesOf t, NOk n := fun n hn' => ho n (hs1 n hn')
      obtain ⟨nv, fw⟩ := good_nodes (K := K) (t3.seq hb) (hn.tk t3) hot hdt (by omega)
      refine ⟨x, dx, .ref b, _, true, rfl, upd_same, nv, fw, fun _ H4 bt e4 => ⟨rfl, ?_⟩, fun z => nomatch z⟩
      have nx2 : H2 x = none := nx
      have s4 : Same H2 H4 := fun b' o' eb => bt b' o' (ne_of_none eb nx2) (u3 b' o' eb)
      have pr : PrOk K C H4 x (nodesOf t) := ⟨dx, b, ys, e4, (stk (u2.trans s4)).seq hb, hn.tk (stk (u2.trans s4)), hot⟩
      have nD1 : H1 D = none := nD
      refine LcK.mk hl2 hj (s4 _ _ e) ⟨fun b' o' eb => ?_, fun b' o' eb => ?_, ?_⟩
      · rw [upd_ne (ne_of_none eb nDH)]
        exact s4 _ _ (s2 b' o' eb)
      · rw [upd_ne (ne_of_none eb nD1)]
        exact s4 _ _ (u2 b' o' eb)
      · rw [take_succ' ht]
        exact PrsAt.snoc (pr.put (s4 _ _ e)) ((hp.same s4).put (s4 _ _ e))
    · rintro acc H2 hl2 e ⟨s2, u2, hp⟩
      have hul := P1.length
      rw [hul, List.take_length] at hp
      refine ⟨D, acc, rfl, .inl ⟨SqL.of e, fun r nr => ?_⟩⟩
      exact q r acc _ (s2.trans (same_new nr)) (s2.free nr) upd_same (hp.same (same_new nr))
end
end Eh
set_option Elab.async false
set_option linter.all false
set_option maxRecDepth 100000
set_option maxHeartbeats 2000000
namespace Eh
open PySem PySem.Spec PyProof.Rows L2
def popz : List Int → List Int
  | [] => []
  | x :: r => if x = 0 then popz r else x :: r
theorem popz_ne {x : Int} {r : List Int} (h : x ≠ 0) : popz (x :: r) = x :: r := by
  rw [popz, if_neg h]
/-- what is missing at the end, and the greatest depth met -/
def runD : List Int → Int → List (Str × V) → Int × Int
  | st, d, [] => (st.sum, d)
  | st, d, n :: ns => match popz st with
    | [] => (1, 0)
    | x :: r => if nodeKinds.contains n.1 = true then runD (intOf n.2 :: (x - 1) :: r) (max d ((r.length : Int) + 1)) ns else runD ((x - 1) :: r) (max d ((r.length : Int) + 1)) ns
def depthN (ns : List (Str × V)) : Int := if (runD [1] 0 ns).1 = 0 then (runD [1] 0 ns).2 else 0
theorem run_none {st : List Int} {d : Int} {n : Str × V} {ns : List (Str × V)} (h : popz st = []) : runD st d (n :: ns) = (1, 0) := by
  rw [runD, h]
theorem run_step {st : List Int} {d x : Int} {r : List Int} {n : Str × V} {ns : List (Str × V)} (h : popz st = x :: r) :
    runD st d (n :: ns) = if nodeKinds.contains n.1 = true then runD (intOf n.2 :: (x - 1) :: r) (max d ((r.length : Int) + 1)) ns else runD ((x - 1) :: r) (max d ((r.length : Int) + 1)) ns := by
  rw [runD, h]
theorem sum_rev (st : List Int) : st.reverse.sum = st.sum := by
  induction st with
  | nil => rfl
  | cons a r ih => rw [List.reverse_cons, List.sum_append, ih, List.sum_cons, List.sum_cons, List.sum_nil]; omega
section
variable {P : Program} {w : World} {K : PySem.W.Frag} {mg : Str → Option Value} {base : Heap}
def spDepthE (K : PySem.W.Frag) : Sp := fun vs H Q _ => ∃ p xs ns, vs = [.ref p] ∧ SqT K H p xs ∧ NdsAt K H xs ns ∧ GoodN ns ∧ xs.length < 1000 ∧
  ∀ (dd : Int) H', Same H H' → (1 ≤ dd ↔ dueGo 1 ns = true) → dd ≤ 1 + countIn nodeKinds ns → dd = depthN ns → Q (.int dd) H'
theorem ok_depth_ofE {p0 f : Addr} {fd : FuncData} (F : Fun K "depth_of" "depth_of" s_depth_of f fd) (T : Txt mg) (S : SignsAt K w mg p0) : FnOk P w K mg base CX0 1 f fd ["nodes"] (spDepthE K) := by
  refine F.ok sc_depth_of (fun vs H Q E h => ?_) (fun cdv A outer s H vs Q E hr h => ?_)
  · obtain ⟨p, xs, ns, rfl, _⟩ := h
    rfl
  · obtain ⟨p, xs, ns, rfl, hS, hN, hg, hlen, q⟩ := h
    refine ⟨_, (pss_cons (ps_set (i := 1) sc_depth_of.nd rfl (.inl rfl) (pe_lst (pa_cons pe_int pa_nil)))
  (pss_cons (ps_set (i := 2) sc_depth_of.nd rfl (.inl rfl) pe_int)
  (pss_cons (ps_for PassesOwn.never (by rfl) (pi_tup (pv 0)) (pg_tup (by rfl) (pgs_cons (pg_name (i := 3) sc_depth_of.nd rfl (.inl rfl)) (pgs_cons (pg_name (i := 4) sc_depth_of.nd rfl (.inl rfl)) pgs_nil)))
  (pss_cons (ps_while PassesOwn.never (PW.pt (pw_and (pt_truth (pv 1) (by intro _; rfl)) (pw_and1 (pt_cmpR op_eq (pe_ix (ixL (K := K) rfl) (pv 1) (pe_un un_neg pe_int) (fun _ _ => rfl)) pe_int (nomark _)))))
  (pss_one (ps_expr (bm0K (K := K) rfl (pe_bm0 PySem.F.plainAttrs_list PySem.F.slot_list_pop PySem.F.type_list_pop mt_pop (pv 1))))))
  (pss_cons (ps_if (pt_not (pt_truth (pv 1) (by intro _; rfl)))
  (pss_one (ps_ret pe_int))
  pss_nil)
  (pss_cons (ps_asg (pe_op op_sub (pe_ix (ixL (K := K) rfl) (pv 1) (pe_un un_neg pe_int) (fun _ _ => rfl)) pe_int) (pg_sub (pv 1) (pe_un un_neg pe_int) set_list))
  (pss_cons (ps_set (i := 2) sc_depth_of.nd rfl (.inl rfl) (pe_callB (call_max2 (by rfl)) (by rfl) T.max_ (by decide +kernel) (pa_cons (pv 2) (pa_cons (pe_callB (lenQ (K := K) rfl) (by rfl) T.len_ (by decide +kernel) (pa_cons (pv 1) pa_nil)) pa_nil))))
  (pss_one (ps_if (pt_cmpR (inKd S rfl rfl) (pv 3) (pe_glob (v := .ref p0) rfl S.g rfl) (by rfl))
  (pss_one (ps_expr (bmK (K := K) rfl (pe_bm PySem.F.plainAttrs_list PySem.F.slot_list_append PySem.F.type_list_append mt_append (pv 1) (pa_cons (pv 4) pa_nil)))))
  pss_nil)))))))
  (pss_one (ps_ret (pe_ifExp (pt_cmpR op_eq (pe_callB (cr_sum (by rfl)) (by rfl) T.sum_ (by decide +kernel) (pa_cons (pv 1) pa_nil)) pe_int (nomark _)) (pv 2) pe_int)))))), ?_⟩
    refine ⟨lenOk 1, fun l nl => ?_⟩
    have s1 : Same H (upd H l (.lst [.int 1])) := same_new nl
    have hxn := hN.length
    refine ⟨_, rfl, p, rfl, ⟨xs, (stk s1).seq hS⟩, for_tup (K := K) (a := p) (xs := xs) (fun i σ H2 => ∃ (st : List Int) (dp : Int) (x3 x4 : Option V), σ = [some (.ref p), some (.ref l), some (.int dp), x3, x4] ∧ Same H H2 ∧ H2 l = some (.lst (st.map V.int)) ∧ Stk st ∧
      dueGo 1 ns = dueGo st.sum.toNat (ns.drop i) ∧ (st.length : Int) ≤ 1 + countIn nodeKinds (ns.take i) ∧ dp ≤ 1 + countIn nodeKinds (ns.take i) ∧ (1 ≤ dp ∨ 0 < st.sum) ∧ st.length ≤ i + 1 ∧ (i = 0 → dp = 0) ∧ runD [1] 0 ns = runD st.reverse dp (ns.drop i)) ?_ (fun i σ H2 _ h => ?_) ?_ ?_⟩
    · refine ⟨[1], 0, none, none, rfl, s1, upd_same, ?_, rfl, ?_, ?_, .inr (by decide), Nat.le_refl _, fun _ => rfl, rfl⟩
      · intro x hx
        rw [List.mem_singleton.mp hx]
        decide
      · show (1 : Int) ≤ 1 + _
        omega
      · omega
    · obtain ⟨st, dp, x3, x4, _, s2, _⟩ := h
      exact (stk s2).seq hS
    · rintro i x σ H2 hi ⟨st, dp, x3, x4, rfl, s2, e2, hst, hdue, hsl, hdp, hor, hsi, _, hrun⟩
      obtain ⟨a, k, t, rfl, hk, ha⟩ := hN.get hi
      have hgn := hg _ (List.mem_of_getElem? hk)
      have hi9 : i < 1000 := by
        have := (List.getElem?_eq_some_iff.mp hi).1
        omega
      refine ⟨a, _, rfl, (stk s2).seq ha, rfl, _, _, rfl, _, _, rfl, rfl, ?_⟩
      refine ⟨fun m σ H3 => ∃ st' : List Int, m = st'.length ∧ σ = [some (.ref p), some (.ref l), some (.int dp), some (.str k), some t] ∧ Same H H3 ∧ H3 l = some (.lst (st'.map V.int)) ∧ Stk st' ∧ st'.sum = st.sum ∧ st'.length ≤ st.length ∧ popz st'.reverse = popz st.reverse, ⟨_, st, rfl, rfl, s2, e2, hst, rfl, Nat.le_refl _, rfl⟩, ?_⟩
      rintro m σ H3 ⟨st', rfl, rfl, s3, e3, hst', hsum, hl', hpz⟩
      have nH : H l = none := nl
      have keep : ∀ {H' : Hp} {o : HO}, Same H H' → Same H (upd H' l o) := fun {H' o} s b u eb => by
        rw [upd_ne (ne_of_none eb nH)]
        exact s b u eb
      have dr := drop_at hk
      rcases last_or (st := st') with rfl | ⟨pre, x, rfl⟩
      · -- nothing is missing any more
        refine ⟨_, rfl, false, .inl ⟨[], SqL.of e3, rfl⟩, ?_⟩
        refine iteF ?_
        refine ⟨_, rfl, false, .inl ⟨[], SqL.of e3, rfl⟩, ?_⟩
        refine iteT ?_
        refine q 0 H3 s3 ⟨fun z => by omega, fun z => ?_⟩ (by omega) ?_
        · rw [hdue, ← hsum, dr] at z
          cases z
        · rw [dr, run_none hpz.symm] at hrun
          unfold depthN
          rw [hrun]
          rfl
      · rw [map_last] at e3
        have hx0 : 0 ≤ x := hst' x (List.mem_append_right _ List.mem_cons_self)
        have hpre : Stk pre := fun y hy => hst' y (List.mem_append_left _ hy)
        have hsum : pre.sum + x = st.sum := by rw [← hsum, sum_set]
        have hl' : pre.length + 1 ≤ st.length := by rw [List.length_append] at hl'; exact hl'
        refine ⟨_, rfl, true, .inl ⟨_, SqL.of e3, by simp⟩, iteT ⟨_, rfl, _, rfl, l, _, (-1), .int x, rfl, rfl, SqL.of e3, atI_last, rfl, _, rfl, ?_⟩⟩
        by_cases hx : V.int x = V.int 0
        · rw [decide_eq_true hx]
          have hx : x = 0 := by injection hx
          refine iteT ⟨_, fun σ' H' h => h, ?_⟩
          refine ⟨_, rfl, .inl ⟨rfl, _, SqL.of e3⟩, l, _, .int x, rfl, rfl, e3, ?_, ?_⟩
          · rw [List.length_append, List.length_singleton, Nat.add_sub_cancel]
            exact List.getElem?_concat_length
          · rw [List.dropLast_concat]
            exact ⟨pre.length, by rw [List.length_append]; exact Nat.lt_succ_self _, pre, rfl, rfl, keep s3, upd_same, hpre, by omega, by omega, by rw [← hpz, List.reverse_append]; show _ = popz (x :: pre.reverse); rw [hx]; rfl⟩
        · rw [decide_eq_false hx]
          have hx : x ≠ 0 := fun e => hx (by rw [e])
          refine iteF ?_
          refine ⟨_, rfl, true, .inl ⟨_, SqL.of e3, by simp⟩, iteF ?_⟩
          refine ⟨_, rfl, _, rfl, l, _, (-1), .int x, rfl, rfl, SqL.of e3, atI_last, _, _, rfl, rfl, ?_⟩
          refine ⟨_, rfl, _, rfl, l, _, (-1), pre.length, rfl, rfl, e3, ?_, ?_⟩
          · rw [List.length_append, List.length_map]
            exact ixN_last _
          rw [set_last]
          have s4 : Same H (upd H3 l (.lst ((pre ++ [x - 1]).map V.int))) := keep s3
          have hst4 : Stk (pre ++ [x - 1]) := fun y hy => by
            rcases List.mem_append.mp hy with h | h
            · exact hpre y h
            · rw [List.mem_singleton.mp h]
              omega
          have hps := hpre.sum
          refine ⟨_, rfl, _, rfl, .inl ⟨l, _, rfl, .inl (SqL.of upd_same), _, _, rfl, ?_⟩⟩
          obtain ⟨d2, ed, hd1, hd2⟩ : ∃ d2 : Int, (if (((pre ++ [x - 1]).map V.int).length : Int) > dp then (((pre ++ [x - 1]).map V.int).length : Int) else dp) = d2 ∧ 1 ≤ d2 ∧ d2 ≤ 1 + countIn nodeKinds (ns.take i) := by
            refine ⟨_, rfl, ?_⟩
            rw [List.length_map, List.length_append, List.length_singleton]
            split <;> omega
          rw [ed]
          have hrs := run_step (d := dp) (n := (k, t)) (ns := ns.drop (i + 1)) (show popz st.reverse = x :: pre.reverse from by rw [← hpz, List.reverse_append]; exact popz_ne hx)
          rw [dr] at hrun
          rw [hrs] at hrun
          have ed2 : d2 = max dp ((pre.reverse.length : Int) + 1) := by
            rw [← ed, List.length_map, List.length_append, List.length_singleton, List.length_reverse]
            show (if ((pre.length + 1 : Nat) : Int) > dp then ((pre.length + 1 : Nat) : Int) else dp) = _
            rw [Int.max_def]
            split <;> split <;> omega
          have ct : countIn nodeKinds (ns.take (i + 1)) = countIn nodeKinds (ns.take i) + countIn nodeKinds [(k, t)] := by rw [take_succ' hk, countIn_app]
          refine ⟨_, rfl, k, rfl, rfl, _, rfl, ?_⟩
          cases ek : nodeKinds.contains k with
          | true =>
            obtain ⟨ti, rfl, ht2, ht4⟩ := good_int hgn ek
            rw [countIn_one, if_pos ek] at ct
            refine iteT ⟨_, rfl, .inl ⟨rfl, _, SqL.of upd_same⟩, _, rfl, l, _, .int ti, rfl, rfl, upd_same, small (by rw [List.length_map, List.length_append, List.length_singleton]; omega), ?_⟩
            rw [← map_last]
            refine ⟨(pre ++ [x - 1]) ++ [ti], d2, _, _, rfl, keep s4, upd_same, ?_, ?_, ?_, ?_, ?_, ?_, (fun e => by omega), ?_⟩
            · intro y hy
              rcases List.mem_append.mp hy with h | h
              · exact hst4 y h
              · rw [List.mem_singleton.mp h]
                omega
            · rw [hdue, dr, ← hsum, due_step (by omega), sum_set, sum_set]
              congr 2
              unfold partsN
              rw [if_pos ek]
              show pre.sum + x - 1 + ((ti.toNat : Nat) : Int) = _
              omega
            · rw [List.length_append, List.length_append, List.length_singleton, List.length_singleton]
              omega
            · omega
            · exact .inl hd1
            · rw [List.length_append, List.length_append, List.length_singleton, List.length_singleton]
              omega
            · rw [hrun, if_pos (show nodeKinds.contains (k, V.int ti).1 = true from ek), ← ed2, List.reverse_append, List.reverse_append]
              rfl
          | false =>
            rw [countIn_one, if_neg (by rw [ek]; exact Bool.false_ne_true)] at ct
            refine iteF ⟨pre ++ [x - 1], d2, _, _, rfl, s4, upd_same, hst4, ?_, ?_, ?_, ?_, ?_, (fun e => by omega), ?_⟩
            · rw [hdue, dr, ← hsum, due_step (by omega), sum_set]
              congr 2
              unfold partsN
              rw [if_neg (by rw [ek]; exact Bool.false_ne_true)]
              show pre.sum + x - 1 + 0 = _
              omega
            · rw [List.length_append, List.length_singleton]
              omega
            · omega
            · exact .inl hd1
            · rw [List.length_append, List.length_singleton]
              omega
            · rw [hrun, if_neg (show ¬ nodeKinds.contains (k, t).1 = true by rw [show nodeKinds.contains (k, t).1 = false from ek]; exact Bool.false_ne_true), ← ed2, List.reverse_append]
              rfl
    · rintro σ H2 ⟨st, dp, x3, x4, rfl, s2, e2, hst, hdue, hsl, hdp, hor, hsi, h0, hrun⟩
      refine ⟨_, rfl, l, st, rfl, SqL.of e2, rfl, _, rfl, ?_⟩
      rw [hxn, List.drop_length] at hdue
      rw [hxn, List.take_length] at hsl hdp
      have hs := hst.sum
      have hd : dueGo 1 ns = decide (st.sum.toNat = 0) := hdue
      rw [hxn, List.drop_length] at hrun
      have hrun : runD [1] 0 ns = (st.reverse.sum, dp) := hrun
      rw [sum_rev] at hrun
      refine ite2 (fun h => ?_) (fun h => ?_)
      · have h : V.int st.sum = V.int 0 := of_decide_eq_true h
        have h : st.sum = 0 := by injection h
        refine ⟨_, rfl, q dp H2 s2 ⟨fun _ => by rw [hd]; exact decide_eq_true (by omega), fun _ => by omega⟩ hdp (by unfold depthN; rw [hrun, if_pos h])⟩
      · have h : st.sum ≠ 0 := fun e => h (decide_eq_true (by rw [e]))
        exact q 0 H2 s2 ⟨fun z => by omega, fun z => by rw [hd] at z; have := of_decide_eq_true z; omega⟩ (by omega) (by unfold depthN; rw [hrun, if_neg h])
end
end Eh
set_option Elab.async false
set_option linter.all false
set_option maxRecDepth 100000
set_option maxHeartbeats 2000000
namespace Eh
open PySem PySem.Spec PyProof.Rows L2
theorem run_pop {st st' : List Int} {d : Int} {ns : List (Str × V)} (h : popz st = popz st') (hs : st.sum = st'.sum) : runD st d ns = runD st' d ns := by
  cases ns with
  | nil => rw [runD, runD, hs]
  | cons n ns => rw [runD, runD, h]
mutual
/-- a tree in which each inner node has a part -/
def plFull : Pl → Bool
  | .leaf _ _ => true
  | .node _ ps => !ps.isEmpty && plsFull ps
def plsFull : List Pl → Bool
  | [] => true
  | p :: ps => plFull p && plsFull ps
end
mutual
theorem run_tree : ∀ {p : Pl}, plOk p = true → plFull p = true → ∀ (x : Int) (r : List Int) (d : Int) (rest : List (Str × V)), 1 ≤ x →
    runD (x :: r) d (nodesOf p ++ rest) = runD ((x - 1) :: r) (max d ((r.length : Int) + depthOf p)) rest
  | .leaf k t, h, _, x, r, d, rest, hx => by
    rw [plOk] at h
    rw [nodesOf, depthOf]
    show runD (x :: r) d ((k, t) :: rest) = _
    rw [run_step (popz_ne (by omega)), if_neg (fun z => by rw [show nodeKinds.contains k = true from z] at h; cases h)]
    rfl
  | .node k ps, h, f, x, r, d, rest, hx => by
    rw [plOk, Bool.and_eq_true] at h
    rw [plFull, Bool.and_eq_true] at f
    rw [nodesOf, depthOf]
    show runD (x :: r) d ((k, .int (ps.length : Int)) :: (nodesAll ps ++ rest)) = _
    rw [run_step (popz_ne (by omega)), if_pos h.1]
    show runD ((ps.length : Int) :: (x - 1) :: r) _ _ = _
    have hne : ps.isEmpty = false := by simpa using f.1
    rw [run_trees h.2 f.2 ((x - 1) :: r) _ rest, hne, if_neg Bool.false_ne_true]
    have e : max (max d ((r.length : Int) + 1)) ((((x - 1) :: r).length : Int) + depthAll ps) = max d ((r.length : Int) + ((1 + depthAll ps : Nat) : Int)) := by
      rw [List.length_cons]
      omega
    rw [e]
    refine run_pop ?_ ?_
    · show popz (0 :: (x - 1) :: r) = _
      rw [popz, if_pos rfl]
    · rw [List.sum_cons]
      omega
theorem run_trees : ∀ {ps : List Pl}, plsOk ps = true → plsFull ps = true → ∀ (r : List Int) (d : Int) (rest : List (Str × V)),
    runD ((ps.length : Int) :: r) d (nodesAll ps ++ rest) = runD (0 :: r) (max d (if ps.isEmpty = true then d else (r.length : Int) + depthAll ps)) rest
  | [], _, _, r, d, rest => by
    rw [nodesAll]
    show runD (0 :: r) d rest = runD (0 :: r) (max d (if true = true then d else _)) rest
    rw [if_pos rfl, Int.max_self]
  | p :: ps, h, f, r, d, rest => by
    rw [plsOk, Bool.and_eq_true] at h
    rw [plsFull, Bool.and_eq_true] at f
    rw [nodesAll, List.append_assoc, run_tree h.1 f.1 _ r d _ (by rw [List.length_cons]; omega)]
    have e1 : (((p :: ps).length : Int) - 1) = (ps.length : Int) := by
      rw [List.length_cons]
      omega
    rw [e1, run_trees h.2 f.2 r _ rest, depthAll]
    congr 1
    cases ps with
    | nil =>
      show max _ (if true = true then _ else _) = max d (if false = true then _ else _)
      rw [if_pos rfl, if_neg Bool.false_ne_true, depthAll]
      omega
    | cons q qs =>
      show max _ (if false = true then _ else _) = max d (if false = true then _ else _)
      rw [if_neg Bool.false_ne_true, if_neg Bool.false_ne_true]
      omega
end
theorem depth_tree {p : Pl} (h : plOk p = true) (f : plFull p = true) : depthN (nodesOf p) = depthOf p := by
  have e := run_tree h f 1 [] 0 [] (by decide)
  rw [List.append_nil] at e
  unfold depthN
  rw [e]
  show (if (([(1 : Int) - 1]).sum) = 0 then max 0 ((0 : Int) + depthOf p) else 0) = _
  rw [if_pos (by decide)]
  omega
mutual
theorem At.full {K : PySem.W.Frag} {H : Hp} : ∀ {v : V} {p : Pl}, At K H v p → plFull p = true
  | _, _, .leaf h o => by rw [plFull]
  | _, _, .node (ps := ps) h1 h2 o a b r => by
    rw [plFull, AtAll.full r]
    cases ps with
    | nil => exact absurd a (by decide)
    | cons _ _ => rfl
theorem AtAll.full {K : PySem.W.Frag} {H : Hp} : ∀ {vs : List V} {ps : List Pl}, AtAll K H vs ps → plsFull ps = true
  | _, _, .nil => by rw [plsFull]
  | _, _, .cons h r => by
    rw [plsFull, At.full h, AtAll.full r]
    rfl
end
end Eh
set_option Elab.async false
set_option linter.all false
set_option maxRecDepth 100000
set_option maxHeartbeats 2000000
namespace Eh
open PySem PySem.Spec PyProof.Rows L2
/-- each text once -/
def nubS (zs : List Str) : List Str := zs.foldl (fun acc z => put z acc) []
theorem nub_fold : ∀ (zs acc : List Str), acc.Nodup → (zs.foldl (fun acc z => put z acc) acc).Nodup ∧ ∀ x, x ∈ zs.foldl (fun acc z => put z acc) acc ↔ x ∈ acc ∨ x ∈ zs
  | [], acc, h => ⟨h, fun x => by simp⟩
  | z :: zs, acc, h => by
    obtain ⟨a, b⟩ := nub_fold zs (put z acc) (nodup_put h)
    refine ⟨a, fun x => ?_⟩
    rw [List.foldl_cons, b x, mem_put, List.mem_cons]
    constructor
    · rintro ((h | h) | h)
      · exact .inr (.inl h)
      · exact .inl h
      · exact .inr (.inr h)
    · rintro (h | h | h)
      · exact .inl (.inr h)
      · exact .inl (.inl h)
      · exact .inr h
theorem nub_len {ys zs : List Str} (nd : ys.Nodup) (h : ∀ z, z ∈ ys ↔ z ∈ zs) : ys.length = (nubS zs).length := by
  obtain ⟨a, b⟩ := nub_fold zs [] List.nodup_nil
  have m : ∀ x, x ∈ nubS zs ↔ x ∈ zs := fun x => by
    unfold nubS
    rw [b x]
    simp
  have u1 := nodup_le nd (us := nubS zs) fun z hz => (m z).mpr ((h z).mp hz)
  have u2 := nodup_le a (us := ys) fun z hz => (h z).mpr ((m z).mp hz)
  have u2 : (nubS zs).length ≤ ys.length := u2
  omega
def boundB (ns : List (Str × V)) : Bool := decide ((nubS (factsN ns)).length ≤ 6) && decide (countIn choiceKinds ns ≤ 10) && (decide (1 ≤ depthN ns) && decide (depthN ns ≤ 8))
def areB (nds : List (Option (Str × V))) : Bool := decide (nds.length ≤ 40) && (nds.all Option.isSome && boundB (nds.filterMap id))
inductive NodesW (K : PySem.W.Frag) (H : Hp) : V → Bool → Prop
  | other {v : V} : NoT H v → NodesW K H v false
  | tup {p : Addr} {xs : List V} {nds : List (Option (Str × V))} : SqT K H p xs → NdAll K H xs nds → NodesW K H (.ref p) (areB nds)
section
variable {P : Program} {w : World} {K : PySem.W.Frag} {mg : Str → Option Value} {base : Heap}
def spAreE (K : PySem.W.Frag) : Sp := fun vs H Q _ => ∃ v b, vs = [v] ∧ NodesW K H v b ∧ ∀ H', Same H H' → Q (.bl b) H'
theorem ok_are_nodesE {fN fF fC fD f : Addr} {fdN fdF fdC fdD fd : FuncData} (F : Fun K "_are_nodes" "_are_nodes" s__are_nodes f fd) (T : Txt mg)
    (c40 : ∃ t, mg "MAX_NODES" = some (.int 40 t)) (c6 : ∃ t, mg "MAX_FACTS" = some (.int 6 t)) (c10 : ∃ t, mg "MAX_CHOICES" = some (.int 10 t)) (c8 : ∃ t, mg "MAX_DEPTH" = some (.int 8 t))
    (C_is_node : Cal P w K mg base 2 "is_node" fN fdN ["value"] (spIsNode K)) (C_facts_of : Cal P w K mg base 1 "facts_of" fF fdF ["nodes"] (spFacts K)) (C_choices_of : Cal P w K mg base 1 "choices_of" fC fdC ["nodes"] (spChoices K)) (C_depth_of : Cal P w K mg base 1 "depth_of" fD fdD ["nodes"] (spDepthE K)) :
    FnOk P w K mg base CX0 3 f fd ["value"] (spAreE K) := by
  obtain ⟨t40, e40⟩ := c40
  obtain ⟨t6, e6⟩ := c6
  obtain ⟨t10, e10⟩ := c10
  obtain ⟨t8, e8⟩ := c8
  refine F.ok sc__are_nodes (fun vs H Q E h => ?_) (fun cdv A outer s H vs Q E hr h => ?_)
  · obtain ⟨v, b, rfl, _⟩ := h
    rfl
  · obtain ⟨v, b, rfl, hv, q⟩ := h
    have hr1 := hr.mono (j := 1) (by omega)
    refine ⟨_, (pss_cons (ps_if (PW.pt (pw_or (pt_not (pt_val (pe_callB (isiQ (K := K) rfl) (by rfl) T.isinstance_ (by decide +kernel) (pa_cons (pv 0) (pa_cons (pe_bltn (v := .ty "tuple") (by rfl) T.tuple_ (by decide +kernel) rfl) pa_nil))))) (pw_or1 (pt_cmpR op_gt (pe_callB (lenQ (K := K) rfl) (by rfl) T.len_ (by decide +kernel) (pa_cons (pv 0) pa_nil)) (pe_glob (v := .int 40) rfl e40 ⟨_, rfl⟩) (nomark _)))))
  (pss_one (ps_ret pe_bl))
  pss_nil)
  (pss_cons (ps_if (pt_not (pt_val (pe_callB (allQ (K := K) rfl (by rfl)) (by rfl) T.all_ (by decide +kernel) (pa_cons (pe_lc (own := [("node", 1)]) (g := gName 1) (by rfl) sc__are_nodes.nd (pi_tup (pv 0)) (blkOk_by (by kernel_rfl)) (fun _ _ _ _ _ => (pg_name (i := 1) sc__are_nodes.nd rfl (.inl rfl))) (fun _ _ _ _ _ => pts_nil) (fun _ _ _ _ _ => (pe_call C_is_node.G hr (by rfl) C_is_node.m C_is_node.k C_is_node.b .nil pass0 (pa_cons (pv 1) pa_nil)))) pa_nil))))
  (pss_one (ps_ret pe_bl))
  pss_nil)
  (pss_cons (ps_if (PW.pt (pw_or (pt_cmpR op_gt (pe_callB (lenQ (K := K) rfl) (by rfl) T.len_ (by decide +kernel) (pa_cons (pe_call C_facts_of.G hr1 (by rfl) C_facts_of.m C_facts_of.k C_facts_of.b .nil pass0 (pa_cons (pv 0) pa_nil)) pa_nil)) (pe_glob (v := .int 6) rfl e6 ⟨_, rfl⟩) (nomark _)) (pw_or1 (pt_cmpR op_gt (pe_call C_choices_of.G hr1 (by rfl) C_choices_of.m C_choices_of.k C_choices_of.b .nil pass0 (pa_cons (pv 0) pa_nil)) (pe_glob (v := .int 10) rfl e10 ⟨_, rfl⟩) (nomark _)))))
  (pss_one (ps_ret pe_bl))
  pss_nil)
  (pss_one (ps_ret (pe_chain op_le op_le pe_int (pe_call C_depth_of.G hr1 (by rfl) C_depth_of.m C_depth_of.k C_depth_of.b .nil pass0 (pa_cons (pv 0) pa_nil)) (pe_glob (v := .int 8) rfl e8 ⟨_, rfl⟩))))))), ?_⟩
    cases hv with
    | other hno =>
      obtain ⟨u, ty, hk⟩ := hno.ty (K := K)
      exact ⟨_, rfl, v, .ty "tuple", _, .type "tuple", false, rfl, .ty _, ty, hk, _, rfl, iteT (q _ (Same.refl H))⟩
    | tup hs hn =>
      rename_i p xs nds
      have hlen := hn.length
      refine ⟨_, rfl, .ref p, .ty "tuple", _, .type "tuple", true, rfl, .ty _, ty_tup hs, kitTT, _, rfl, iteF ⟨_, rfl, .inl ⟨p, xs, rfl, .inr hs, _, 40, rfl, rfl, _, rfl, ite2 (fun h => ?_) (fun h => ?_)⟩⟩⟩
      · have h : (40 : Int) < xs.length := of_decide_eq_true h
        have eb : areB nds = false := by
          unfold areB
          rw [decide_eq_false (show ¬ nds.length ≤ 40 by omega)]
          rfl
        have q' := q _ (Same.refl H)
        rw [eb] at q'
        exact q'
      have hx40 : xs.length ≤ 40 := by
        have : ¬ (40 : Int) < xs.length := fun z => h (decide_eq_true z)
        omega
      have q : ∀ H', Same H H' → Q (.bl (nds.all Option.isSome && boundB (nds.filterMap id))) H' := fun H' s => by
        have q' := q H' s
        unfold areB at q'
        rw [decide_eq_true (show nds.length ≤ 40 by omega), Bool.true_and] at q'
        exact q'
      refine ⟨_, rfl, p, rfl, ⟨xs, hs⟩, fun D nD => ?_⟩
      have s1 : Same H (upd H D (.lst [])) := same_new nD
      refine lcT (K := K) (a := p) (xs := xs) (fun j acc H2 => Same H H2 ∧ acc = ((nds.take j).map Option.isSome).map V.bl) ⟨s1, rfl⟩ (fun j acc H2 h => (stk h.1).seq hs) ?_ ?_
      · rintro j x acc H2 hx hl e ⟨s2, ea⟩
        obtain ⟨n, en, hnd⟩ := hn.get hx
        have hj : j < 60 := by
          have := (List.getElem?_eq_some_iff.mp hx).1
          omega
        refine yesT ⟨_, rfl, x, n, rfl, hnd.ku (ku_same s2), fun H3 s3 => ?_⟩
        refine LcK.mk hl (by omega) (s3 _ _ e) ⟨fun b o eb => ?_, ?_⟩
        · rw [upd_ne (ne_of_none eb nD)]
          exact s3 _ _ (s2 b o eb)
        · rw [ea, take_succ' en, List.map_append, List.map_append]
          rfl
      · rintro acc H2 hl e ⟨s2, ea⟩
        refine ⟨D, _, rfl, SqL.of (e.trans (by rw [ea])), ?_⟩
        rw [hlen, List.take_length, List.all_map]
        cases ha : nds.all (id ∘ Option.isSome) with
        | false =>
          refine ⟨_, rfl, iteT ?_⟩
          have q' := q _ s2
          rw [show nds.all Option.isSome = false from ha, Bool.false_and] at q'
          exact q'
        | true =>
          obtain ⟨ns, en⟩ := all_some ha
          subst en
          obtain ⟨N, hg⟩ := hn.nds
          have hnl := N.length
          have q : ∀ H', Same H H' → Q (.bl (boundB ns)) H' := fun H' s => by
            have q' := q H' s
            rw [filterMap_some, show (ns.map some).all Option.isSome = true from ha, Bool.true_and] at q'
            exact q'
          refine ⟨_, rfl, iteF ?_⟩
          refine ⟨_, rfl, p, xs, ns, rfl, (stk s2).seq hs, N.tk (stk s2), hg, by omega, fun ys p3 H3 s3 n3 e3 nd so mem => ?_⟩
          have hys : ys.length = (nubS (factsN ns)).length := nub_len nd mem
          have s4 := s2.trans s3
          refine .inl ⟨p3, _, rfl, .inr (SqT.of e3), _, 6, rfl, rfl, _, rfl, ?_⟩
          rw [List.length_map, hys]
          by_cases h6 : (nubS (factsN ns)).length ≤ 6
          · rw [decide_eq_false (by omega)]
            refine iteF ?_
            refine ⟨_, rfl, p, xs, ns, rfl, (stk s4).seq hs, N.tk (stk s4), by omega, fun H5 s5 => ?_⟩
            have s6 := s4.trans s5
            refine ⟨_, 10, rfl, rfl, _, rfl, ?_⟩
            by_cases h10 : countIn choiceKinds ns ≤ 10
            · rw [decide_eq_false (by omega)]
              refine iteF ?_
              refine ⟨_, rfl, p, xs, ns, rfl, (stk s6).seq hs, N.tk (stk s6), hg, by omega, fun dd H7 s7 d1 d2 d3 => ?_⟩
              have q' := q _ (s6.trans s7)
              unfold boundB at q'
              rw [decide_eq_true h6, decide_eq_true h10, Bool.true_and, Bool.true_and, ← d3] at q'
              refine ⟨1, dd, rfl, rfl, _, rfl, ?_⟩
              cases e1 : decide ((1 : Int) ≤ dd) with
              | false =>
                rw [e1, Bool.false_and] at q'
                exact iteF q'
              | true =>
                rw [e1, Bool.true_and] at q'
                exact iteT ⟨dd, 8, rfl, rfl, q'⟩
            · rw [decide_eq_true (by omega)]
              refine iteT ?_
              have q' := q _ s6
              unfold boundB at q'
              rw [decide_eq_false h10, Bool.and_false, Bool.false_and] at q'
              exact q'
          · rw [decide_eq_true (by omega)]
            refine iteT ?_
            have q' := q _ s4
            unfold boundB at q'
            rw [decide_eq_false h6, Bool.false_and, Bool.false_and] at q'
            exact q'
end
end Eh
set_option Elab.async false
set_option linter.all false
set_option maxRecDepth 100000
set_option maxHeartbeats 2000000
namespace Eh
open PySem PySem.Spec PyProof.Rows L2
theorem asc_fact {z : Str} (h : factS z = true) : Asc z := by
  unfold factS at h
  simp only [Bool.and_eq_true] at h
  have h8 := (of_decide_eq_true h.1.1.1).2
  refine ⟨by omega, fun c hc => ?_⟩
  have := List.all_eq_true.mp h.2 c hc
  unfold low at this
  have := of_decide_eq_true this
  omega
theorem good_eltG {K : PySem.W.Frag} {H : Hp} {k : Str} {t : V} (h : nodeAB k t = true) : Elt K H (.str k) ∧ Elt K H t := by
  refine ⟨eltS k (asc_kind h), ?_⟩
  cases t with
  | str z => exact .inl ⟨z, rfl, asc_fact (node_str h)⟩
  | int i => exact eltI i
  | bl b => exact eltB b
  | non => exact eltN
  | _ =>
    exfalso
    unfold nodeAB at h
    split at h
    · cases h
    · split at h
      · cases h
      · rw [Bool.and_eq_true] at h
        cases h.2
theorem nds_allG {K : PySem.W.Frag} {H : Hp} : ∀ {xs : List V} {ns : List (Str × V)}, NdsAt K H xs ns → GoodN ns → NdAll K H xs (ns.map some)
  | _, _, .nil, _ => .nil
  | _, _, .cons (k := k) (t := t) (ns := ns) h r, g => by
    have hg := g _ List.mem_cons_self
    obtain ⟨e1, e2⟩ := good_eltG (K := K) (H := H) hg
    have e : pairNd (.str k) t = some (k, t) := by
      show (if nodeAB k t = true then some (k, t) else none) = _
      rw [if_pos hg]
    have p := NdV.pair h e1 e2
    rw [e] at p
    exact .cons p (nds_allG r fun n hn => g n (List.mem_cons_of_mem _ hn))
theorem NodesW.ku {K : PySem.W.Frag} {H H' : Hp} {v : V} {b : Bool} (h : NodesW K H v b) (k : Ku H H') : NodesW K H' v b := by
  cases h with
  | other t => exact .other (t.ku k)
  | tup h n => exact .tup (k.tk.seq h) (n.ku k)
/-- whether good nodes are those of a promise -/
def okB (ns : List (Str × V)) : Bool := decide (ns.length ≤ 40) && boundB ns
theorem are_some (ns : List (Str × V)) : areB (ns.map some) = okB ns := by
  unfold areB okB
  rw [List.length_map, filterMap_some, show (ns.map some).all Option.isSome = true from by rw [List.all_map]; exact List.all_eq_true.mpr fun _ _ => rfl, Bool.true_and]
theorem good_W {K : PySem.W.Frag} {H : Hp} {p : Addr} {ys : List V} {ns : List (Str × V)} (hs : SqT K H p ys) (hN : NdsAt K H ys ns) (g : GoodN ns) : NodesW K H (.ref p) (okB ns) := by
  have h := NodesW.tup hs (nds_allG hN g)
  rw [are_some] at h
  exact h
/-- a promise with good nodes -/
def PrG (K : PySem.W.Frag) (C : Addr) (H : Hp) (a : Addr) (ns : List (Str × V)) : Prop := ∃ dx p xs, H a = some (.ins C dx [(("_nodes" : Str), .ref p)]) ∧ SqT K H p xs ∧ NdsAt K H xs ns ∧ GoodN ns
section
variable {P : Program} {w : World} {K : PySem.W.Frag} {mg : Str → Option Value} {base : Heap}
def spInitE (K : PySem.W.Frag) (C CE : Addr) : Sp := fun vs H Q E => ∃ x dx v b, vs = [.ref x, v] ∧ H x = some (.ins C dx []) ∧ NodesW K H v b ∧
  (b = true → ∀ H', But x H H' → H' x = some (.ins C dx [(("_nodes" : Str), v)]) → Q .non H') ∧ (b = false → ∀ H', Same H H' → E (.ref CE) none H')
theorem ok_initE {C fL CE fA f : Addr} {fdA fd : FuncData} (F : Fun K "__init__" "Promise.__init__" s_Promise___init__ f fd) (T : Txt mg) (R : ErrC K mg "InvalidPromise" CE) (PC : PromC K mg C f fL)
    (C__are_nodes : Cal P w K mg base 3 "_are_nodes" fA fdA ["value"] (spAreE K)) : FnOk P w K mg base (L2.CX P w) 4 f fd ["self", "nodes"] (spInitE K C CE) := by
  refine F.okX sc_Promise___init__ (fun vs H Q E h => ?_) (fun cdv A outer s H vs Q E hr h => ?_)
  · obtain ⟨x, dx, v, b, rfl, _⟩ := h
    rfl
  · obtain ⟨x, dx, v, b, rfl, ex, hv, q1, q2⟩ := h
    refine ⟨_, (pss_cons (ps_if (pt_not (pt_val (pe_call C__are_nodes.G hr (by rfl) C__are_nodes.m C__are_nodes.k C__are_nodes.b .nil pass0 (pa_cons (pv 1) pa_nil))))
      (pss_one (ps_raise rfl (takes_of rfl rfl rfl rfl) (pmk_own PySem.F.excBase_ValueError R.q R.g R.k (raises_own R.b R.t) rfl))) pss_nil)
      (pss_one (ps_fld (pv 0) (pv 1) rfl))), ?_⟩
    refine ⟨_, rfl, v, b, rfl, hv, fun H1 s1 => ⟨_, rfl, ?_⟩⟩
    cases b with
    | false => exact iteT (q2 rfl H1 s1)
    | true =>
      refine iteF ?_
      refine ⟨_, rfl, _, rfl, x, C, dx, [], rfl, s1 _ _ ex, PC.cl, PC.nn, by decide, ?_⟩
      exact q1 rfl _ (fun b o n e => by rw [upd_ne n]; exact s1 b o e) upd_same
/-- what is laid by making, and what __init__ leaves -/
theorem made_steps {K : PySem.W.Frag} {C x dx p : Addr} {H H4 : Hp} {ys : List V} {ns : List (Str × V)} (nx : H x = none) (nd : H dx = none) (hs : SqT K H p ys) (hN : NdsAt K H ys ns) (g : GoodN ns)
    (bt : But x (upd (upd H dx (.own x)) x (.ins C dx [])) H4) (e4 : H4 x = some (.ins C dx [(("_nodes" : Str), .ref p)])) : Same H H4 ∧ PrG K C H4 x ns := by
  have s3 : Same H (upd (upd H dx (.own x)) x (.ins C dx [])) := fun b o e => by
    rw [upd_ne (ne_of_none e nx), upd_ne (ne_of_none e nd)]
    exact e
  have s4 : Same H H4 := fun b o e => bt b o (ne_of_none e nx) (s3 b o e)
  exact ⟨s4, dx, p, ys, e4, (stk s4).seq hs, hN.tk (stk s4), g⟩
def spMadeE (K : PySem.W.Frag) (C CE : Addr) (n : Nat) : Sp := fun vs H Q E => ∃ v pl, vs = [v] ∧ At K H v pl ∧ GoodN (nodesOf pl) ∧ (nodesOf pl).length ≤ n ∧ n < 1000 ∧
  (okB (nodesOf pl) = true → ∀ x H', Same H H' → H x = none → PrG K C H' x (nodesOf pl) → Q (.ref x) H') ∧ (okB (nodesOf pl) = false → ∀ H', Same H H' → E (.ref CE) none H')
end
end Eh
set_option Elab.async false
set_option linter.all false
set_option maxRecDepth 100000
set_option maxHeartbeats 2000000
namespace Eh
open PySem PySem.Spec PyProof.Rows L2
section
variable {P : Program} {w : World} {K : PySem.W.Frag} {mg : Str → Option Value} {base : Heap}
/-- the promise of a plain one, or the error where it is beyond a bound -/
theorem ok_madeE {n : Nat} {fN fI fL C CE f : Addr} {fdN fdI fd : FuncData} (F : Fun K "_law_made" "_law_made" s__law_made f fd) (T : Txt mg) (PC : PromC K mg C fI fL) (C__law_nodes : Cal P w K mg base (n + 1) "_law_nodes" fN fdN ["plain"] (spNodes K n))
    (GI : FnOk P w K mg base (L2.CX P w) 4 fI fdI ["self", "nodes"] (spInitE K C CE)) (bI : Binds K fdI ["self", "nodes"] []) : FnOk P w K mg base (L2.CX P w) (n + 6) f fd ["plain"] (spMadeE K C CE n) := by
  refine F.okX sc__law_made (fun vs H Q E h => ?_) (fun cdv A outer s H vs Q E hr h => ?_)
  · obtain ⟨v, pl, rfl, _⟩ := h
    rfl
  · obtain ⟨v, pl, rfl, hA, gd, hl, hn, q1, q2⟩ := h
    have hr1 := hr.mono (j := n + 1) (by omega)
    have hr5 := hr.mono (j := 5) (by omega)
    refine ⟨_, (pss_one (ps_ret (pe_makeS PC.mkC GI hr5 (by rfl) PC.g bI (fun σ => passAt (takes_of rfl rfl rfl rfl) σ) (pa_cons (pe_callTy call_tuple_of (by rfl) T.tuple_ (by decide +kernel) (pa_cons (pe_call C__law_nodes.G hr1 (by rfl) C__law_nodes.m C__law_nodes.k C__law_nodes.b .nil pass0 (pa_cons (pv 0) pa_nil)) pa_nil)) pa_nil)))), ?_⟩
    refine ⟨_, rfl, v, pl, rfl, hA, hl, by omega, fun xs l H1 s1 n1 e1 N1 => ?_⟩
    refine ⟨l, xs, rfl, .inl ⟨SqL.of e1, fun p np => fun x dx nx nd ne => ?_⟩⟩
    have s2 : Same H (upd H1 p (.tup xs)) := s1.trans (same_new np)
    have h2 : SqT K (upd H1 p (.tup xs)) p xs := SqT.of upd_same
    have N2 := N1.tk (Tk.new (o := .tup xs) np)
    generalize upd H1 p (.tup xs) = H2 at s2 h2 N2 nx nd ⊢
    have u3 : Same H2 (upd (upd H2 dx (.own x)) x (.ins C dx [])) := fun b' o' eb => by
      rw [upd_ne (ne_of_none eb nx), upd_ne (ne_of_none eb nd)]
      exact eb
    refine ⟨x, dx, .ref p, okB (nodesOf pl), rfl, upd_same, (good_W h2 N2 gd).ku (ku_same u3), fun eb H4 bt e4 => ⟨rfl, ?_⟩, fun eb H4 s4 => ?_⟩
    · obtain ⟨s5, pr⟩ := made_steps nx nd h2 N2 gd bt e4
      exact q1 eb x H4 (s2.trans s5) (s2.free nx) pr
    · exact q2 eb H4 (s2.trans (u3.trans s4))
end
end Eh
set_option Elab.async false
set_option linter.all false
set_option maxRecDepth 100000
set_option maxHeartbeats 2000000
namespace Eh
open PySem PySem.Spec PyProof.Rows L2
theorem goodAll_app {a b : List (Str × V)} (h : GoodN a) (k : GoodN b) : GoodN (a ++ b) := fun n hn => (List.mem_append.mp hn).elim (h n) (k n)
end Eh
set_option Elab.async false
set_option linter.all false
set_option maxRecDepth 100000
set_option maxHeartbeats 2000000
namespace Eh
open PySem PySem.Spec PyProof.Rows L2
def NGd (n : Str × V) : Prop := nodeAB n.1 n.2 = true
theorem told_casesG {n : Str × V} (h : NGd n) : (∃ z, n.2 = .str z ∧ factS z = true) ∨ ∃ i, n.2 = .int i := by
  obtain ⟨k, t⟩ := n
  have h : nodeAB k t = true := h
  cases t with
  | str z => exact .inl ⟨z, rfl, node_str h⟩
  | int i => exact .inr ⟨i, rfl⟩
  | _ =>
    exfalso
    have hg : nodeAB k _ = true := h
    unfold nodeAB at hg
    split at hg
    · cases hg
    · split at hg
      · cases hg
      · rw [Bool.and_eq_true] at hg
        cases hg.2
theorem dp_nodeG {K : PySem.W.Frag} {H : Hp} {a : Addr} {n : Str × V} (h : SqT K H a [.str n.1, n.2]) (o : NGd n) : Dp K H (.ref a) (nodeD n) := by
  refine .tup h (.cons (.str n.1) (.cons ?_ .nil))
  rcases told_casesG o with ⟨z, e, _⟩ | ⟨i, e⟩
  · rw [e]
    exact .str z
  · rw [e]
    exact .int i
theorem dp_nodesG {K : PySem.W.Frag} {H : Hp} : ∀ {xs : List V} {ns : List (Str × V)}, NdsAt K H xs ns → (∀ n ∈ ns, NGd n) → DpAll K H xs (ns.map nodeD)
  | _, _, .nil, _ => .nil
  | _, _, .cons (k := k) (t := t) h r, o => .cons (dp_nodeG (n := (k, t)) h (o _ List.mem_cons_self)) (dp_nodesG r fun n hn => o n (List.mem_cons_of_mem _ hn))
theorem told_eqvG {a b : Str × V} (ha : NGd a) (hb : NGd b) : PyData.eqv (toldD a.2) (toldD b.2) = decide (a.2 = b.2) := by
  rcases told_casesG ha with ⟨z, e, _⟩ | ⟨i, e⟩ <;> rcases told_casesG hb with ⟨y, e', _⟩ | ⟨j, e'⟩ <;> rw [e, e']
  · show (z == y) = _
    rw [sbeq]
    exact decide_eq_decide.mpr ⟨fun h => by rw [h], fun h => by injection h⟩
  · show false = _
    exact (decide_eq_false (fun h => by cases h)).symm
  · show false = _
    exact (decide_eq_false (fun h => by cases h)).symm
  · show (i == j) = _
    rw [show (i == j) = decide (i = j) from by rw [Bool.eq_iff_iff, beq_iff_eq, decide_eq_true_iff]]
    exact decide_eq_decide.mpr ⟨fun h => by rw [h], fun h => by injection h⟩
theorem node_eqvG {a b : Str × V} (ha : NGd a) (hb : NGd b) : PyData.eqv (nodeD a) (nodeD b) = decide (a = b) := by
  show ((a.1 == b.1) && (PyData.eqv (toldD a.2) (toldD b.2) && true)) = _
  rw [told_eqvG ha hb, Bool.and_true, sbeq, Bool.eq_iff_iff, Bool.and_eq_true, decide_eq_true_iff, decide_eq_true_iff, decide_eq_true_iff]
  exact ⟨fun h => Prod.ext h.1 h.2, fun h => by rw [h]; exact ⟨rfl, rfl⟩⟩
theorem nodes_eqvAllG : ∀ {ns ms : List (Str × V)}, (∀ n ∈ ns, NGd n) → (∀ n ∈ ms, NGd n) → PyData.eqvAll (ns.map nodeD) (ms.map nodeD) = decide (ns = ms)
  | [], [], _, _ => rfl
  | [], b :: ms, _, _ => rfl
  | a :: ns, [], _, _ => rfl
  | a :: ns, b :: ms, ha, hb => by
    have ih := nodes_eqvAllG (fun n hn => ha n (List.mem_cons_of_mem _ hn)) (fun n hn => hb n (List.mem_cons_of_mem _ hn)) (ns := ns) (ms := ms)
    show (PyData.eqv (nodeD a) (nodeD b) && PyData.eqvAll (ns.map nodeD) (ms.map nodeD)) = _
    rw [ih, node_eqvG (ha a List.mem_cons_self) (hb b List.mem_cons_self), Bool.eq_iff_iff, Bool.and_eq_true, decide_eq_true_iff, decide_eq_true_iff, decide_eq_true_iff]
    exact ⟨fun h => by rw [h.1, h.2], fun h => by injection h with h1 h2; exact ⟨h1, h2⟩⟩
theorem nodes_eqvG {ns ms : List (Str × V)} (ha : ∀ n ∈ ns, NGd n) (hb : ∀ n ∈ ms, NGd n) : PyData.eqv (nodesD ns) (nodesD ms) = decide (ns = ms) := nodes_eqvAllG ha hb
theorem told_layG {n : Str × V} (h : NGd n) : PyData.canLay0 (toldD n.2) = true ∧ PyData.depth (toldD n.2) = 0 := by
  rcases told_casesG h with ⟨z, e, hz⟩ | ⟨i, e⟩
  · rw [e]
    refine ⟨?_, rfl⟩
    have ha := asc_fact hz
    show (z.cps.all fun c => decide (c < 0x110000)) = true
    rw [← Array.all_toList]
    exact List.all_eq_true.mpr fun c hc => decide_eq_true (by have := ha.2 c hc; omega)
  · rw [e]
    exact ⟨rfl, rfl⟩
theorem nodes_layAllG : ∀ {ns : List (Str × V)}, (∀ n ∈ ns, NGd n) → PyData.canLayAll0 (ns.map nodeD) = true ∧ PyData.depthAll (ns.map nodeD) ≤ 1
  | [], _ => ⟨rfl, Nat.zero_le _⟩
  | a :: ns, h => by
    obtain ⟨i1, i2⟩ := nodes_layAllG (fun n hn => h n (List.mem_cons_of_mem _ hn) : ∀ n ∈ ns, NGd n)
    have ha := h a List.mem_cons_self
    obtain ⟨t1, t2⟩ := told_layG ha
    have d1 : PyData.depth (nodeD a) = 1 := by
      show max 0 (max (PyData.depth (toldD a.2)) 0) + 1 = 1
      rw [t2]
      rfl
    refine ⟨?_, ?_⟩
    · show ((PyData.canLay0 (.str a.1) && (PyData.canLay0 (toldD a.2) && true)) && PyData.canLayAll0 (ns.map nodeD)) = true
      rw [kind_lay ha, t1, i1]
      rfl
    · show max (PyData.depth (nodeD a)) (PyData.depthAll (ns.map nodeD)) ≤ 1
      rw [d1]
      omega
theorem nodes_shapedG {ns : List (Str × V)} (h : ∀ n ∈ ns, NGd n) : SeqAt.shaped (nodesD ns) = true := by
  obtain ⟨a, b⟩ := nodes_layAllG h
  unfold SeqAt.shaped
  rw [show PyData.canLay0 (nodesD ns) = true from a, Bool.true_and]
  refine decide_eq_true ?_
  show PyData.depthAll (ns.map nodeD) + 1 ≤ 64
  omega
section
variable {P : Program} {w : World} {K : PySem.W.Frag} {mg : Str → Option Value} {base : Heap}
def spEqG (K : PySem.W.Frag) (C : Addr) : Sp := fun vs H Q _ => ∃ a b ns ms, vs = [.ref a, .ref b] ∧ PrG K C H a ns ∧ PrG K C H b ms ∧ Q (.bl (decide (ns = ms))) H
end
end Eh
set_option Elab.async false
set_option linter.all false
set_option maxRecDepth 100000
set_option maxHeartbeats 2000000
namespace Eh
open PySem PySem.Spec PyProof.Rows L2
theorem slA {X : Cx} {K : PySem.W.Frag} (h : X.K = K) : SlR X (rSlA K) := by subst h; exact sl_tupA
theorem cutD (xs : List V) (a b : Nat) (h : a ≤ xs.length) (h2 : a ≤ b) : cutV xs (some (a : Int)) (some (b : Int)) = (xs.drop a).take (b - a) := by
  unfold cutV
  rw [HT.sIx_nat, HT.sIx_nat, Nat.min_eq_left h]
  by_cases hb : b ≤ xs.length
  · rw [Nat.min_eq_left hb]
  · rw [Nat.min_eq_right (by omega), List.take_of_length_le (by rw [List.length_drop]; exact Nat.le_refl _), List.take_of_length_le (by rw [List.length_drop]; omega)]
end Eh
set_option Elab.async false
set_option linter.all false
set_option maxRecDepth 100000
set_option maxHeartbeats 2000000
set_option Elab.async false
set_option linter.all false
set_option maxRecDepth 100000
set_option maxHeartbeats 2000000
set_option Elab.async false
set_option linter.all false
set_option maxRecDepth 100000
set_option maxHeartbeats 2000000
set_option Elab.async false
set_option linter.all false
set_option maxRecDepth 100000
set_option maxHeartbeats 2000000
namespace Eh
open PySem PySem.Spec PyProof.Rows L2
section
variable {X : Cx} {pins : List (Addr × Obj)} {σ : L2.St} {H : Hp} {s : Shared} {n : Nat} {f C : Addr} {fd : FuncData} {ps : List Str} {sp : Sp} {CX : CXT} {E : XK}
/-- a call of an own def somewhere below -/
theorem run_own {A : Around} {us : List Value} {vs : List V} {Q : VK} (F : FnOk X.prog X.w X.K X.mg X.base CX n f fd ps sp) (hb : Binds X.K fd ps []) (hx : Passes CX X E) (sb : Sub X n A) (I : Inv X pins σ H s) (r : Vals vs us) (hsp : sp vs H Q E) :
    wpAny (model X.prog X.w) A (call (.ref f) us) (EP X pins σ Q) X.xe s := by
  have e0 : Env0 X.prog X.w X.K X.mg X.base A X.stack s H := by
    have e := I.env0
    exact ⟨by rw [sb.fr]; exact e.frames, e.mod, e.bs, e.bsz, e.funs, e.frf, e.hok, e.bare⟩
  have hl := F.len _ _ _ _ hsp
  have hu : us.length = ps.length := by rw [← r.length]; exact hl
  have b := hb s us I.kIn (by rw [List.append_nil]; exact hu)
  rw [List.append_nil] at b
  refine wpAny_call (codeAny_mono (F.run A X.stack s H ⟨us, []⟩ us vs Q E sb.room e0 b r hsp) fun r s' hq => ?_)
  cases r with
  | error e => exact hx pins σ H s e s' I hq
  | ok fl =>
    cases fl with
    | ret u => exact I.after hq
    | next => exact False.elim hq
    | brk => exact False.elim hq
    | cont => exact False.elim hq
def rEqOwn (C : Addr) (sp : Sp) (E : XK) : R2 := fun x y H Q => ∃ a b dx dy fs gs, x = .ref a ∧ y = .ref b ∧ H a = some (.ins C dx fs) ∧ H b = some (.ins C dy gs) ∧ sp [.ref a, .ref b] H (fun v H' => ∃ k, v = .bl k ∧ Q (.bl k) H') E
theorem eqOwn (F : FnOk X.prog X.w X.K X.mg X.base CX n f fd ps sp) (hr : Room n X.A) (hs : PySem.W.findIn X.K (.ref C) "__eq__" = some (some (.ref f))) (hf : PySem.W.isFn X.K (.ref f) = true) (hb : Binds X.K fd ps []) (hx : Passes CX X E) :
    OpR X (compareOp .Eq) (rEqOwn C sp E) := by
  intro pins s σ H x y v u Q I rx ry h
  obtain ⟨a, b, dx, dy, fs, gs, rfl, rfl, ha, hb', q⟩ := h
  cases rx
  cases ry
  obtain ⟨mA, J, _⟩ := ins_get I.hok ha
  obtain ⟨mB, J', _⟩ := ins_get I.hok hb'
  obtain ⟨od, J, _⟩ := J.look
  obtain ⟨od', J', _⟩ := J'.look
  obtain ⟨m, hF⟩ := I.fr
  show wpAny _ _ (richCompare .Eq _ _) _ _ _
  refine PySem.W.cmp_K (op := .Eq) (tb := .ref C) hr.units0 hF I.ok.mod.kin J J'.type (by simp [PySem.W.notFirst]) hs hf (wpAny_mono (run_own (us := [.ref a, .ref b]) (vs := [.ref a, .ref b]) F hb hx ⟨hr, rfl⟩ I (.cons rfl (.cons rfl .nil)) q) (fun r s' z => ?_) fun _ _ e => e)
  obtain ⟨z, H', I', rz, k, rfl, q'⟩ := z
  cases rz
  exact ⟨.bl k, H', I', rfl, q'⟩
end
end Eh
set_option Elab.async false
set_option linter.all false
set_option maxRecDepth 100000
set_option maxHeartbeats 4000000
namespace Eh
open PySem PySem.Spec PyProof.Rows L2
def puts (xs : List Str) : List Str := xs.foldl (fun ts x => put x ts) []
theorem put_mem (x z : Str) (ts : List Str) : z ∈ put x ts ↔ z = x ∨ z ∈ ts := by
  unfold put
  split
  · exact ⟨.inr, fun h => h.elim (fun e => by rw [e]; assumption) id⟩
  · exact List.mem_cons
theorem put_nodup {x : Str} {ts : List Str} (h : ts.Nodup) : (put x ts).Nodup := by
  unfold put
  split
  · exact h
  · exact List.nodup_cons.mpr ⟨by assumption, h⟩
theorem foldl_put_mem : ∀ (xs ts : List Str) (z : Str), z ∈ xs.foldl (fun ts x => put x ts) ts ↔ z ∈ xs ∨ z ∈ ts
  | [], ts, z => by simp
  | x :: xs, ts, z => by
    rw [List.foldl_cons, foldl_put_mem xs (put x ts) z, put_mem, List.mem_cons]
    constructor
    · rintro (h | h | h)
      · exact .inl (.inr h)
      · exact .inl (.inl h)
      · exact .inr h
    · rintro ((h | h) | h)
      · exact .inr (.inl h)
      · exact .inl h
      · exact .inr (.inr h)
theorem foldl_put_nodup : ∀ (xs ts : List Str), ts.Nodup → (xs.foldl (fun ts x => put x ts) ts).Nodup
  | [], ts, h => h
  | x :: xs, ts, h => foldl_put_nodup xs _ (put_nodup h)
theorem puts_mem (xs : List Str) (z : Str) : z ∈ puts xs ↔ z ∈ xs := by
  unfold puts
  rw [foldl_put_mem]
  exact ⟨fun h => h.elim id (fun h => nomatch h), .inl⟩
theorem puts_nodup (xs : List Str) : (puts xs).Nodup := foldl_put_nodup xs [] List.nodup_nil
end Eh
set_option Elab.async false
set_option linter.all false
set_option maxRecDepth 100000
set_option maxHeartbeats 2000000
set_option Elab.async false
set_option linter.all false
set_option maxRecDepth 100000
set_option maxHeartbeats 2000000
set_option Elab.async false
set_option linter.all false
set_option maxRecDepth 100000
set_option maxHeartbeats 2000000
set_option Elab.async false
set_option linter.all false
set_option maxRecDepth 100000
set_option maxHeartbeats 2000000
namespace Eh
open PySem PySem.Spec PyProof.Rows L2
def inR (v : V) (m : Int) : Bool := match v with
  | .int i => decide (0 ≤ i) && decide (i < m)
  | _ => false
def idxV (v : V) (m : Int) : Bool := intV v && inR v m
theorem intV_int {v : V} (h : intV v = true) : ∃ i, v = .int i := by
  cases v with
  | int i => exact ⟨i, rfl⟩
  | _ => cases h
section
variable {P : Program} {w : World} {K : PySem.W.Frag} {mg : Str → Option Value} {base : Heap}
def spIndex (K : PySem.W.Frag) : Sp := fun vs H Q _ => ∃ v m, vs = [v, .int m] ∧ KindI K H v ∧ Q (.bl (idxV v m)) H
theorem ok_is_index {fI f : Addr} {fdI fd : FuncData} (F : Fun K "is_index" "is_index" s_is_index f fd) (T : Txt mg) (C_is_integer : Cal P w K mg base 1 "is_integer" fI fdI ["value"] (spInteger K)) : FnOk P w K mg base CX0 2 f fd ["value", "many"] (spIndex K) := by
  refine F.ok sc_is_index (fun vs H Q E h => ?_) (fun cdv A outer s H vs Q E hr h => ?_)
  · obtain ⟨v, m, rfl, _⟩ := h
    rfl
  · obtain ⟨v, m, rfl, hk, q⟩ := h
    refine ⟨_, (pss_one (ps_ret (pe_and (pe_call C_is_integer.G hr (by rfl) C_is_integer.m C_is_integer.k C_is_integer.b .nil pass0 (pa_cons (pv 0) pa_nil)) (pe_one (pe_chain op_le op_lt pe_int (pv 0) (pv 1)))))), ?_⟩
    refine ⟨_, rfl, v, rfl, hk, intV v, rfl, ?_⟩
    unfold idxV at q
    cases e : intV v with
    | false =>
      rw [e] at q
      exact iteF q
    | true =>
      obtain ⟨i, rfl⟩ := intV_int e
      rw [e] at q
      refine iteT ?_
      refine ⟨_, rfl, 0, i, rfl, rfl, decide (0 ≤ i), rfl, ?_⟩
      have q : Q (.bl (decide (0 ≤ i) && decide (i < m))) H := q
      by_cases h0 : 0 ≤ i
      · rw [decide_eq_true h0] at q ⊢
        refine iteT ⟨_, rfl, i, m, rfl, rfl, ?_⟩
        exact q
      · rw [decide_eq_false h0] at q ⊢
        exact iteF q
end
end Eh
set_option Elab.async false
set_option linter.all false
set_option maxRecDepth 100000
set_option maxHeartbeats 2000000
namespace Eh
open PySem PySem.Spec PyProof.Rows L2
inductive OddV (K : PySem.W.Frag) (H : Hp) : V → String → Prop
  | non : OddV K H .non "NoneType"
  | bl (b : Bool) : OddV K H (.bl b) "bool"
  | int (i : Int) : OddV K H (.int i) "int"
  | str (z : Str) : OddV K H (.str z) "str"
  | tup {a : Addr} {xs : List V} (h : SqT K H a xs) : OddV K H (.ref a) "tuple"
  | dK {a : Addr} {kvs : List (Key × V)} (h : H a = some (.dK kvs)) : OddV K H (.ref a) "dict"
structure OffC (K : PySem.W.Frag) (C : Addr) : Prop where
  sN : PySem.W.subIn K (.ref C) (.type "NoneType") = some false
  sB : PySem.W.subIn K (.ref C) (.type "bool") = some false
  sI : PySem.W.subIn K (.ref C) (.type "int") = some false
  sS : PySem.W.subIn K (.ref C) (.type "str") = some false
  sT : PySem.W.subIn K (.ref C) (.type "tuple") = some false
  sD : PySem.W.subIn K (.ref C) (.type "dict") = some false
  kN : PySem.W.kitOne K (.type "NoneType") (.ref C) = some false
  kB : PySem.W.kitOne K (.type "bool") (.ref C) = some false
  kI : PySem.W.kitOne K (.type "int") (.ref C) = some false
  kS : PySem.W.kitOne K (.type "str") (.ref C) = some false
  kT : PySem.W.kitOne K (.type "tuple") (.ref C) = some false
  kD : PySem.W.kitOne K (.type "dict") (.ref C) = some false
theorem OddV.sub {K : PySem.W.Frag} {H : Hp} {C : Addr} {v : V} {T : String} (h : OddV K H v T) (o : OffC K C) : PySem.W.subIn K (.ref C) (.type T) = some false := by
  cases h with
  | non => exact o.sN
  | bl => exact o.sB
  | int => exact o.sI
  | str => exact o.sS
  | tup => exact o.sT
  | dK => exact o.sD
theorem OddV.kit {K : PySem.W.Frag} {H : Hp} {C : Addr} {v : V} {T : String} (h : OddV K H v T) (o : OffC K C) : PySem.W.kitOne K (.type T) (.ref C) = some false := by
  cases h with
  | non => exact o.kN
  | bl => exact o.kB
  | int => exact o.kI
  | str => exact o.kS
  | tup => exact o.kT
  | dK => exact o.kD
theorem tyTup {K : PySem.W.Frag} {H : Hp} {a : Addr} {xs : List V} (h : SqT K H a xs) : TyX K H (.ref a) (.type "tuple") := by
  rcases h with (h | ⟨o, h⟩) | ⟨o, its, n, h1, h2, _⟩
  · exact .base (.tup h)
  · exact .fTuple h
  · exact .kTuple h1 h2
theorem OddV.ty {K : PySem.W.Frag} {H : Hp} {v : V} {T : String} (h : OddV K H v T) : TyX K H v (.type T) := by
  cases h with
  | non => exact .base .non
  | bl b => exact .base (.bl b)
  | int i => exact .base (.int i)
  | str z => exact .base (.str z)
  | tup h => exact tyTup h
  | dK h => exact .base (.dK h)
theorem OddV.same {K : PySem.W.Frag} {H H' : Hp} {v : V} {T : String} (h : OddV K H v T) (s : Same H H') : OddV K H' v T := by
  cases h with
  | non => exact .non
  | bl b => exact .bl b
  | int i => exact .int i
  | str z => exact .str z
  | tup h => exact .tup ((stk s).seq h)
  | dK h => exact .dK (s _ _ h)
section
variable {P : Program} {w : World} {K : PySem.W.Frag} {mg : Str → Option Value} {base : Heap}
def spEqA (K : PySem.W.Frag) (C : Addr) : Sp := fun vs H Q _ => (∃ a b ns ms, vs = [.ref a, .ref b] ∧ PrG K C H a ns ∧ PrG K C H b ms ∧ Q (.bl (decide (ns = ms))) H) ∨ ∃ a v T, vs = [.ref a, v] ∧ OddV K H v T ∧ Q (.bl false) H
theorem ok_eqA {C fI fL f : Addr} {fd : FuncData} (F : Fun K "__eq__" "Promise.__eq__" s_Promise___eq__ f fd) (T : Txt mg) (PC : PromC K mg C fI fL) (IC : IsC K C) (o : OffC K C) : FnOk P w K mg base CX0 1 f fd ["self", "value"] (spEqA K C) := by
  refine F.ok sc_Promise___eq__ (fun vs H Q E h => ?_) (fun cdv A outer s H vs Q E hr h => ?_)
  · rcases h with ⟨a, b, ns, ms, rfl, _⟩ | ⟨a, v, T, rfl, _⟩ <;> rfl
  · refine ⟨_, (pss_one (ps_ret (pe_and (pe_callB (isiQ (K := K) rfl) (by rfl) T.isinstance_ (by decide +kernel) (pa_cons (pv 1) (pa_cons (pe_glob (v := .ref C) rfl PC.g rfl) pa_nil))) (pe_one (pe_cmpR (eqD (K := K) rfl (hu64e hr)) (pe_fld (pv 0) rfl) (pe_fld (pv 1) rfl) (nomark _)))))), ?_⟩
    rcases h with ⟨a, b, ns, ms, rfl, ⟨dx, p, xs, ha, hs, hN, ho⟩, ⟨dy, r, ys, hb, hs2, hN2, ho2⟩, q⟩ | ⟨a, v, T, rfl, od, q⟩
    · refine ⟨_, rfl, .ref b, .ref C, .ref C, .ref C, true, rfl, .own _, .base (.ins hb PC.cl IC.cls IC.sp IC.tk IC.mro), IC.self, _, rfl, iteT ?_⟩
      refine ⟨_, rfl, a, C, dx, _, .ref p, rfl, ha, PC.cl, PC.nn, rfl, _, rfl, b, C, dy, _, .ref r, rfl, hb, PC.cl, PC.nn, rfl, ?_⟩
      refine ⟨nodesD ns, nodesD ms, .tup hs (dp_nodesG hN ho), .tup hs2 (dp_nodesG hN2 ho2), nodes_shapedG ho, nodes_shapedG ho2, ?_⟩
      rw [nodes_eqvG ho ho2]
      exact q
    · exact ⟨_, rfl, v, .ref C, .type T, .ref C, false, rfl, .own _, od.ty, od.kit o, _, rfl, iteF q⟩
end
end Eh
set_option Elab.async false
set_option linter.all false
set_option maxRecDepth 100000
set_option maxHeartbeats 2000000
namespace Eh
open PySem PySem.Spec PyProof.Rows L2
mutual
def innerOf : Pl → List Pl
  | .leaf k t => [.leaf k t]
  | .node k ps => .node k ps :: innerAll ps
def innerAll : List Pl → List Pl
  | [] => []
  | p :: ps => innerOf p ++ innerAll ps
end
/-- what stands at each place of the nodes -/
inductive DropI : List (Str × V) → List Pl → Prop
  | nil : DropI [] []
  | cons {p : Pl} {ns : List (Str × V)} {ps : List Pl} {n : Str × V} : (∃ r, n :: ns = nodesOf p ++ r) → DropI ns ps → DropI (n :: ns) (p :: ps)
mutual
theorem dropI_of : ∀ (p : Pl) {ns : List (Str × V)} {ps : List Pl}, DropI ns ps → DropI (nodesOf p ++ ns) (innerOf p ++ ps)
  | .leaf k t, ns, ps, h => by
    rw [nodesOf, innerOf]
    exact .cons ⟨ns, by rw [nodesOf]; rfl⟩ h
  | .node k qs, ns, ps, h => by
    have ih := dropI_all qs h
    rw [nodesOf, innerOf]
    exact .cons ⟨ns, by rw [nodesOf]; rfl⟩ ih
theorem dropI_all : ∀ (qs : List Pl) {ns : List (Str × V)} {ps : List Pl}, DropI ns ps → DropI (nodesAll qs ++ ns) (innerAll qs ++ ps)
  | [], ns, ps, h => by rw [nodesAll, innerAll]; exact h
  | q :: qs, ns, ps, h => by
    rw [nodesAll, innerAll, List.append_assoc, List.append_assoc]
    exact dropI_of q (dropI_all qs h)
end
theorem DropI.get : ∀ {ns : List (Str × V)} {ps : List Pl}, DropI ns ps → ∀ {i : Nat} {p : Pl}, ps[i]? = some p → i < ns.length ∧ ∃ r, ns.drop i = nodesOf p ++ r
  | _, _, .nil, i, p, h => by simp at h
  | _, _, .cons (p := q) (n := n) (ns := ns) hr t, 0, p, h => by
    cases (show some q = some p from h)
    exact ⟨Nat.succ_pos _, hr⟩
  | _, _, .cons hr t, i + 1, p, h => by
    obtain ⟨a, b⟩ := t.get (i := i) h
    exact ⟨Nat.succ_lt_succ a, b⟩
theorem DropI.length : ∀ {ns : List (Str × V)} {ps : List Pl}, DropI ns ps → ps.length = ns.length
  | _, _, .nil => rfl
  | _, _, .cons _ t => by rw [List.length_cons, List.length_cons, t.length]
theorem dropI_self (p : Pl) : DropI (nodesOf p) (innerOf p) := by
  have h := dropI_of p .nil
  rwa [List.append_nil, List.append_nil] at h
theorem inner_sub : ∀ {p q : Pl}, q ∈ innerOf p → (∀ n ∈ nodesOf q, n ∈ nodesOf p) ∧ (nodesOf q).length ≤ (nodesOf p).length := fun {p q} h => by
  obtain ⟨i, hi⟩ := List.mem_iff_getElem?.mp h
  obtain ⟨a, r, hr⟩ := (dropI_self p).get hi
  refine ⟨fun n hn => List.mem_of_mem_drop (i := i) (by rw [hr]; exact List.mem_append_left _ hn), ?_⟩
  have := congrArg List.length hr
  rw [List.length_drop, List.length_append] at this
  omega
theorem AtAll.app {K : PySem.W.Frag} {H : Hp} : ∀ {vs us : List V} {ps qs : List Pl}, AtAll K H vs ps → AtAll K H us qs → AtAll K H (vs ++ us) (ps ++ qs)
  | _, _, _, _, .nil, h => h
  | _, _, _, _, .cons h r, h' => .cons h (r.app h')
end Eh
set_option Elab.async false
set_option linter.all false
set_option maxRecDepth 100000
set_option maxHeartbeats 2000000
namespace Eh
open PySem PySem.Spec PyProof.Rows L2
structure FnT (P : Program) (w : World) (K : PySem.W.Frag) (mg : Str → Option Value) (base : Heap) (k : Nat) (f : Addr) (fd : FuncData) (ps : List Str) (sp : Sp) : Prop where
  len : ∀ vs H Q E, sp vs H Q E → vs.length = ps.length
  run : ∀ (A : Around) (outer : List Env) (s : Shared) (H : Hp) (args : Args) (us : List Value) (vs : List V) (Q : VK) (E : XK), 1 ≤ s.toks → Room k A → Env0 P w K mg base A outer s H →
    BindsTo s fd args (ps.zip us) → Vals vs us → sp vs H Q E → codeAny (model P w) A (.call (.ref f) args) (CR CX0 outer P w H s Q E) s
section
variable {P : Program} {w : World} {K : PySem.W.Frag} {mg : Str → Option Value} {base : Heap}
theorem funT {x qual : Str} {st : Stmt} {f : Addr} {fd : FuncData} {N ps : List Str} {k : Nat} {sp : Sp} (F : Fun K x qual st f fd) (S : FnScope N ps (defScope st)) (len : ∀ vs H Q E, sp vs H Q E → vs.length = ps.length)
    (body : ∀ (cdv : Value) (A : Around) (outer : List Env) (s : Shared) (H : Hp) (vs : List V) (Q : VK) (E : XK),
      Room k (A.deeper (envOfC qual (defScope st) s.heap.objs.size f cdv)) → sp vs H Q E →
      ∃ t, PSsT (cxOf CX0 P w K mg base N qual (defScope st) f cdv A outer s H E).nox (defBody st) t ∧ t { nx := fun _ H' => Q .non H', rt := Q } (start N vs) H) : FnT P w K mg base (k + 1) f fd ps sp where
  len := len
  run A outer s H args us vs Q E ht0 hr e0 hb r hsp := by
    obtain ⟨oc, od, kV, doc, pm, an, cdv, ct, osl, rfl, lk, hcd⟩ := F.ex
    have old := fun b o e => (e0.bs b o e).1
    have KX := e0.mod.kin.keeps old
    have ok := fun (y : Str × Value) (hy : y ∈ ps.zip us) => S.par y.1 (List.of_mem_zip (a := y.1) (b := y.2) hy).1
    refine codeAny_call_function hr.depth (KX _ _ lk) rfl S.co S.gen rfl (PySem.W.codeRec_of KX hcd) (hb _ _ _ _ ?_)
    refine wpAny_mono (PySem.wpAny_toks (wpAny_newFunctionEnv_cells (Q := fun env s1 => env = envOfC qual (defScope st) s.heap.objs.size f cdv ∧
      InCallC s env.locals (bindL env.kindOf (ps.zip us) fun _ => none) env.cells (bindC env.kindOf (ps.zip us) fun _ => none) s1) S.kind (fun y hy => (ok y hy).imp id fun q => ⟨q, PySem.W.cellsFrom_some _ _ _ (.inl q)⟩) fun env he s1 x => ⟨he, x⟩)) (fun env s1 z => ?_) fun _ _ z => z.2
    obtain ⟨hk, he, x⟩ := z
    cases he
    obtain ⟨t, ht, hq⟩ := body cdv A outer s H vs Q E (hr.deeper _) hsp
    refine ⟨(e0.mod.nolimit.keeps old).keeps x.toInCall.keep, codeAny_func ?_⟩
    have I := inv_start (CX := CX0) (E := E) S hr.hd e0 (len _ _ _ _ hsp) r x
    refine wpAny_mono (ht [] s1 (start N vs) H _ (Nat.le_trans ht0 hk) (I.wish _) hq) (fun fl s' hs => ?_) fun _ _ h => False.elim h
    have fin {σ' : L2.St} {H' : Hp} {v : V} {u : Value} (J : Inv (cxOf CX0 P w K mg base N qual (defScope st) f cdv A outer s H E) [] σ' H' s') (rv : RelV v u) (q : Q v H') : CE outer P w H s Q u s' := ⟨v, H', J.os, J.bare, J.base, J.hok, rv, q⟩
    match fl, hs with
    | .ret u, ⟨v, _, _, J, rv, q⟩ => exact fin J.unwish rv q
    | .next, ⟨_, _, J, q⟩ => exact fin (v := V.non) J.unwish rfl q
    | .brk, ⟨_, _, _, q⟩ => exact q.elim
    | .cont, ⟨_, _, _, q⟩ => exact q.elim
end
section
variable {X : Cx} {pins : List (Addr × Obj)} {σ : L2.St} {H : Hp} {s : Shared} {k : Nat} {f : Addr} {fd : FuncData} {ps : List Str} {sp : Sp}
theorem run_fnT {us : List Value} {vs : List V} {Q : VK} (F : FnT X.prog X.w X.K X.mg X.base k f fd ps sp) (hr : Room k X.A) (hb : Binds X.K fd ps []) (ht : 1 ≤ s.toks) (I : Inv X pins σ H s) (r : Vals vs us) (hsp : sp vs H Q E0) :
    wpAny (model X.prog X.w) X.A (call (.ref f) us) (EP X pins σ Q) X.xe s := by
  have hl := F.len _ _ _ _ hsp
  have hu : us.length = ps.length := by rw [← r.length]; exact hl
  have b := hb s us I.kIn (by rw [List.append_nil]; exact hu)
  rw [List.append_nil] at b
  refine wpAny_call (codeAny_mono (F.run X.A X.stack s H ⟨us, []⟩ us vs Q E0 ht hr I.env0 b r hsp) fun r s' hq => ?_)
  cases r with
  | error e => exact False.elim hq
  | ok fl =>
    cases fl with
    | ret u => exact I.after hq
    | next => exact False.elim hq
    | brk => exact False.elim hq
    | cont => exact False.elim hq
/-- f(e, ..), f wants a token out -/
theorem pet_callT {x : Str} {p pos : Pos} {e : Expr} {es : List Expr} {t : TA} (F : FnT X.prog X.w X.K X.mg X.base k f fd ps sp) (hr : Room k X.A) (hg : Gl X x) (hm : X.mg x = some (.ref f)) (hk : PySem.W.keepIn X.K (.ref f) = true) (hb : Binds X.K fd ps []) (ha : PA X (e :: es) t)
    (hdb : (x == ("__debug__" : Str)) = false := by decide) (he : starEach (e :: es) X.env = (false, eval e X.env) :: starEach es X.env := by rfl)
    (hpl : (backTo pos (starEach es X.env)).any (·.1) = false := by rfl) : PET X (.Call (.Name x p) (e :: es) [] pos) (fun σ H Q => t σ H fun vs H1 => sp vs H1 Q E0) := by
  intro pins s σ H Q ht I h
  refine wpAny_Call_Name_kw (ld_glob I hg hm (PySem.W.callWith_K (h₀ := X.base) I.ok.mod.kin hk (wpAny_mono (PySem.wpAny_toks (ha.run pos pins s σ H _ I h)) (fun us s1 hh => ?_) fun _ _ z => z.2) he hpl) hdb)
  obtain ⟨hk2, vs, H1, I1, r, q⟩ := hh
  exact ⟨I1.kIn, run_fnT F hr hb (Nat.le_trans ht hk2) I1 r q⟩
theorem pst_set {i : Nat} {x : Str} {e : Expr} {te : TE} {pos' pos : Pos} (hN : X.N.Nodup) (hi : X.N[i]? = some x) (hx : Loc X.env.scope x) (he : PET X e te) (hs : swapsWith e (some (.Name x pos')) pos.line X.env = pure false := by rfl) (hf : X.fn x = true ∨ X.env.scope.names.lookup x = some .local := by first | exact .inl rfl | exact .inr rfl | assumption) :
    PST X (.Assign [.Name x pos'] e pos) (tAsg te (gName i)) := by
  intro pins s σ H D h0 I h
  refine wpAny_Assign_Name (thn (he pins s σ H _ h0 I h) fun v s1 ⟨y, H1, I1, r1, q1⟩ => ?_) hs
  exact store_ok I1 hN hi hx r1 (fun s2 I2 => ⟨_, H1, I2, q1⟩) hf
def rGetL (K : PySem.W.Frag) : V → V → Hp → VK → Prop := fun o i H Q => ∃ p xs k v, o = .ref p ∧ i = .int k ∧ SqL K H p xs ∧ 0 ≤ k ∧ k < 2 ^ 63 ∧ xs[k.toNat]? = some v ∧ Q v H
theorem get_list : PGet X (rGetL X.K) := by
  intro pins s σ H o i ov iv Q I ro ri h
  obtain ⟨p, xs, k, v, rfl, rfl, hq, h0, hf, hv, q⟩ := h
  cases ro
  obtain ⟨t, rfl⟩ := ri
  obtain ⟨its, r, pl, hz⟩ := I.list hq
  obtain ⟨w, ew, rw'⟩ := r.get hv
  exact wpAny_getItem_list pl.isList h0 hf (by simpa using ew) ⟨v, H, I, rw', q⟩
def tMakeL (i : Nat) (C : Addr) (sp : Sp) (E : L2.St → XK) (t : TA) : TE := fun σ H Q => σ[i]? = some (some (.ref C)) ∧ tMakeS C sp E t σ H Q
theorem pe_makeL {CX : CXT} {C : Addr} {E : L2.St → XK} {i : Nat} {x : Str} {p pos : Pos} {e : Expr} {es : List Expr} {t : TA} (M : Mk X.K C f) (F : FnOk X.prog X.w X.K X.mg X.base CX k f fd ps sp) (hr : Room (k + 1) X.A) (hN : X.N[i]? = some x) (hv : Vis X.env.scope x) (hb : Binds X.K fd ps []) (hx : ∀ σ, PassesAt CX X σ (E σ))
    (ha : PA X (e :: es) t) (hdb : (x == ("__debug__" : Str)) = false := by decide) (hcd : (x == ("__classdict__" : Str)) = false := by decide) (he : starEach (e :: es) X.env = (false, eval e X.env) :: starEach es X.env := by rfl) (hpl : (backTo pos (starEach es X.env)).any (·.1) = false := by rfl) :
    PE X (.Call (.Name x p) (e :: es) [] pos) (tMakeL i C sp E t) := by
  refine ⟨fun pins s σ H Q I h => ?_⟩
  obtain ⟨hs, h⟩ := h
  refine wpAny_Call_Name_kw (thn ((pe_var (pos := p) hN hv hdb hcd).run pins s σ H (fun v H1 => v = .ref C ∧ H1 = H) I ⟨.ref C, hs, rfl, rfl⟩) fun u s1 ⟨v, H1, I1, r1, q1⟩ => ?_)
  obtain ⟨rfl, rfl⟩ := q1
  cases r1
  refine PySem.W.callWith_K (h₀ := X.base) I.ok.mod.kin M.kp (thn (ha.run pos pins s1 σ _ _ I1 h) fun us s2 ⟨vs, H2, I2, r, q⟩ => ⟨I2.kIn, ?_⟩) he hpl
  exact run_makeS M F hr hb (hx σ) I2 r q
end
end Eh
set_option Elab.async false
set_option linter.all false
set_option maxRecDepth 100000
set_option maxHeartbeats 2000000
namespace Eh
open PySem PySem.Spec PyProof.Rows L2
open ClX
section
variable {X : Cx} {pins : List (Addr × Obj)} {σ : L2.St} {H : Hp} {s : Shared} {k : Nat} {g C p : Addr} {fd : FuncData} {ps : List Str} {sp : Sp} {mc : Value} {m : Str} {o : Expr} {ta : TE} {apos pos : Pos} {pl : Sem Bool}
theorem run_cmT {q : Addr} {Q : VK} {us : List Value} {vs : List V} (F : FnT X.prog X.w X.K X.mg X.base k g fd ps sp) (hb : Binds X.K fd ps []) (hr : Room k X.A) (ht : 1 ≤ s.toks) (I : Inv X ((q, PySem.W.methodObj (.ref g) (.ref C)) :: pins) σ H s)
    (r : Vals vs us) (h : sp (.ref C :: vs) H Q E0) : wpAny (model X.prog X.w) X.A (call (.ref q) us) (EP X pins σ Q) X.xe s := by
  have hl := F.len _ _ _ _ h
  have r2 : Vals (V.ref C :: vs) (Value.ref C :: us) := .cons rfl r
  have hu : (Value.ref C :: us).length = ps.length := by rw [← r2.length]; exact hl
  have b := hb s (Value.ref C :: us) I.kIn (by rw [List.append_nil]; exact hu)
  rw [List.append_nil] at b
  have z : wpAny (model X.prog X.w) X.A (call (.ref q) us) (EP X ((q, PySem.W.methodObj (.ref g) (.ref C)) :: pins) σ Q) X.xe s := by
    refine wpAny_call (PySem.W.method_call (pin_at I) (codeAny_mono (F.run X.A X.stack s H ⟨.ref C :: us, []⟩ (.ref C :: us) (.ref C :: vs) Q E0 ht hr I.env0 b r2 h) fun r s' hq => ?_))
    cases r with
    | error e => exact False.elim hq
    | ok fl =>
      cases fl with
      | ret u => exact I.after hq
      | next => exact False.elim hq
      | brk => exact False.elim hq
      | cont => exact False.elim hq
  exact thn z fun _ _ y => unpinE y
/-- C.m('..') of a def that wants a token out -/
theorem pe_cmethS {z : Str} {j : Nat} {cp : Pos} (he : PE X o ta) (r : CRead X.K C mc) (c : CMet X.K C mc m p g) (F : FnT X.prog X.w X.K X.mg X.base k g fd ps sp) (hb : Binds X.K fd ps []) (hr : Room k X.A)
    (hst : starEach [.Constant (.str z) j cp] X.env = (false, eval (.Constant (.str z) j cp) X.env) :: starEach [] X.env := by rfl) (hpl : (backTo pos (starEach [] X.env)).any (·.1) = false := by rfl)
    (ht : eval (.Call (.Attribute o m apos) [.Constant (.str z) j cp] [] pos) X.env = (do
      let ov ← eval o X.env
      standAt apos.atName
      let (f, first) ← holding [ov] (getMethod ov m pl)
      callWith pos f first (backTo pos (starEach [.Constant (.str z) j cp] X.env)) (backToKw pos (keywordEach [] X.env))) := by rfl) :
    PE X (.Call (.Attribute o m apos) [.Constant (.str z) j cp] [] pos) (fun σ H Q => ta σ H fun x H1 => x = .ref C ∧ sp [.ref C, .str z] H1 Q E0) := by
  refine ⟨fun pins s σ H Q I h => ?_⟩
  refine PySem.W.methodCall_KW (pl := pl) (thn (he.run pins s σ H _ I h) fun u s1 ⟨x, H1, I1, rx, ex, q⟩ => ?_) ht
  subst ex
  obtain rfl : u = Value.ref C := rx
  refine getmethcm_ok I1 r c fun s2 I2 => ?_
  refine callwith_cm I2 (base_none I1 (Nat.le_refl _)) c.fi ?_ hst hpl
  show wpAny _ _ (spliced (backTo pos (starEach [.Constant (.str z) j cp] X.env))) _ _ s2
  rw [hst]
  show wpAny _ _ (spliced ((false, eval (.Constant (.str z) j cp) X.env) :: backTo pos (starEach [] X.env))) _ _ s2
  refine Calls.spliced_cons (Calls.Constant_str (Calls.spliced_nil ?_))
  have I3 := I2.tok (s2.toks + 1)
  exact ⟨⟨pin_at I3, I3.kIn⟩, run_cmT (vs := [.str z]) F hb hr (by show 1 ≤ s2.toks + 1; omega) I3 (.cons ⟨s2.toks, rfl⟩ .nil) q⟩
end
end Eh
set_option Elab.async false
set_option linter.all false
set_option maxRecDepth 100000
set_option maxHeartbeats 4000000
namespace Eh
open PySem PySem.Spec PyProof.Rows L2
open CwR
def parens : List Str := ["(", "["]
def closes : List Str := [")", "]"]
def signs4 : List Str := ["&", "+", "|", "*"]
def kindOfSign (z : Str) : Str := if z = "&" then "all" else if z = "+" then "mine" else if z = "|" then "some" else "yours"
def repl4 (z : Str) : Str := Txt.replace (Txt.replace (Txt.replace (Txt.replace z "(" "( ") "[" "[ ") ")" " )") "]" " ]"
def split4 (z : Str) : List Str := Txt.split (repl4 z) " "
def plainN (z : Str) : Str × V := if sureKinds.contains z = true then (z, .int 0) else if Txt.startswith z "!" = true then ("not", .str (cutS z (some 1) none)) else ("fact", .str z)
structure SignedAt (K : PySem.W.Frag) (w : World) (mg : Str → Option Value) (p : Addr) : Prop where
  g : mg "SIGNED" = some (.ref p)
  d : ∃ es n, KDict K w p es n ∧ ∀ z, ∃ r, PySem.W.nsIn K p z = some r ∧ r.isSome = signs4.contains z
  v : ∀ z, signs4.contains z = true → KDct K w p z (.str (kindOfSign z))
theorem sign_cases {k : Str} (h : signs4.contains k = true) : k = "&" ∨ k = "+" ∨ k = "|" ∨ k = "*" := by
  unfold signs4 at h
  rw [List.contains_iff_mem] at h
  simpa only [List.mem_cons, List.not_mem_nil, or_false] using h
theorem signed_mk {K : PySem.W.Frag} {w : World} {mg : Str → Option Value} {p : Addr} {n : Nat} {h1 h2 h3 h4 : Int} {t1 t2 t3 t4 u1 u2 u3 u4 : Tok} (g : mg "SIGNED" = some (.ref p))
    (l : K.lookup p = some ⟨.type "dict", none, .dict #[⟨h1, .str "&" t1, .str "all" u1⟩, ⟨h2, .str "+" t2, .str "mine" u2⟩, ⟨h3, .str "|" t3, .str "some" u3⟩, ⟨h4, .str "*" t4, .str "yours" u4⟩] n, #[]⟩)
    (hh : PySem.W.KeysLit w.params [⟨h1, .str "&" t1, .str "all" u1⟩, ⟨h2, .str "+" t2, .str "mine" u2⟩, ⟨h3, .str "|" t3, .str "some" u3⟩, ⟨h4, .str "*" t4, .str "yours" u4⟩]) (low : (p == sysModules) = false) : SignedAt K w mg p := by
  have i (x z : Str) (t : Tok) : (Value.str x t).isStr z = (x == z) := rfl
  have e (z : Str) : PySem.W.nsIn K p z = (match List.find? (fun x => x.key.isStr z) [(⟨h1, .str "&" t1, .str "all" u1⟩ : DictEntry), ⟨h2, .str "+" t2, .str "mine" u2⟩, ⟨h3, .str "|" t3, .str "some" u3⟩, ⟨h4, .str "*" t4, .str "yours" u4⟩] with
          | some e => some (some e.val)
          | none => if (List.any [(⟨h1, .str "&" t1, .str "all" u1⟩ : DictEntry), ⟨h2, .str "+" t2, .str "mine" u2⟩, ⟨h3, .str "|" t3, .str "some" u3⟩, ⟨h4, .str "*" t4, .str "yours" u4⟩] fun x => x.refKey) = true then none else some none) := by
    unfold PySem.W.nsIn
    rw [l]
    rfl
  refine ⟨g, ⟨_, n, ⟨l, hh, low⟩, fun z => ?_⟩, fun k hk => ?_⟩
  · have c : signs4.contains z = (("&" : Str) == z || (("+" : Str) == z || (("|" : Str) == z || (("*" : Str) == z || false)))) := (inV_strs z signs4).symm
    rw [c, e]
    cases e1 : (("&" : Str) == z) with
    | true => exact ⟨some (.str "all" u1), by simp only [List.find?_cons, i, e1], rfl⟩
    | false =>
      cases e2 : (("+" : Str) == z) with
      | true => exact ⟨some (.str "mine" u2), by simp only [List.find?_cons, i, e1, e2], by simp⟩
      | false =>
        cases e3 : (("|" : Str) == z) with
        | true => exact ⟨some (.str "some" u3), by simp only [List.find?_cons, i, e1, e2, e3], by simp⟩
        | false =>
          cases e4 : (("*" : Str) == z) with
          | true => exact ⟨some (.str "yours" u4), by simp only [List.find?_cons, i, e1, e2, e3, e4], by simp⟩
          | false => exact ⟨none, by simp only [List.find?_cons, i, e1, e2, e3, e4, List.find?_nil]; rfl, by simp⟩
  · rcases sign_cases hk with rfl | rfl | rfl | rfl
    · exact ⟨_, n, .str "all" u1, l, hh, by rw [e]; simp only [List.find?_cons, i, show (("&" : Str) == "&") = true from by decide +kernel], ⟨u1, rfl⟩⟩
    · exact ⟨_, n, .str "mine" u2, l, hh, by rw [e]; simp only [List.find?_cons, i, show (("&" : Str) == "+") = false from by decide +kernel, show (("+" : Str) == "+") = true from by decide +kernel], ⟨u2, by rw [show kindOfSign "+" = "mine" from by decide +kernel]⟩⟩
    · exact ⟨_, n, .str "some" u3, l, hh, by rw [e]; simp only [List.find?_cons, i, show (("&" : Str) == "|") = false from by decide +kernel, show (("+" : Str) == "|") = false from by decide +kernel, show (("|" : Str) == "|") = true from by decide +kernel], ⟨u3, by rw [show kindOfSign "|" = "some" from by decide +kernel]⟩⟩
    · exact ⟨_, n, .str "yours" u4, l, hh, by rw [e]; simp only [List.find?_cons, i, show (("&" : Str) == "*") = false from by decide +kernel, show (("+" : Str) == "*") = false from by decide +kernel, show (("|" : Str) == "*") = false from by decide +kernel, show (("*" : Str) == "*") = true from by decide +kernel], ⟨u4, by rw [show kindOfSign "*" = "yours" from by decide +kernel]⟩⟩
def rInSg (p : Addr) : R2 := fun x y H Q => ∃ z : Str, x = .str z ∧ y = .ref p ∧ Q (.bl (signs4.contains z)) H
theorem rep_len (z y n : Str) (h : n.length = 2) : (Txt.replace z y n).length ≤ 3 * z.length + 2 := by
  have := TK.replace_len z y n
  rw [h] at this
  omega
section
variable {P : Program} {w : World} {K : PySem.W.Frag} {mg : Str → Option Value} {base : Heap}
theorem inSg {X : Cx} {p : Addr} (S : SignedAt K w mg p) (h : X.K = K) (hw : X.w = w) : OpR X (compareOp .In) (rInSg p) := by
  subst h hw
  obtain ⟨es, n, D, hz⟩ := S.d
  intro pins s σ H x y v u Q I rx ry ⟨z, e1, e2, q⟩
  obtain ⟨r, hr, hs⟩ := hz z
  exact op_in_kd D pins s σ H x y v u Q I rx ry ⟨z, r, e1, e2, hr, by rw [hs]; exact q⟩
def spSplit : Sp := fun vs H Q _ => ∃ z, vs = [.str z] ∧ z.length ≤ 9000 ∧ ∀ p, H p = none → Q (.ref p) (upd H p (.lst ((split4 z).map V.str)))
theorem ok_split {f : Addr} {fd : FuncData} (F : Fun K "_split" "_split" s__split f fd) : FnT P w K mg base 1 f fd ["text"] spSplit := by
  refine funT F sc__split (fun vs H Q E h => ?_) (fun cdv A outer s H vs Q E hr h => ?_)
  · obtain ⟨z, rfl, _⟩ := h
    rfl
  · obtain ⟨z, rfl, hz, q⟩ := h
    refine ⟨_, psst_cons (pst_set (i := 1) sc__split.nd rfl (.inl rfl) (pet_replT (pet_replT (pet_replT (pet_replT (PET.of (pv 0)))))))
      (PSsT.of (pss_one (ps_ret (pe_split (pv 1) pe_str)))), ?_⟩
    have h1 := rep_len z "(" "( " (by decide +kernel)
    have h2 := rep_len (Txt.replace z "(" "( ") "[" "[ " (by decide +kernel)
    have h3 := rep_len (Txt.replace (Txt.replace z "(" "( ") "[" "[ ") ")" " )" (by decide +kernel)
    have h4 := rep_len (Txt.replace (Txt.replace (Txt.replace z "(" "( ") "[" "[ ") ")" " )") "]" " ]" (by decide +kernel)
    have l1 : ("( " : Str).length = 2 := by decide +kernel
    have l2 : ("[ " : Str).length = 2 := by decide +kernel
    have l3 : (" )" : Str).length = 2 := by decide +kernel
    have l4 : (" ]" : Str).length = 2 := by decide +kernel
    refine ⟨_, rfl, z, rfl, by rw [l1]; omega, _, rfl, by rw [l2]; omega, _, rfl, by rw [l3]; omega, _, rfl, by rw [l4]; omega, ?_⟩
    refine ⟨_, rfl, ⟨_, rfl⟩, _, _, rfl, rfl, by decide +kernel, Nat.le_of_lt (small (by omega)), fun p np => ?_⟩
    exact q p np
def spPlainN : Sp := fun vs H Q _ => ∃ z, vs = [.str z] ∧ z.length ≤ 900000 ∧ ∀ p H', Same H H' → H p = none → H' p = some (.tup [.str (plainN z).1, (plainN z).2]) → Q (.ref p) H'
theorem ok_plain_node {f : Addr} {fd : FuncData} (F : Fun K "_plain_node" "_plain_node" s__plain_node f fd) : FnOk P w K mg base CX0 1 f fd ["word"] spPlainN := by
  refine F.ok sc__plain_node (fun vs H Q E h => ?_) (fun cdv A outer s H vs Q E hr h => ?_)
  · obtain ⟨z, rfl, _⟩ := h
    rfl
  · obtain ⟨z, rfl, hz, q⟩ := h
    refine ⟨_, (pss_cons (ps_if (pt_cmpR (inQ (K := K) rfl) (pv 0) (pe_tup (pa_cons pe_str (pa_cons pe_str pa_nil))) (by rfl))
  (pss_one (ps_ret (pe_tup (pa_cons (pv 0) (pa_cons pe_int pa_nil)))))
  pss_nil)
  (pss_one (ps_ret (pe_ifExp (pt_val (pe_m1 PySem.F.slot_str_startswith PySem.F.type_str_startswith mt_startswith (pv 0) pe_str)) (pe_tup (pa_cons pe_str (pa_cons (pe_slice sl_str (pv 0) (po_some pe_int) po_none) pa_nil))) (pe_tup (pa_cons pe_str (pa_cons (pv 0) pa_nil))))))), ?_⟩
    refine ⟨_, rfl, lenOk 2, fun t nt => ?_⟩
    have s1 : Same H (upd H t (.tup (sureKinds.map V.str))) := same_new nt
    refine ⟨t, sureKinds.map V.str, rfl, .inr (SqT.of upd_same), rfl, flat_strs _, _, rfl, ?_⟩
    cases e1 : sureKinds.contains z with
    | true =>
      have e : plainN z = (z, .int 0) := by unfold plainN; rw [if_pos e1]
      rw [e] at q
      refine iteT' ((inV_strs z sureKinds).trans e1) ⟨_, rfl, lenOk 2, fun p np => ?_⟩
      exact q p _ (s1.trans (same_new np)) (s1.free np) upd_same
    | false =>
      refine iteF' ((inV_strs z sureKinds).trans e1) ⟨_, rfl, ⟨_, rfl⟩, z, "!", rfl, rfl, _, rfl, ?_⟩
      cases e2 : Txt.startswith z "!" with
      | true =>
        have e : plainN z = (("not" : Str), V.str (cutS z (some 1) none)) := by unfold plainN; rw [if_neg (by rw [e1]; exact Bool.false_ne_true), if_pos e2]
        rw [e] at q
        refine iteT ⟨_, rfl, _, rfl, z, rfl, Nat.le_of_lt (small (by omega)), lenOk 2, fun p np => ?_⟩
        exact q p _ (s1.trans (same_new np)) (s1.free np) upd_same
      | false =>
        have e : plainN z = (("fact" : Str), V.str z) := by unfold plainN; rw [if_neg (by rw [e1]; exact Bool.false_ne_true), if_neg (by rw [e2]; exact Bool.false_ne_true)]
        rw [e] at q
        refine iteF ⟨_, rfl, lenOk 2, fun p np => ?_⟩
        exact q p _ (s1.trans (same_new np)) (s1.free np) upd_same
end
end Eh
set_option Elab.async false
set_option linter.all false
set_option maxRecDepth 100000
set_option maxHeartbeats 4000000
namespace Eh
open PySem PySem.Spec PyProof.Rows L2
open CwR
structure St3 where
  ks : List Str
  cs : List V
  ar : List Nat
def incV (v : V) : V := match v with
  | .int i => .int (i + 1)
  | v => v
def bump (cs : List V) (i : Nat) : List V := match cs[i]? with
  | some v => cs.set i (incV v)
  | none => cs
def step3 (s : St3) (w : Str) : St3 :=
  if parens.contains w = true then ⟨s.ks ++ [("" : Str)], s.cs ++ [.int 1], s.ar ++ [s.ks.length]⟩
  else if signs4.contains w = true ∧ s.ar ≠ [] then ⟨s.ks.set (s.ar.getLast?.getD 0) (kindOfSign w), bump s.cs (s.ar.getLast?.getD 0), s.ar⟩
  else if closes.contains w = true ∧ s.ar ≠ [] then ⟨s.ks, s.cs, s.ar.dropLast⟩
  else ⟨s.ks ++ [(plainN w).1], s.cs ++ [(plainN w).2], s.ar⟩
def run3 (ws : List Str) : St3 := ws.foldl step3 ⟨[], [], []⟩
def nodesIn (z : Str) : List (Str × V) := (run3 (split4 z)).ks.zip (run3 (split4 z)).cs
/-- what the lists keep -/
structure Ok3 (s : St3) : Prop where
  len : s.cs.length = s.ks.length
  at_ : ∀ i ∈ s.ar, ∃ n : Int, s.cs[i]? = some (.int n)
theorem ok3_start : Ok3 ⟨[], [], []⟩ := ⟨rfl, fun i h => by cases h⟩
theorem last_mem {l : List Nat} (h : l ≠ []) : l.getLast?.getD 0 ∈ l := by
  rw [List.getLast?_eq_some_getLast h]
  exact List.getLast_mem h
theorem ok3_step {s : St3} (o : Ok3 s) (w : Str) : Ok3 (step3 s w) := by
  have app : ∀ (k : Str) (v : V) (i : Nat), (∃ n : Int, s.cs[i]? = some (.int n)) → ∃ n : Int, (s.cs ++ [v])[i]? = some (.int n) := fun k v i ⟨n, e⟩ => ⟨n, by
    have := (List.getElem?_eq_some_iff.mp e).1
    rw [List.getElem?_append_left this]
    exact e⟩
  unfold step3
  split
  · refine ⟨by simp [o.len], fun i h => ?_⟩
    rcases List.mem_append.mp h with h | h
    · exact app "" (.int 1) i (o.at_ i h)
    · rw [List.mem_singleton.mp h]
      exact ⟨1, by rw [← o.len]; simp⟩
  · split
    · rename_i h1 h2
      have hm := last_mem h2.2
      obtain ⟨n, e⟩ := o.at_ _ hm
      have eb : bump s.cs (s.ar.getLast?.getD 0) = s.cs.set (s.ar.getLast?.getD 0) (.int (n + 1)) := by
        unfold bump
        rw [e]
        rfl
      refine ⟨by rw [eb]; simp [o.len], fun i h => ?_⟩
      rw [eb]
      by_cases ei : s.ar.getLast?.getD 0 = i
      · rw [ei] at e
        have := (List.getElem?_eq_some_iff.mp e).1
        exact ⟨n + 1, by rw [ei, List.getElem?_set_self this]⟩
      · rw [List.getElem?_set_ne ei]
        exact o.at_ i h
    · split
      · exact ⟨o.len, fun i h => o.at_ i ((List.dropLast_sublist _).subset h)⟩
      · exact ⟨by simp [o.len], fun i h => app "" _ i (o.at_ i h)⟩
theorem step3_len (s : St3) (w : Str) : (step3 s w).ks.length ≤ s.ks.length + 1 ∧ (step3 s w).ar.length ≤ s.ar.length + 1 := by
  unfold step3
  split
  · simp
  · split
    · simp
    · split
      · simp; omega
      · simp
theorem run3_take {ws : List Str} {i : Nat} {w : Str} (h : ws[i]? = some w) : run3 (ws.take (i + 1)) = step3 (run3 (ws.take i)) w := by
  unfold run3
  rw [take_succ' h, List.foldl_append]
  rfl
theorem run3_ok : ∀ (ws : List Str) (s : St3), Ok3 s → Ok3 (ws.foldl step3 s)
  | [], s, o => o
  | w :: ws, s, o => run3_ok ws _ (ok3_step o w)
theorem run3_len : ∀ (ws : List Str) (s : St3), (ws.foldl step3 s).ks.length ≤ s.ks.length + ws.length ∧ (ws.foldl step3 s).ar.length ≤ s.ar.length + ws.length
  | [], s => ⟨Nat.le_refl _, Nat.le_refl _⟩
  | w :: ws, s => by
    have h := run3_len ws (step3 s w)
    have k := step3_len s w
    rw [List.foldl_cons, List.length_cons]
    omega
end Eh
set_option Elab.async false
set_option linter.all false
set_option maxRecDepth 100000
set_option maxHeartbeats 4000000
namespace Eh
open PySem PySem.Spec PyProof.Rows L2
open CwR
theorem same_put {H H2 : Hp} {l : Addr} {o : HO} (s : Same H H2) (n : H l = none) : Same H (upd H2 l o) := fun b u e => by
  rw [upd_ne (ne_of_none e n)]
  exact s b u e
def natV (i : Nat) : V := .int (i : Int)
/-- the three lists -/
structure L3 (H : Hp) (lk lc la : Addr) (s : St3) : Prop where
  k : H lk = some (.lst (s.ks.map V.str))
  c : H lc = some (.lst s.cs)
  a : H la = some (.lst (s.ar.map natV))
theorem L3.same {H H' : Hp} {lk lc la : Addr} {s : St3} (l : L3 H lk lc la s) (m : Same H H') : L3 H' lk lc la s := ⟨m _ _ l.k, m _ _ l.c, m _ _ l.a⟩
theorem last_nat {l : List Nat} (h : l ≠ []) : ∃ pre i, l = pre ++ [i] ∧ l.getLast?.getD 0 = i :=
  ⟨l.dropLast, l.getLast h, (List.dropLast_concat_getLast h).symm, by rw [List.getLast?_eq_some_getLast h]; rfl⟩
theorem zip_take_succ {ks : List Str} {cs : List V} {j : Nat} {k : Str} {v : V} (h : ks[j]? = some k) (h' : cs[j]? = some v) : (ks.zip cs).take (j + 1) = (ks.zip cs).take j ++ [(k, v)] :=
  take_succ' (by rw [List.getElem?_zip_eq_some]; exact ⟨h, h'⟩)
section
variable {P : Program} {w : World} {K : PySem.W.Frag} {mg : Str → Option Value} {base : Heap}
def spNodesIn (K : PySem.W.Frag) : Sp := fun vs H Q _ => ∃ z, vs = [.str z] ∧ z.length ≤ 9000 ∧ (split4 z).length < 100000 ∧ (∀ x ∈ split4 z, x.length ≤ 900000) ∧ ∀ p ys H', Same H H' → H p = none → H' p = some (.tup ys) → NdsAt K H' ys (nodesIn z) → Q (.ref p) H'
theorem ok_nodes_in {p0 fS fP f : Addr} {fdS fdP fd : FuncData} (F : Fun K "nodes_in" "nodes_in" s_nodes_in f fd) (T : Txt mg) (S : SignedAt K w mg p0) (GS : FnT P w K mg base 1 fS fdS ["text"] spSplit) (mS : mg "_split" = some (.ref fS)) (kS : PySem.W.keepIn K (.ref fS) = true) (bS : Binds K fdS ["text"] [])
    (C__plain_node : Cal P w K mg base 1 "_plain_node" fP fdP ["word"] spPlainN) : FnT P w K mg base 2 f fd ["text"] (spNodesIn K) := by
  refine funT F sc_nodes_in (fun vs H Q E h => ?_) (fun cdv A outer s H vs Q E hr h => ?_)
  · obtain ⟨z, rfl, _⟩ := h
    rfl
  · obtain ⟨z, rfl, hz, hw, hx, q⟩ := h
    refine ⟨_, psst_cons (PST.of (ps_set (i := 1) sc_nodes_in.nd rfl (.inr rfl) (pe_lst pa_nil)))
      (psst_cons (PST.of (ps_set (i := 2) sc_nodes_in.nd rfl (.inr rfl) (pe_lst pa_nil)))
      (psst_cons (PST.of (ps_set (i := 3) sc_nodes_in.nd rfl (.inl rfl) (pe_lst pa_nil)))
      (psst_cons (pst_for PassesOwn.never (by rfl) (pit_list (pet_callT GS hr (by rfl) mS kS bS (pa_cons (pv 0) pa_nil))) (pg_name (i := 4) sc_nodes_in.nd rfl (.inl rfl))
        (pss_one (ps_if (pt_cmpR (inQ (K := K) rfl) (pv 4) (pe_tup (pa_cons pe_str (pa_cons pe_str pa_nil))) (by rfl))
          (pss_cons (ps_expr (bmK (K := K) rfl (pe_bm PySem.F.plainAttrs_list PySem.F.slot_list_append PySem.F.type_list_append mt_append (pv 3) (pa_cons (pe_callB (lenQ (K := K) rfl) (by rfl) T.len_ (by decide +kernel) (pa_cons (pv 1) pa_nil)) pa_nil))))
          (pss_cons (ps_expr (bmK (K := K) rfl (pe_bm PySem.F.plainAttrs_list PySem.F.slot_list_append PySem.F.type_list_append mt_append (pv 1) (pa_cons pe_str pa_nil))))
          (pss_one (ps_expr (bmK (K := K) rfl (pe_bm PySem.F.plainAttrs_list PySem.F.slot_list_append PySem.F.type_list_append mt_append (pv 2) (pa_cons pe_int pa_nil)))))))
          (pss_one (ps_if (PW.pt (pw_and (pt_cmpR (inSg S rfl rfl) (pv 4) (pe_glob (v := .ref p0) rfl S.g rfl) (by rfl)) (pw_and1 (pt_truth (pv 3) (by intro _; rfl)))))
            (pss_cons (ps_asg (pe_ix (ixKd (K := K) (w := w) rfl rfl) (pe_glob (v := .ref p0) rfl S.g rfl) (pv 4) (fun _ _ => rfl)) (pg_sub (pv 1) (pe_ix (ixL (K := K) rfl) (pv 3) (pe_un un_neg pe_int) (fun _ _ => rfl)) set_list))
            (pss_one (ps_augS (pv 2) (pe_ix (ixL (K := K) rfl) (pv 3) (pe_un un_neg pe_int) (fun _ _ => rfl)) get_list pe_int ip_add set_list)))
            (pss_one (ps_if (PW.pt (pw_and (pt_cmpR (inQ (K := K) rfl) (pv 4) (pe_tup (pa_cons pe_str (pa_cons pe_str pa_nil))) (by rfl)) (pw_and1 (pt_truth (pv 3) (by intro _; rfl)))))
              (pss_one (ps_expr (bm0K (K := K) rfl (pe_bm0 PySem.F.plainAttrs_list PySem.F.slot_list_pop PySem.F.type_list_pop mt_pop (pv 3)))))
              (pss_cons (ps_asg (pe_call C__plain_node.G hr (by rfl) C__plain_node.m C__plain_node.k C__plain_node.b .nil pass0 (pa_cons (pv 4) pa_nil)) (pg_tup (by rfl) (pgs_cons (pg_name (i := 5) sc_nodes_in.nd rfl (.inl rfl)) (pgs_cons (pg_name (i := 6) sc_nodes_in.nd rfl (.inl rfl)) pgs_nil))))
              (pss_cons (ps_expr (bmK (K := K) rfl (pe_bm PySem.F.plainAttrs_list PySem.F.slot_list_append PySem.F.type_list_append mt_append (pv 1) (pa_cons (pv 5) pa_nil))))
              (pss_one (ps_expr (bmK (K := K) rfl (pe_bm PySem.F.plainAttrs_list PySem.F.slot_list_append PySem.F.type_list_append mt_append (pv 2) (pa_cons (pv 6) pa_nil))))))))))))))
      (PSsT.of (pss_one (ps_ret (pe_callTy call_tuple_of (by rfl) T.tuple_ (by decide +kernel) (pa_cons (pe_lc (own := [("at", 7)]) (g := gName 7) (by rfl) sc_nodes_in.nd (pi_range1 (by rfl) T.range_ (pa_cons (pe_callB (lenQ (K := K) rfl) (by rfl) T.len_ (by decide +kernel) (pa_cons (pv 1) pa_nil)) pa_nil)) (blkOk_by (by kernel_rfl)) (fun _ _ _ _ _ => (pg_name (i := 7) sc_nodes_in.nd rfl (.inl rfl))) (fun _ _ _ _ _ => pts_nil) (fun _ _ _ _ _ => (pe_tup (pa_cons (pe_ix (ixL (K := K) rfl) (pv 1) (pv 7) (fun _ _ => rfl)) (pa_cons (pe_ix (ixL (K := K) rfl) (pv 2) (pv 7) (fun _ _ => rfl)) pa_nil))))) pa_nil)))))))), ?_⟩
    refine ⟨Nat.zero_le _, fun lk nk => ⟨Nat.zero_le _, fun lc nc => ⟨Nat.zero_le _, fun la na => ?_⟩⟩⟩
    have s1 := same_new (o := .lst []) nk
    have s2 := same_new (o := .lst []) nc
    have s3 := same_new (o := .lst []) na
    have nkH : H lk = none := nk
    have ncH : H lc = none := s1.free nc
    have naH : H la = none := (s1.trans s2).free na
    have hck : lc ≠ lk := fun e => by rw [e, upd_same] at nc; cases nc
    have hac : la ≠ lc := fun e => by rw [e, upd_same] at na; cases na
    have hak : la ≠ lk := fun e => by rw [e, upd_ne hck.symm, upd_same] at na; cases na
    have l0 : L3 (upd (upd (upd H lk (.lst [])) lc (.lst [])) la (.lst [])) lk lc la ⟨[], [], []⟩ := ⟨s3 _ _ (s2 _ _ upd_same), s3 _ _ upd_same, upd_same⟩
    have s123 : Same H (upd (upd (upd H lk (.lst [])) lc (.lst [])) la (.lst [])) := s1.trans (s2.trans s3)
    generalize upd (upd (upd H lk (.lst [])) lc (.lst [])) la (.lst []) = H3 at l0 s123 ⊢
    clear nk nc na s1 s2 s3
    refine ⟨_, rfl, z, rfl, hz, fun lw nw => ⟨lw, rfl, ⟨_, SqL.of upd_same⟩, ?_⟩⟩
    have nwH : H lw = none := s123.free nw
    have hwk : lw ≠ lk := fun e => by rw [e, l0.k] at nw; cases nw
    have hwc : lw ≠ lc := fun e => by rw [e, l0.c] at nw; cases nw
    have hwa : lw ≠ la := fun e => by rw [e, l0.a] at nw; cases nw
    have s4 := same_new (o := .lst ((split4 z).map V.str)) nw
    have l4 := l0.same s4
    have e4 := upd_same (H := H3) (a := lw) (o := HO.lst ((split4 z).map V.str))
    have s14 := s123.trans s4
    generalize upd H3 lw (.lst ((split4 z).map V.str)) = H4 at l4 e4 s14 ⊢
    clear s4 l0 s123 nw
    refine for_list (K := K) (a := lw) (xs := (split4 z).map V.str) (fun j σ H5 => ∃ x4 x5 x6, σ = [some (.str z), some (.ref lk), some (.ref lc), some (.ref la), x4, x5, x6, none] ∧ Same H H5 ∧ H5 lw = some (.lst ((split4 z).map V.str)) ∧ L3 H5 lk lc la (run3 ((split4 z).take j))) ⟨none, none, none, rfl, s14, e4, l4⟩ (fun j σ H5 _ h => ?_) ?_ ?_
    · obtain ⟨_, _, _, _, _, e, _⟩ := h
      exact SqL.of e
    · rintro j x σ H5 hj ⟨x4, x5, x6, rfl, s5, e5, l5⟩
      rw [List.getElem?_map] at hj
      obtain ⟨y, hy, rfl⟩ := Option.map_eq_some_iff.mp hj
      have hjl : j < 100000 := by
        have := (List.getElem?_eq_some_iff.mp hy).1
        omega
      have hyl := hx y (List.mem_of_getElem? hy)
      obtain ⟨k3, c3⟩ := run3_len ((split4 z).take j) ⟨[], [], []⟩
      have ok := run3_ok ((split4 z).take j) _ ok3_start
      have htl := List.length_take_le j (split4 z)
      rw [run3_take hy]
      change (run3 ((split4 z).take j)).ks.length ≤ _ at k3
      change (run3 ((split4 z).take j)).ar.length ≤ _ at c3
      change Ok3 (run3 ((split4 z).take j)) at ok
      generalize run3 ((split4 z).take j) = s at l5 k3 c3 ok ⊢
      have k3 : s.ks.length ≤ j := by simpa using Nat.le_trans k3 (by simpa using htl)
      have c3 : s.ar.length ≤ j := by simpa using Nat.le_trans c3 (by simpa using htl)
      have hcl := ok.len
      refine ⟨_, rfl, lenOk 2, fun t1 n1 => ⟨t1, parens.map V.str, rfl, .inr (SqT.of upd_same), rfl, flat_strs _, _, rfl, ?_⟩⟩
      have u6 : Same H5 (upd H5 t1 (.tup [V.str "(", V.str "["])) := same_new n1
      have s6 := s5.trans u6
      have e6 := u6 _ _ e5
      have l6 := l5.same u6
      generalize upd H5 t1 (.tup [V.str "(", V.str "["]) = H6 at s6 e6 l6 ⊢
      clear u6 n1
      cases c1 : parens.contains y with
      | true =>
        have es : step3 s y = ⟨s.ks ++ [("" : Str)], s.cs ++ [.int 1], s.ar ++ [s.ks.length]⟩ := by unfold step3; rw [if_pos c1]
        rw [es]
        refine iteT' ((inV_strs y parens).trans c1) ?_
        refine ⟨_, rfl, .inl ⟨rfl, _, SqL.of l6.a⟩, _, rfl, .inl ⟨lk, _, rfl, .inl (SqL.of l6.k), la, _, .int ((s.ks.map V.str).length : Int), rfl, rfl, l6.a, small (by rw [List.length_map]; omega), ?_⟩⟩
        refine ⟨_, rfl, .inl ⟨rfl, _, SqL.of ((upd_ne hak.symm).trans l6.k)⟩, lk, _, .str "", rfl, rfl, (upd_ne hak.symm).trans l6.k, small (by rw [List.length_map]; omega), ?_⟩
        refine ⟨_, rfl, .inl ⟨rfl, _, SqL.of ((upd_ne hck).trans ((upd_ne hac.symm).trans l6.c))⟩, lc, _, .int 1, rfl, rfl, (upd_ne hck).trans ((upd_ne hac.symm).trans l6.c), small (by omega), ?_⟩
        refine ⟨_, _, _, rfl, same_put (same_put (same_put s6 naH) nkH) ncH, ?_, ?_, ?_, ?_⟩
        · rw [upd_ne hwc, upd_ne hwk, upd_ne hwa]
          exact e6
        · rw [upd_ne hck.symm, upd_same, List.map_append]
          rfl
        · exact upd_same
        · rw [upd_ne hac, upd_ne hak, upd_same, List.map_append, List.length_map]
          rfl
      | false =>
        have n1 : ¬ parens.contains y = true := by rw [c1]; exact Bool.false_ne_true
        refine iteF' ((inV_strs y parens).trans c1) ?_
        have tr : ∀ b, b = !(s.ar.map natV).isEmpty → TruV K (.ref la) H6 b := fun b e => .inl ⟨_, SqL.of l6.a, e⟩
        by_cases c2 : signs4.contains y = true ∧ s.ar ≠ []
        · obtain ⟨pre, i, ei, eg⟩ := last_nat c2.2
          have es : step3 s y = ⟨s.ks.set i (kindOfSign y), bump s.cs i, s.ar⟩ := by unfold step3; rw [if_neg n1, if_pos c2, eg]
          have hm := last_mem c2.2
          rw [eg] at hm
          obtain ⟨n, en⟩ := ok.at_ i hm
          have hil : i < s.cs.length := (List.getElem?_eq_some_iff.mp en).1
          have eb : bump s.cs i = s.cs.set i (.int (n + 1)) := by
            unfold bump
            rw [en]
            rfl
          rw [es, eb]
          have ea : s.ar.map natV = pre.map natV ++ [natV i] := by rw [ei, List.map_append]; rfl
          have la6 := l6.a
          rw [ea] at la6
          refine ⟨_, rfl, y, rfl, rfl, _, rfl, iteT' c2.1 ?_⟩
          refine ⟨_, rfl, true, tr true (by rw [ea]; simp), iteT ?_⟩
          refine ⟨_, rfl, p0, y, _, rfl, rfl, S.v y c2.1, ?_⟩
          refine ⟨_, rfl, _, rfl, _, rfl, la, _, (-1), natV i, rfl, rfl, SqL.of la6, atI_last, lk, _, (i : Int), i, rfl, rfl, l6.k, by rw [List.length_map]; exact ixN_nat (by omega), ?_⟩
          have la7 : (upd H6 lk (.lst ((s.ks.map V.str).set i (.str (kindOfSign y))))) la = some (.lst (pre.map natV ++ [natV i])) := (upd_ne hak).trans la6
          have lc7 : (upd H6 lk (.lst ((s.ks.map V.str).set i (.str (kindOfSign y))))) lc = some (.lst s.cs) := (upd_ne hck).trans l6.c
          refine ⟨_, rfl, _, rfl, _, rfl, la, _, (-1), natV i, rfl, rfl, SqL.of la7, atI_last, ?_⟩
          refine ⟨lc, _, (i : Int), .int n, rfl, rfl, SqL.of lc7, by omega, by omega, by rw [Int.toNat_natCast]; exact en, ?_⟩
          refine ⟨n, 1, rfl, rfl, lc, _, (i : Int), i, rfl, rfl, lc7, ixN_nat hil, ?_⟩
          refine ⟨_, _, _, rfl, same_put (same_put s6 nkH) ncH, ?_, ?_, ?_, ?_⟩
          · rw [upd_ne hwc, upd_ne hwk]
            exact e6
          · rw [upd_ne hck.symm, upd_same, List.map_set]
          · exact upd_same
          · rw [upd_ne hac, upd_ne hak]
            exact l6.a
        · have hs : signs4.contains y = true → s.ar = [] := fun h => Classical.byContradiction fun z => c2 ⟨h, z⟩
          have es : step3 s y = if closes.contains y = true ∧ s.ar ≠ [] then ⟨s.ks, s.cs, s.ar.dropLast⟩ else ⟨s.ks ++ [(plainN y).1], s.cs ++ [(plainN y).2], s.ar⟩ := by
            unfold step3
            rw [if_neg n1, if_neg c2]
          rw [es]
          refine ⟨_, rfl, y, rfl, rfl, _, rfl, ?_⟩
          cases e2 : signs4.contains y
          case' true =>
            have ha0 := hs e2
            refine iteT ⟨_, rfl, false, tr false (by rw [ha0]; rfl), iteF ?_⟩
          case' false => refine iteF ?_
          all_goals
            refine ⟨_, rfl, lenOk 2, fun t2 n2 => ⟨t2, closes.map V.str, rfl, .inr (SqT.of upd_same), rfl, flat_strs _, _, rfl, ?_⟩⟩
            have u7 : Same H6 (upd H6 t2 (.tup [V.str ")", V.str "]"])) := same_new n2
            have s7 := s6.trans u7
            have e7 := u7 _ _ e6
            have l7 := l6.same u7
            generalize upd H6 t2 (.tup [V.str ")", V.str "]"]) = H7 at s7 e7 l7 ⊢
            clear u7 n2
            have tr7 : ∀ b, b = !(s.ar.map natV).isEmpty → TruV K (.ref la) H7 b := fun b e => .inl ⟨_, SqL.of l7.a, e⟩
            by_cases c3 : closes.contains y = true ∧ s.ar ≠ []
            · obtain ⟨pre, i, ei, eg⟩ := last_nat c3.2
              rw [if_pos c3]
              have ea : s.ar.map natV = pre.map natV ++ [natV i] := by rw [ei, List.map_append]; rfl
              have la7 := l7.a
              rw [ea] at la7
              refine iteT' ((inV_strs y closes).trans c3.1) ⟨_, rfl, true, tr7 true (by rw [ea]; simp), iteT ?_⟩
              refine ⟨_, rfl, .inl ⟨rfl, _, SqL.of la7⟩, la, _, natV i, rfl, rfl, la7, ?_, ?_⟩
              · rw [List.length_append, List.length_singleton, Nat.add_sub_cancel]
                exact List.getElem?_concat_length
              · rw [List.dropLast_concat]
                refine ⟨_, _, _, rfl, same_put s7 naH, (upd_ne hwa).trans e7, (upd_ne hak.symm).trans l7.k, (upd_ne hac.symm).trans l7.c, ?_⟩
                rw [upd_same, ei, List.dropLast_concat]
            · rw [if_neg c3]
              have hc : closes.contains y = true → s.ar = [] := fun h => Classical.byContradiction fun z => c3 ⟨h, z⟩
              cases e3 : closes.contains y
              case' true =>
                have ha1 := hc e3
                refine iteT' ((inV_strs y closes).trans e3) ⟨_, rfl, false, tr7 false (by rw [ha1]; rfl), iteF ?_⟩
              case' false => refine iteF' ((inV_strs y closes).trans e3) ?_
              all_goals
                refine ⟨_, rfl, y, rfl, hyl, fun tp H8 u8 n8 e8 => ?_⟩
                have l8 := l7.same u8
                have e9 := u8 _ _ e7
                have s8 := s7.trans u8
                refine ⟨tp, _, rfl, SqT.of e8, rfl, _, _, rfl, _, _, rfl, rfl, ?_⟩
                refine ⟨_, rfl, .inl ⟨rfl, _, SqL.of l8.k⟩, _, rfl, lk, _, .str (plainN y).1, rfl, rfl, l8.k, small (by rw [List.length_map]; omega), ?_⟩
                refine ⟨_, rfl, .inl ⟨rfl, _, SqL.of ((upd_ne hck).trans l8.c)⟩, _, rfl, lc, _, (plainN y).2, rfl, rfl, (upd_ne hck).trans l8.c, small (by omega), ?_⟩
                refine ⟨_, _, _, rfl, same_put (same_put s8 nkH) ncH, (upd_ne hwc).trans ((upd_ne hwk).trans e9), ?_, upd_same, (upd_ne hac).trans ((upd_ne hak).trans l8.a)⟩
                rw [upd_ne hck.symm, upd_same, List.map_append]
                rfl
    · rintro σ H5 ⟨x4, x5, x6, rfl, s5, e5, l5⟩
      rw [List.length_map, List.take_length] at l5
      have ok := run3_ok (split4 z) _ ok3_start
      obtain ⟨k3, _⟩ := run3_len (split4 z) ⟨[], [], []⟩
      change Ok3 (run3 (split4 z)) at ok
      change (run3 (split4 z)).ks.length ≤ _ at k3
      have hq := q
      unfold nodesIn at hq
      generalize run3 (split4 z) = s at l5 ok k3 hq ⊢
      have k3 : s.ks.length ≤ (split4 z).length := by simpa using k3
      have hcl := ok.len
      refine ⟨_, rfl, .inl ⟨lk, _, rfl, .inl (SqL.of l5.k), _, rfl, by omega, by rw [List.length_map]; omega, fun D nD => ?_⟩⟩
      have s6 := s5.trans (same_new (o := .lst []) nD)
      have u6 := same_new (o := .lst []) nD
      have nDH : H D = none := s5.free nD
      have nD5 : H5 D = none := nD
      refine lcR (fun j acc H6 => Same H H6 ∧ Same H5 H6 ∧ NdsAt K H6 acc ((s.ks.zip s.cs).take j)) ⟨s6, u6, .nil⟩ ?_ ?_
      · rintro j acc H6 hj hl e ⟨s7, u7, A7⟩
        rw [List.length_map] at hj
        have hj' : j < s.ks.length := by omega
        obtain ⟨k, hk⟩ : ∃ k, s.ks[j]? = some k := ⟨_, List.getElem?_eq_getElem hj'⟩
        obtain ⟨v, hv⟩ : ∃ v, s.cs[j]? = some v := ⟨_, List.getElem?_eq_getElem (by omega)⟩
        have ei : ((0 : Int) + (j : Int)) = (j : Int) := Int.zero_add _
        rw [ei]
        refine ⟨_, rfl, _, rfl, lk, _, _, .str k, rfl, rfl, SqL.of (u7 _ _ l5.k), atI_nat (by rw [List.getElem?_map, hk]; rfl), ?_⟩
        refine ⟨_, rfl, _, rfl, lc, _, _, v, rfl, rfl, SqL.of (u7 _ _ l5.c), atI_nat hv, lenOk 2, fun t nt => ?_⟩
        have u8 : Same H6 (upd H6 t (.tup [.str k, v])) := same_new nt
        refine LcK.mk hl (by omega) (u8 _ _ e) ⟨same_put (s7.trans u8) nDH, same_put (u7.trans u8) nD5, ?_⟩
        rw [zip_take_succ hk hv]
        have kp := Tk.put (ys := acc ++ [V.ref t]) (u8 _ _ e)
        exact ((A7.tk (stk u8)).tk kp).app (.cons (kp.seq (SqT.of upd_same)) .nil)
      · rintro acc H6 hl e ⟨s7, u7, A7⟩
        have ez : (s.ks.zip s.cs).take (((s.ks.map V.str).length : Int)).toNat = s.ks.zip s.cs := by
          refine List.take_of_length_le ?_
          rw [List.length_zip, List.length_map]
          omega
        rw [ez] at A7
        refine ⟨D, acc, rfl, .inl ⟨SqL.of e, fun p np => ?_⟩⟩
        exact hq p acc _ (s7.trans (same_new np)) (s7.free np) upd_same (A7.tk (Tk.new np))
end
end Eh
set_option Elab.async false
set_option linter.all false
set_option maxRecDepth 100000
set_option maxHeartbeats 4000000
namespace Eh
open PySem PySem.Spec PyProof.Rows L2
open CwR
section
variable {P : Program} {w : World} {K : PySem.W.Frag} {mg : Str → Option Value} {base : Heap}
def spReadOk (K : PySem.W.Frag) (C : Addr) : Sp := fun vs H Q _ => ∃ z ns t, vs = [.ref C, .str z] ∧ z.length ≤ 9000 ∧ (split4 z).length < 100000 ∧ (∀ x ∈ split4 z, x.length ≤ 900000) ∧ nodesIn z = ns ∧ (∀ n ∈ ns, NOk n) ∧ dueGo 1 ns = true ∧ ns.length ≤ 15 ∧ stackT ns = [t] ∧ t = z ∧
  ∀ a H', Same H H' → H a = none → PrOk K C H' a ns → Q (.ref a) H'
theorem ok_read {C CE fI fL fN fA fT f : Addr} {fdI fdN fdA fdT fd : FuncData} (F : Fun K "read" "Promise.read" s_Promise_read f fd) (T : Txt mg) (PC : PromC K mg C fI fL) (GN : FnT P w K mg base 2 fN fdN ["text"] (spNodesIn K)) (mN : mg "nodes_in" = some (.ref fN)) (kN : PySem.W.keepIn K (.ref fN) = true) (bN : Binds K fdN ["text"] [])
    (C__are_nodes : Cal P w K mg base 3 "_are_nodes" fA fdA ["value"] (spAre K)) (C_text_of : Cal P w K mg base 2 "text_of" fT fdT ["nodes"] (spText K)) (GI : FnOk P w K mg base (L2.CX P w) 4 fI fdI ["self", "nodes"] (spInit K C CE)) (bI : Binds K fdI ["self", "nodes"] []) :
    FnT P w K mg base 6 f fd ["cls", "text"] (spReadOk K C) := by
  refine funT F sc_Promise_read (fun vs H Q E h => ?_) (fun cdv A outer s H vs Q E hr h => ?_)
  · obtain ⟨z, ns, t, rfl, _⟩ := h
    rfl
  · obtain ⟨z, ns, t, rfl, hz, hw, hx, hns, ho, hd, hl, ht, etz, q⟩ := h
    have hr2 := hr.mono (j := 2) (by omega)
    have hr3 := hr.mono (j := 3) (by omega)
    refine ⟨_, psst_cons (PST.of (ps_if (pt_not (pt_val (pe_callB (isiQ (K := K) rfl) (by rfl) T.isinstance_ (by decide +kernel) (pa_cons (pv 1) (pa_cons (pe_bltn (v := .ty "str") (by rfl) T.str_ (by decide +kernel) rfl) pa_nil))))) (pss_one ps_never) pss_nil))
      (psst_cons (pst_set (i := 2) sc_Promise_read.nd rfl (.inl rfl) (pet_callT GN hr2 (by rfl) mN kN bN (pa_cons (pv 1) pa_nil)))
      (PSsT.of (pss_cons (ps_if (PW.pt (pw_or (pt_not (pt_val (pe_call C__are_nodes.G hr3 (by rfl) C__are_nodes.m C__are_nodes.k C__are_nodes.b .nil pass0 (pa_cons (pv 2) pa_nil)))) (pw_or1 (pt_cmpR op_ne (pe_call C_text_of.G hr2 (by rfl) C_text_of.m C_text_of.k C_text_of.b .nil pass0 (pa_cons (pv 2) pa_nil)) (pv 1) (nomark _))))) (pss_one ps_never) pss_nil)
      (pss_one (ps_ret (pe_makeL (i := 0) (E := fun _ => E0) PC.mkC GI hr rfl (by first | exact Or.inl rfl | exact Or.inr (Or.inl rfl)) bI (fun σ pins H s e s' I h => passL pins σ H s e s' I h) (pa_cons (pv 2) pa_nil))))))), ?_⟩
    refine ⟨_, rfl, .str z, .ty "str", .type "str", .type "str", true, rfl, .ty _, .base (.str z), kit_ty (by decide +kernel), _, rfl, iteF ?_⟩
    refine ⟨_, rfl, z, rfl, hz, hw, hx, fun p ys H1 s1 n1 e1 N1 => ?_⟩
    rw [hns] at N1
    have g : GoodN ns := fun n hn => (ho n hn).1
    obtain ⟨nv, fw⟩ := good_nodes (K := K) (SqT.of e1) N1 ho hd hl
    refine ⟨_, rfl, .ref p, _, true, rfl, nv, fw, fun H2 s2 => ⟨_, rfl, iteF ?_⟩⟩
    have N2 := N1.tk (stk s2)
    have e2 := (stk s2).seq (SqT.of e1 : SqT K H1 p ys)
    refine ⟨_, rfl, p, ys, ns, t, rfl, e2, N2, g, hd, by rw [N1.length]; omega, ht, fun H3 s3 => ⟨_, rfl, rfl, _, rfl, ?_⟩⟩
    refine iteF' (by rw [etz]; simp) ⟨rfl, _, rfl, fun x dx nx nd ne => ?_⟩
    have s03 := s1.trans (s2.trans s3)
    have N3 := N2.tk (stk s3)
    have e3 := (stk s3).seq e2
    have u3 : Same H3 (upd (upd H3 dx (.own x)) x (.ins C dx [])) := fun b' o' eb => by
      rw [upd_ne (ne_of_none eb nx), upd_ne (ne_of_none eb nd)]
      exact eb
    have t3 := stk u3
    obtain ⟨nv3, fw3⟩ := good_nodes (K := K) (t3.seq e3) (N3.tk t3) ho hd hl
    refine ⟨x, dx, .ref p, _, true, rfl, upd_same, nv3, fw3, fun _ H4 bt e4 => ⟨rfl, ?_⟩, fun z => nomatch z⟩
    have s4 : Same H3 H4 := fun b' o' eb => bt b' o' (ne_of_none eb nx) (u3 b' o' eb)
    exact q x H4 (s03.trans s4) (s03.free nx) ⟨dx, p, ys, e4, (stk s4).seq e3, N3.tk (stk s4), ho⟩
end
end Eh
set_option Elab.async false
set_option linter.all false
set_option maxRecDepth 100000
set_option maxHeartbeats 2000000
set_option Elab.async false
set_option linter.all false
set_option maxRecDepth 100000
set_option maxHeartbeats 2000000
set_option Elab.async false
set_option linter.all false
set_option maxRecDepth 100000
set_option maxHeartbeats 2000000
namespace Eh
open PySem PySem.Spec PyProof.Rows L2
structure PropC (P : Program) (w : World) (K : PySem.W.Frag) (mg : Str → Option Value) (base : Heap) (C : Addr) (x : Str) (k : Nat) (sp : Sp) (p g : Addr) (fd : FuncData) : Prop where
  p : PropOf K C x p g
  ok : FnOk P w K mg base CX0 k g fd ["self"] sp
  b : Binds K fd ["self"] []
structure DunC (P : Program) (w : World) (K : PySem.W.Frag) (mg : Str → Option Value) (base : Heap) (C : Addr) (x : Str) (k : Nat) (ps : List Str) (sp : Sp) (g : Addr) (fd : FuncData) : Prop where
  s : PySem.W.findIn K (.ref C) x = some (some (.ref g))
  f : PySem.W.isFn K (.ref g) = true
  ok : FnOk P w K mg base CX0 k g fd ps sp
  b : Binds K fd ps []
section
variable {P : Program} {w : World} {K : PySem.W.Frag} {mg : Str → Option Value} {base : Heap}
theorem eqG_of_A {C f : Addr} {fd : FuncData} (F : FnOk P w K mg base CX0 1 f fd ["self", "value"] (spEqA K C)) : FnOk P w K mg base CX0 1 f fd ["self", "value"] (spEqG K C) :=
  F.imp fun vs H Q E h => .inl h
end
theorem hu65e {A : Around} {k : Nat} (hr : Room k A) : A.units + 65 < cLine := by
  have := hr.un
  omega
/-- what stands while a drawn promise is looked at -/
structure Rt (K : PySem.W.Frag) (C : Addr) (H : Hp) (v u : V) (pl ql : Pl) (x dx p n i : Addr) (zs xs ys : List V) : Prop where
  pa : At K H v pl
  oa : At K H u ql
  ix : H x = some (.ins C dx [(("_nodes" : Str), .ref p)])
  hs : SqT K H p zs
  hz : NdsAt K H zs (nodesOf pl)
  nl : H n = some (.lst xs)
  nd : NdsAt K H xs (nodesOf pl)
  il : H i = some (.lst ys)
  ia : AtAll K H ys (innerOf pl)
theorem Rt.same {K : PySem.W.Frag} {C : Addr} {H H' : Hp} {v u : V} {pl ql : Pl} {x dx p n i : Addr} {zs xs ys : List V} (r : Rt K C H v u pl ql x dx p n i zs xs ys) (s : Same H H') : Rt K C H' v u pl ql x dx p n i zs xs ys :=
  ⟨r.pa.tk (stk s), r.oa.tk (stk s), s _ _ r.ix, (stk s).seq r.hs, r.hz.tk (stk s), s _ _ r.nl, r.nd.tk (stk s), s _ _ r.il, r.ia.tk (stk s)⟩
theorem eqv_self {d : PyData} (h : SeqAt.shaped d = true) : PyData.eqv d d = true := SeqAt.eqv_refl _ (SeqAt.canLay_of_shaped h)
/-- a plain promise as it is drawn -/
structure Drawn (pl : Pl) : Prop where
  w : InW uni6 (nodesOf pl)
  l : (nodesOf pl).length ≤ 11
  ok : plOk pl = true
  good : GoodN (nodesOf pl)
  due : dueGo 1 (nodesOf pl) = true
  stack : stackT (nodesOf pl) = [textOf pl]
  full : plFull pl = true
theorem Drawn.nok {pl : Pl} (d : Drawn pl) : ∀ n ∈ nodesOf pl, NOk n := nok_of d.good d.w
theorem Drawn.of {K : PySem.W.Frag} {H : Hp} {v : V} {ws : List Str} {pl : Pl} (h : At K H v pl) (hi : ∀ z ∈ ws, z ∈ uni6) (w : InW ws (nodesOf pl)) (l : (nodesOf pl).length ≤ 11) : Drawn pl := by
  have w6 : InW uni6 (nodesOf pl) := fun k z m => hi _ (w k z m)
  obtain ⟨du, gd, _, _⟩ := at_good h w6 (by omega)
  have st := h.stack []
  rw [List.append_nil] at st
  exact ⟨w6, l, h.plOk, gd, du, st, h.full⟩
theorem Rt.m {K : PySem.W.Frag} {C : Addr} {H : Hp} {v u : V} {pl ql : Pl} {x dx p n i : Addr} {zs xs ys : List V} (r : Rt K C H v u pl ql x dx p n i zs xs ys) (d : Drawn pl) : PrOk K C H x (nodesOf pl) := ⟨dx, p, zs, r.ix, r.hs, r.hz, d.nok⟩
theorem Rt.g {K : PySem.W.Frag} {C : Addr} {H : Hp} {v u : V} {pl ql : Pl} {x dx p n i : Addr} {zs xs ys : List V} (r : Rt K C H v u pl ql x dx p n i zs xs ys) (d : Drawn pl) : PrG K C H x (nodesOf pl) := ⟨dx, p, zs, r.ix, r.hs, r.hz, d.good⟩
theorem Drawn.inner {K : PySem.W.Frag} {H : Hp} {v : V} {pl q : Pl} (d : Drawn pl) (m : q ∈ innerOf pl) (h : At K H v q) : Drawn q := by
  obtain ⟨a, b⟩ := inner_sub m
  have hl := d.l
  exact Drawn.of h (fun z hz => hz) (fun k z hk => d.w k z (a _ hk)) (by omega)
end Eh
set_option Elab.async false
set_option linter.all false
set_option maxRecDepth 100000
set_option maxHeartbeats 2000000
set_option Elab.async false
set_option linter.all false
set_option maxRecDepth 100000
set_option maxHeartbeats 2000000
set_option Elab.async false
set_option linter.all false
set_option maxRecDepth 100000
set_option maxHeartbeats 2000000
set_option Elab.async false
set_option linter.all false
set_option maxRecDepth 100000
set_option maxHeartbeats 4000000
set_option Elab.async false
set_option linter.all false
set_option maxRecDepth 100000
set_option maxHeartbeats 4000000
namespace Eh
open PySem PySem.Spec PyProof.Rows L2
open CwR
/-- a dict from just these facts to facts -/
structure Nm (H : Hp) (d : Addr) (ρ : Str → Str) (fs : List Str) : Prop where
  at_ : ∃ kvs, H d = some (.dK kvs) ∧ kvs.length = fs.length ∧ ∀ z ∈ fs, valV kvs (.inr z) = some (.str (ρ z))
  ok : ∀ z ∈ fs, factS (ρ z) = true
theorem Nm.same {H H' : Hp} {d : Addr} {ρ : Str → Str} {fs : List Str} (h : Nm H d ρ fs) (s : Same H H') : Nm H' d ρ fs := by
  obtain ⟨⟨kvs, a, b, c⟩, o⟩ := h
  exact ⟨⟨kvs, s _ _ a, b, c⟩, o⟩
theorem Nm.get {H : Hp} {d : Addr} {ρ : Str → Str} {fs : List Str} (h : Nm H d ρ fs) {z : Str} (hz : z ∈ fs) : DGet H d (.str z) (some (.str (ρ z))) := by
  obtain ⟨⟨kvs, a, b, c⟩, o⟩ := h
  have g := DGet.k (k := .inr z) a
  rw [c z hz] at g
  exact g
end Eh
set_option Elab.async false
set_option linter.all false
set_option maxRecDepth 100000
set_option maxHeartbeats 4000000
namespace Eh
open PySem PySem.Spec PyProof.Rows L2
open CwR
section
variable {P : Program} {w : World} {K : PySem.W.Frag} {mg : Str → Option Value} {base : Heap}
/-- what is asked of C(nodes) where the nodes are good: made or refused -/
theorem makeS_steps {C x dx p : Addr} {H : Hp} {ys : List V} {ns : List (Str × V)} {CE : Addr} {Q : VK} {E : XK} (nx : H x = none) (nd : H dx = none) (hs : SqT K H p ys) (hN : NdsAt K H ys ns) (g : GoodN ns)
    (q : okB ns = true → ∀ H', Same H H' → PrG K C H' x ns → Q (.ref x) H') (q2 : okB ns = false → ∀ H', Same H H' → E (.ref CE) none H') : spInitE K C CE [.ref x, .ref p] (upd (upd H dx (.own x)) x (.ins C dx [])) (fun v H' => v = .non ∧ Q (.ref x) H') E := by
  have u3 : Same H (upd (upd H dx (.own x)) x (.ins C dx [])) := fun b' o' eb => by
    rw [upd_ne (ne_of_none eb nx), upd_ne (ne_of_none eb nd)]
    exact eb
  refine ⟨x, dx, .ref p, okB ns, rfl, upd_same, (good_W hs hN g).ku (ku_same u3), fun eo H4 bt e4 => ⟨rfl, ?_⟩, fun eo H4 s4 => q2 eo H4 (u3.trans s4)⟩
  obtain ⟨s5, pr⟩ := made_steps nx nd hs hN g bt e4
  exact q eo H4 s5 pr
end
end Eh
set_option Elab.async false
set_option linter.all false
set_option maxRecDepth 100000
set_option maxHeartbeats 4000000
set_option Elab.async false
set_option linter.all false
set_option maxRecDepth 100000
set_option maxHeartbeats 4000000
namespace Eh
open PySem PySem.Spec PyProof.Rows L2
theorem facts_uni {ns : List (Str × V)} (w : InW uni6 ns) {z : Str} (h : z ∈ factsN ns) : z ∈ uni6 := by
  unfold factsN at h
  obtain ⟨n, hn, e⟩ := List.mem_filterMap.mp h
  split at e
  · split at e
    · rename_i y ey
      cases e
      exact w n.1 z (by rw [← ey]; exact hn)
    · cases e
  · cases e
section
variable {P : Program} {w : World} {K : PySem.W.Frag} {mg : Str → Option Value} {base : Heap}
theorem depth_pos : ∀ p : Pl, 1 ≤ depthOf p
  | .leaf k t => by rw [depthOf]; exact Nat.le_refl _
  | .node k ps => by rw [depthOf]; omega
end
end Eh
set_option Elab.async false
set_option linter.all false
set_option maxRecDepth 100000
set_option maxHeartbeats 4000000
set_option Elab.async false
set_option linter.all false
set_option maxRecDepth 100000
set_option maxHeartbeats 4000000
namespace Eh
open PySem PySem.Spec PyProof.Rows L2
open LamX (TabB Tabs TabS ExtN GivesTo TTold tLam told_gives pe_lamcall lamS_by lamCx lamEnv)
/-- a def of the module whose code object is told -/
structure FunL (K : PySem.W.Frag) (x qual : Str) (st : Stmt) (f : Addr) (fd : FuncData) (c : Addr) : Prop where
  ex : ∃ (oc : Value) (od : Option Addr) (kV doc pm : Value) (an : Option Addr) (ct : Value) (osl : Array (Option Value)),
    fd = PySem.W.fnOf x qual (defArgs st) (defBody st) (defScope st) .none kV doc pm an (.ref c) ct ∧ K.lookup f = some ⟨oc, od, .func fd, osl⟩ ∧ PySem.W.codeIn K (.ref c) qual = true
section
variable {P : Program} {w : World} {K : PySem.W.Frag} {mg : Str → Option Value} {base : Heap}
theorem FunL.ok {x qual : Str} {st : Stmt} {f c : Addr} {fd : FuncData} {N ps : List Str} {k : Nat} {sp : Sp} (F : FunL K x qual st f fd c) (S : FnScope N ps (defScope st)) (len : ∀ vs H Q E, sp vs H Q E → vs.length = ps.length)
    (hbody : ∀ (A : Around) (outer : List Env) (s : Shared) (H : Hp) (vs : List V) (Q : VK) (E : XK), Room k (A.deeper (envOfC qual (defScope st) s.heap.objs.size f (.ref c))) → sp vs H Q E →
      ∃ t, PSs (cxOf CX0 P w K mg base N qual (defScope st) f (.ref c) A outer s H E).nox (defBody st) t ∧ t { nx := fun _ H' => Q .non H', rt := Q } (start N vs) H) : FnOk P w K mg base CX0 (k + 1) f fd ps sp := by
  obtain ⟨oc, od, kV, doc, pm, an, ct, osl, rfl, lk, hcd⟩ := F.ex
  refine fn_of lk hcd S len fun A outer s H vs Q E hr hsp => ?_
  obtain ⟨t, h, q⟩ := hbody A outer s H vs Q E hr hsp
  exact ⟨t, h.nox, q⟩
end
end Eh
set_option Elab.async false
set_option linter.all false
set_option maxRecDepth 100000
set_option maxHeartbeats 8000000
namespace Eh
open PySem PySem.Spec PyProof.Rows L2
open LamX (TabB Tabs TabS ExtN GivesTo TTold tLam told_gives pe_lamcall lamS_by lamCx lamEnv)
/-- what a call makes, or the word -/
def Res (K : PySem.W.Frag) (C : Addr) (H : Hp) (v : V) (ns : List (Str × V)) : Prop := (okB ns = true ∧ ∃ x, v = .ref x ∧ PrG K C H x ns) ∨ (okB ns = false ∧ v = .str "promise")
theorem ntk {H H' : Hp} (e : ExtN H H') : Tk H H' := fun a xs h => h.imp (fun z => e a _ z fun ps z => by cases z) fun ⟨o, z⟩ => ⟨o, e a _ z fun ps z => by cases z⟩
theorem PrG.ext {K : PySem.W.Frag} {C a : Addr} {H H' : Hp} {ns : List (Str × V)} (h : PrG K C H a ns) (e : ExtN H H') : PrG K C H' a ns := by
  obtain ⟨dx, p, xs, e1, hs, hN, g⟩ := h
  exact ⟨dx, p, xs, e _ _ e1 (fun ps z => by cases z), (ntk e).seq hs, hN.tk (ntk e), g⟩
theorem Res.ext {K : PySem.W.Frag} {C : Addr} {H H' : Hp} {v : V} {ns : List (Str × V)} (h : Res K C H v ns) (e : ExtN H H') : Res K C H' v ns :=
  h.imp (fun ⟨a, x, b, c⟩ => ⟨a, x, b, c.ext e⟩) id
inductive ResAll (K : PySem.W.Frag) (C : Addr) (H : Hp) : List V → List (List (Str × V)) → Prop
  | nil : ResAll K C H [] []
  | cons {v : V} {vs : List V} {n : List (Str × V)} {ns : List (List (Str × V))} : Res K C H v n → ResAll K C H vs ns → ResAll K C H (v :: vs) (n :: ns)
theorem ResAll.ext {K : PySem.W.Frag} {C : Addr} {H H' : Hp} (e : ExtN H H') : ∀ {vs : List V} {ns : List (List (Str × V))}, ResAll K C H vs ns → ResAll K C H' vs ns
  | _, _, .nil => .nil
  | _, _, .cons h r => .cons (h.ext e) (r.ext e)
theorem ResAll.snoc {K : PySem.W.Frag} {C : Addr} {H : Hp} {v : V} {n : List (Str × V)} (h : Res K C H v n) : ∀ {vs : List V} {ns : List (List (Str × V))}, ResAll K C H vs ns → ResAll K C H (vs ++ [v]) (ns ++ [n])
  | _, _, .nil => .cons h .nil
  | _, _, .cons a r => .cons a (r.snoc h)
/-- two promises and the plain ones they are of -/
structure Two (K : PySem.W.Frag) (C : Addr) (H : Hp) (a b : Addr) (v u : V) (pl ql : Pl) : Prop where
  a : PrG K C H a (nodesOf pl)
  b : PrG K C H b (nodesOf ql)
  v : At K H v pl
  u : At K H u ql
theorem Two.ext {K : PySem.W.Frag} {C : Addr} {H H' : Hp} {a b : Addr} {v u : V} {pl ql : Pl} (t : Two K C H a b v u pl ql) (e : ExtN H H') : Two K C H' a b v u pl ql := ⟨t.a.ext e, t.b.ext e, t.v.tk (ntk e), t.u.tk (ntk e)⟩
structure Kb (l : Addr) (us : List V) (H H' : Hp) : Prop where
  at_ : H l = some (.lst us)
  kp : ∀ x o, x ≠ l → H x = some o → H' x = some o
  tk : Tk H H'
theorem PrG.kb {K : PySem.W.Frag} {C a l : Addr} {us : List V} {H H' : Hp} {ns : List (Str × V)} (h : PrG K C H a ns) (e : Kb l us H H') : PrG K C H' a ns := by
  obtain ⟨dx, p, xs, e1, hs, hN, g⟩ := h
  exact ⟨dx, p, xs, e.kp _ _ (fun z => by rw [z, e.at_] at e1; cases e1) e1, e.tk.seq hs, hN.tk e.tk, g⟩
theorem ResAll.kb {K : PySem.W.Frag} {C l : Addr} {us : List V} {H H' : Hp} (e : Kb l us H H') : ∀ {vs : List V} {ns : List (List (Str × V))}, ResAll K C H vs ns → ResAll K C H' vs ns
  | _, _, .nil => .nil
  | _, _, .cons h r => .cons (h.imp (fun ⟨a, x, b, c⟩ => ⟨a, x, b, c.kb e⟩) id) (r.kb e)
theorem Two.kb {K : PySem.W.Frag} {C l : Addr} {us : List V} {H H' : Hp} {a b : Addr} {v u : V} {pl ql : Pl} (t : Two K C H a b v u pl ql) (e : Kb l us H H') : Two K C H' a b v u pl ql := ⟨t.a.kb e, t.b.kb e, t.v.tk e.tk, t.u.tk e.tk⟩
theorem tabs_kb {T : List (Addr × Str)} {l : Addr} {us : List V} {H H' : Hp} (t : Tabs T H) (e : Kb l us H H') : Tabs T H' := fun p hp => by
  obtain ⟨ps, h1, h2, h3⟩ := t p hp
  refine ⟨ps, e.kp _ _ (fun z => by rw [z, e.at_] at h1; cases h1) h1, h2, fun pos cv hc => ?_⟩
  obtain ⟨c, e1, e2⟩ := h3 pos cv hc
  exact ⟨c, e1, e.kp _ _ (fun z => by rw [z, e.at_] at e2; unfold LamX.CodeO at e2; cases e2) e2⟩
section
variable {P : Program} {w : World} {K : PySem.W.Frag} {mg : Str → Option Value} {base : Heap}
mutual
theorem depth_inner : ∀ {p : Pl}, plOk p = true → depthOf p ≤ 1 + countIn nodeKinds (nodesOf p)
  | .leaf k t, _ => by rw [depthOf]; omega
  | .node k ps, h => by
    rw [plOk, Bool.and_eq_true] at h
    have ih := depthA_inner h.2
    have e : countIn nodeKinds (nodesOf (.node k ps)) = 1 + countIn nodeKinds (nodesAll ps) := by
      rw [nodesOf, show ((k, V.int (ps.length : Int)) :: nodesAll ps) = [(k, V.int (ps.length : Int))] ++ nodesAll ps from rfl, countIn_app]
      congr 1
      unfold countIn
      rw [List.filter_cons, if_pos h.1]
      rfl
    rw [depthOf, e]
    omega
theorem depthA_inner : ∀ {ps : List Pl}, plsOk ps = true → depthAll ps ≤ 1 + countIn nodeKinds (nodesAll ps)
  | [], _ => by rw [depthAll]; omega
  | p :: ps, h => by
    rw [plsOk, Bool.and_eq_true] at h
    have i1 := depth_inner h.1
    have i2 := depthA_inner h.2
    rw [depthAll, nodesAll, countIn_app]
    omega
end
theorem Drawn.okB {pl : Pl} (d : Drawn pl) : okB (nodesOf pl) = true := by
  have hl := d.l
  have h1 := due_inner (l := 1) d.good d.due
  have h2 := countIn_mono (fun k h => choice_inner (k := k) h) (nodesOf pl)
  have h3 := depth_inner d.ok
  have h4 := depth_tree d.ok d.full
  have h5 := depth_pos pl
  have h6 : (nubS (factsN (nodesOf pl))).length ≤ 6 := nodup_le (us := uni6) (puts_nodup (factsN (nodesOf pl))) fun z hz => facts_uni d.w ((puts_mem _ z).mp hz)
  unfold Eh.okB boundB
  rw [decide_eq_true (show (nodesOf pl).length ≤ 40 by omega), decide_eq_true h6, decide_eq_true (show countIn choiceKinds (nodesOf pl) ≤ 10 by omega), h4, decide_eq_true (show (1 : Int) ≤ ((depthOf pl : Nat) : Int) by omega), decide_eq_true (show ((depthOf pl : Nat) : Int) ≤ 8 by omega)]
  rfl
end
end Eh
set_option Elab.async false
set_option linter.all false
set_option maxRecDepth 100000
set_option maxHeartbeats 4000000
namespace HNE
open PySem PySem.Spec PyProof.Rows PySem.SeqAt
section
variable {prog : Program} {w : World} {A : Around} {E : Value → Shared → Prop} {h : Heap} {g : Array GenState} {d : Drawn} {t : Nat} {os : OsState} {K : PySem.W.Frag} {x y C f : Addr} {ox : Obj} {od : Option Obj}
theorem ne_entry {Q : Fin → Shared → Prop} (hu : A.units < cLine) (X : K.In h) (I : PySem.W.InstAt h x ox C od) (hs : PySem.W.findIn K (.ref C) "__eq__" = some (some (.ref f))) (hf : PySem.W.isFn K (.ref f) = true)
    (hcall : wpAny (model prog w) A (call (.ref f) [.ref x, .ref y]) (fun v s' => ∃ b, v = .bool b ∧ Q (.done (.ret (.bool (!b)))) s') E ⟨h, g, d, t, os⟩) :
    wpAny (model prog w) A (Builtin.«object.__ne__» ⟨[.ref x, .ref y], []⟩) Q E ⟨h, g, d, t, os⟩ := by
  unfold Builtin.«object.__ne__»
  repeat (first
    | with_reducible refine wpAny_cRoomFor hu ?_
    | (refine wpAny_bind (m := callSpecialIfBound? (.ref x) (Str.ofString "__eq__") [.ref y])
        (PySem.W.ifBound_K X I hs hf (wpAny_mono hcall (fun r s' hr => by
          obtain ⟨b, rfl, hq⟩ := hr
          repeat (first | exact hq | exact wpAny_pure hq | exact wpAny_truthy_bool hq | (refine wpAny_bind (m := truthy (.bool _)) (wpAny_truthy_bool ?_)) | wp_step)) fun _ _ e => e)))
    | wp_step)
theorem ifBound_objNe {M : Model} {s : Shared} {args : List Value} {Q : Option Value → Shared → Prop} (X : K.In s.heap) (I : PySem.W.InstAt s.heap x ox C od) (hs : PySem.W.findIn K (.ref C) "__ne__" = some (some (.builtin "object.__ne__")))
    (h : wpAny M A (call (.builtin "object.__ne__") (.ref x :: args)) (fun v => Q (some v)) E s) : wpAny M A (callSpecialIfBound? (.ref x) "__ne__" args) Q E s := by
  simp only [callSpecialIfBound?, bindSpecialIfBound?]
  refine wpAny_holding (wpAny_bind (wpAny_bind (wpAny_bind (I.type.here ((PySem.W.looks_findIn X hs).here ?_)))))
  refine wpAny_bind (wpAny_askSetting (wpAny_ite ?_))
  have fin : wpAny M A (call (.builtin "object.__ne__") ([.ref x] ++ args) >>= fun v => pure (some v)) Q E s := wpAny_bind (wpAny_mono h (fun v s' h' => wpAny_pure h') fun _ _ h' => h')
  split
  · exact wpAny_bind (wpAny_of_eq (F.cmp_object.ne.bind _) (wpAny_pure (by exact fin)))
  · exact wpAny_tryCatch (wpAny_bind (wpAny_of_eq (F.cmp_object.ne.bind _) (wpAny_pure (by exact fin))))
theorem rc_ne {s : Shared} {Q : Value → Shared → Prop} {oy : Obj} {ody : Option Obj} (hu : A.units + 1 < cLine) (hu2 : A.in1.units < cLine) (X : K.In s.heap) (I : PySem.W.InstAt s.heap x ox C od) (J : PySem.W.InstAt s.heap y oy C ody) (hm : PySem.W.mroIn K C (.type "object") = some true) (hn : PySem.W.findIn K (.ref C) "__ne__" = some (some (.builtin "object.__ne__")))
    (hs : PySem.W.findIn K (.ref C) "__eq__" = some (some (.ref f))) (hf : PySem.W.isFn K (.ref f) = true)
    (hcall : wpAny (model prog w) A.in1 (call (.ref f) [.ref x, .ref y]) (fun v s' => ∃ b, v = .bool b ∧ Q (.bool (!b)) s') E s) : wpAny (model prog w) A (richCompare .NotEq (.ref x) (.ref y)) Q E s := by
  have one : wpAny (model prog w) A (tryCompare (.ref x) "__ne__" (.ref y)) (fun r s' => ∃ v, r = some v ∧ Q v s') E s := by
    unfold tryCompare
    refine wpAny_bind (ifBound_objNe X I hn (wpAny_call (codeAny_call_builtin F.cmp_object.ne.plain F.cmpEntry_ne (PySem.W.check_slot F.cmpKind_ne F.cmpSplit_ne (I.type.andThen (PySem.W.looks_mroIn X hm)) (F.cmpArgs_ne _ _) ?_))))
    obtain ⟨hp, g, d, t, os⟩ := s
    refine ne_entry (A := A.in1) hu2 X I hs hf (wpAny_mono hcall (fun v s' hv => ?_) fun _ _ e => e)
    obtain ⟨b, rfl, hq⟩ := hv
    first | exact ⟨b, rfl, wpAny_pure ⟨_, rfl, hq⟩⟩ | exact ⟨b, rfl, _, rfl, hq⟩ | exact ⟨b, rfl, wpAny_pure (wpAny_pure ⟨_, rfl, hq⟩)⟩
  unfold richCompare
  simp only [oneThing_ref]
  refine wpAny_holding (wpAny_bind (wpAny_cRoomFor (Nat.lt_of_succ_lt hu) ?_))
  rw [PySem.cmpInfo_NotEq]
  dsimp only
  refine wpAny_bind (I.type.here (wpAny_bind (J.type.here ?_)))
  rw [show (Value.ref C != Value.ref C) = false from by simp]
  simp only [Bool.false_eq_true, if_false]
  refine wpAny_bind (wpAny_pure ?_)
  simp only [Bool.false_eq_true, if_false]
  refine wpAny_bind (wpAny_mono one (fun r s' z => ?_) fun _ _ e => e)
  obtain ⟨v, rfl, hq⟩ := z
  exact wpAny_pure hq
end
end HNE
namespace Eh
open PySem PySem.Spec PyProof.Rows L2
section
variable {X : Cx} {n : Nat} {f C : Addr} {fd : FuncData} {ps : List Str} {sp : Sp} {CX : CXT} {E : XK}
def rNeOwn (C : Addr) (sp : Sp) (E : XK) : R2 := fun x y H Q => ∃ a b dx dy fs gs, x = .ref a ∧ y = .ref b ∧ H a = some (.ins C dx fs) ∧ H b = some (.ins C dy gs) ∧ sp [.ref a, .ref b] H (fun v H' => ∃ k, v = .bl k ∧ Q (.bl (!k)) H') E
theorem neOwn (F : FnOk X.prog X.w X.K X.mg X.base CX n f fd ps sp) (hr : Room (n + 1) X.A) (hm : PySem.W.mroIn X.K C (.type "object") = some true) (hn : PySem.W.findIn X.K (.ref C) "__ne__" = some (some (.builtin "object.__ne__"))) (hs : PySem.W.findIn X.K (.ref C) "__eq__" = some (some (.ref f))) (hf : PySem.W.isFn X.K (.ref f) = true) (hb : Binds X.K fd ps []) (hx : Passes CX X E) :
    OpR X (compareOp .NotEq) (rNeOwn C sp E) := by
  intro pins s σ H x y v u Q I rx ry h
  obtain ⟨a, b, dx, dy, fs, gs, rfl, rfl, ha, hb', q⟩ := h
  cases rx
  cases ry
  obtain ⟨mA, J, _⟩ := ins_get I.hok ha
  obtain ⟨mB, J', _⟩ := ins_get I.hok hb'
  obtain ⟨od, J, _⟩ := J.look
  obtain ⟨od', J', _⟩ := J'.look
  have hu : X.A.units + 1 < cLine := by
    have := hr.un
    omega
  show wpAny _ _ (richCompare .NotEq _ _) _ _ _
  refine HNE.rc_ne hu hr.in1.units0 I.kIn J J' hm hn hs hf (wpAny_mono (run_own (us := [.ref a, .ref b]) (vs := [.ref a, .ref b]) F hb hx ⟨hr.in1, rfl⟩ I (.cons rfl (.cons rfl .nil)) q) (fun r s' z => ?_) fun _ _ e => e)
  obtain ⟨z, H', I', rz, k, rfl, q'⟩ := z
  cases rz
  exact ⟨k, rfl, .bl (!k), H', I', rfl, q'⟩
end
end Eh
set_option Elab.async false
set_option linter.all false
set_option maxRecDepth 100000
set_option maxHeartbeats 8000000
set_option pp.maxSteps 60
namespace Eh
open PySem PySem.Spec PyProof.Rows L2
open ClX
open LamX (TabB Tabs TabS ExtN GivesTo TTold tLam told_gives pe_lamcall lamS_by lamCx lamEnv)
/-- the dice go on; all else stays, but the tables -/
structure GrN (T : List (Addr × Str)) (d : Addr) (H H' : Hp) : Prop where
  dice : D3 H' d
  keep : ∀ a o, a ≠ d → H a = some o → (∀ ps, o ≠ .tbl ps) → H' a = some o
  tabs : Tabs T H'
theorem kb_gr {d : Addr} {H H' : Hp} (D : D3 H d) (g : Gr d H H') : ∃ us, Kb d us H H' := by
  obtain ⟨x, b, c, e⟩ := id D
  exact ⟨_, e, g.keep, g.tk D⟩
theorem GrN.same {T : List (Addr × Str)} {d : Addr} {H0 H H' : Hp} (g : GrN T d H0 H) (s : Same H H') : GrN T d H0 H' := ⟨(same_gr g.dice s).dice, fun a o n e k => s _ _ (g.keep a o n e k), g.tabs.ext s⟩
theorem GrN.ext {T : List (Addr × Str)} {d : Addr} {H0 H H' : Hp} (g : GrN T d H0 H) (x : ExtN H H') (t : Tabs T H') : GrN T d H0 H' := by
  obtain ⟨a, b, c, e⟩ := g.dice
  exact ⟨⟨a, b, c, x _ _ e fun ps z => by cases z⟩, fun a o n e k => x _ _ (g.keep a o n e k) k, t⟩
theorem GrN.gr {T : List (Addr × Str)} {d : Addr} {H0 H H' : Hp} (g : GrN T d H0 H) (r : Gr d H H') : GrN T d H0 H' := by
  obtain ⟨us, kb⟩ := kb_gr g.dice r
  exact ⟨r.dice, fun a o n e k => r.keep _ _ n (g.keep a o n e k), tabs_kb g.tabs kb⟩
theorem Two.gr {K : PySem.W.Frag} {C d : Addr} {H H' : Hp} {a b : Addr} {v u : V} {pl ql : Pl} (t : Two K C H a b v u pl ql) (D : D3 H d) (r : Gr d H H') : Two K C H' a b v u pl ql := by
  obtain ⟨us, kb⟩ := kb_gr D r
  exact t.kb kb
end Eh
set_option Elab.async false
set_option linter.all false
set_option maxRecDepth 100000
set_option maxHeartbeats 4000000
namespace Zl
open PySem PySem.Spec PyProof.Rows L2
open Sem (wp)
theorem nq {a S : Nat} (h : a < S) (j : Nat) : S + 1 + j ≠ a := by omega
theorem nt {a S T : Nat} (h : a < S) (h2 : S < T) : T ≠ a := by omega
end Zl
set_option Elab.async false
set_option linter.all false
set_option maxRecDepth 100000
set_option maxHeartbeats 4000000
namespace Zl
open PySem PySem.Spec PyProof.Rows L2
open Sem (wp)
/-- pairs laid one behind the other from B on -/
def prL : Hp → Addr → List (V × V) → Hp
  | H, _, [] => H
  | H, B, (x, y) :: r => prL (upd H B (.tup [x, y])) (B + 1) r
section
variable {X : Cx} {pins : List (Addr × Obj)} {σ : L2.St} {h' : Heap}
theorem lay : ∀ (zs : List (V × V)) (B : Nat) (H : Hp) (s : Shared), Inv X pins σ H s → (∀ b o, s.heap.get? b = some o → h'.get? b = some o) → (∀ b : Nat, B ≤ b → s.heap.get? b = none ∧ H b = none) →
    (∀ j x y, zs[j]? = some (x, y) → ∃ u v, RelV x u ∧ RelV y v ∧ IsPair h' (B + j) u v) →
    ∃ G : Heap, (∀ b o, G.get? b = some o → h'.get? b = some o) ∧ (∀ b : Nat, b < B → s.heap.get? b = none → G.get? b = none) ∧ Inv X pins σ (prL H B zs) { s with heap := G }
  | [], B, H, s, I, k, n, a => ⟨s.heap, k, fun _ _ e => e, I⟩
  | (x, y) :: r, B, H, s, I, k, n, a => by
    obtain ⟨u, v, ru, rv, hT⟩ := a 0 x y rfl
    obtain ⟨G, g1, g2⟩ := restrict h' fun b => decide ((s.heap.get? b).isSome = true ∨ b = B)
    have gk : ∀ b o, s.heap.get? b = some o → G.get? b = some o := fun b o e => by
      rw [g1 b (decide_eq_true (.inl (by rw [e]; rfl)))]
      exact k b o e
    have gs : ∀ b o, G.get? b = some o → h'.get? b = some o := fun b o e => by
      by_cases hb : (s.heap.get? b).isSome = true ∨ b = B
      · rw [g1 b (decide_eq_true hb)] at e; exact e
      · rw [g2 b (decide_eq_false hb)] at e; cases e
    have gn : ∀ b, s.heap.get? b = none → b ≠ B → G.get? b = none := fun b e hb => g2 b (decide_eq_false fun z => by
      rcases z with z | z
      · rw [e] at z; cases z
      · exact hb z)
    have hT2 : G.get? B = some { cls := .type "tuple", data := .seq #[u, v] } := by
      rw [g1 B (decide_eq_true (.inr rfl))]
      exact hT
    have new : ObjOk X.prog X.w (upd H B (.tup [x, y])) G B (.tup [x, y]) :=
      ⟨by show 2 ≤ sizeLine; decide, [u, v], .cons ru (.cons rv .nil), ⟨_, hT2, rfl, _, rfl⟩⟩
    have I1 : Inv X pins σ (upd H B (.tup [x, y])) { s with heap := G } := I.laidN (t' := s.toks) gk (n B (Nat.le_refl _)).1 (n B (Nat.le_refl _)).2 new
    obtain ⟨G2, q1, q2, q3⟩ := lay r (B + 1) (upd H B (.tup [x, y])) { s with heap := G } I1 gs (fun b hb => ⟨gn b (n b (by omega)).1 (Nat.ne_of_gt hb), by rw [upd_ne (Nat.ne_of_gt hb)]; exact (n b (by omega)).2⟩)
      (fun j x' y' e => by
        obtain ⟨u', v', r1, r2, r3⟩ := a (j + 1) x' y' (by simpa using e)
        exact ⟨u', v', r1, r2, by rw [Nat.add_right_comm]; exact r3⟩)
    exact ⟨G2, q1, fun b hb e => q2 b (by omega) (gn b e (Nat.ne_of_lt hb)), q3⟩
end
end Zl
set_option Elab.async false
set_option linter.all false
set_option maxRecDepth 100000
set_option maxHeartbeats 4000000
namespace Eh
open PySem PySem.Spec PyProof.Rows L2
def look (fs ws : List Str) (z : Str) : Str := match (fs.zip ws).find? fun p => decide (p.1 = z) with | some p => p.2 | none => z
end Eh
set_option Elab.async false
set_option linter.all false
set_option maxRecDepth 100000
set_option maxHeartbeats 4000000
namespace Eh
open PySem PySem.Spec PyProof.Rows L2
open Zl
/-- the pairs made so far, what stood stays -/
def PrsR (H0 : Hp) (kvs : List (Key × V)) (j : Nat) (acc : List V) (H : Hp) : Prop := ∃ ps : List Addr, acc = ps.map V.ref ∧ Paired (fun p kv => H p = some (.tup [kV kv.1, kv.2])) ps (kvs.take j) ∧ Same H0 H
/-- behind the comprehension: what dict(..) asks -/
theorem PrsR.done {K : PySem.W.Frag} {H0 H : Hp} {acc : List V} {kvs : List (Key × V)} {n : Nat} (r : PrsR H0 kvs n acc H) (h : kvs.length ≤ n) : ∃ ps : List Addr, acc = ps.map V.ref ∧ Paired (fun p kv => SqT K H p [kV kv.1, kv.2]) ps kvs ∧ Same H0 H := by
  obtain ⟨ps, ea, hp, s⟩ := r
  rw [List.take_of_length_le h] at hp
  exact ⟨ps, ea, Paired.mono (fun p kv e => SqT.of e) hp, s⟩
end Eh
set_option Elab.async false
set_option linter.all false
set_option maxRecDepth 100000
set_option maxHeartbeats 4000000
set_option Elab.async false
set_option linter.all false
set_option maxRecDepth 100000
set_option maxHeartbeats 4000000
set_option Elab.async false
set_option linter.all false
set_option maxRecDepth 100000
set_option maxHeartbeats 2000000
namespace Eh
open PySem PySem.Spec PyProof.Rows L2
/-- where a path leads through nodes of some kinds: how many nodes stand ahead, and the part -/
def walkV (ks : List Str) : Pl → List V → Option (Nat × Pl)
  | p, [] => some (0, p)
  | .leaf _ _, _ :: _ => none
  | .node k ps, v :: r =>
    if (ks.contains k && idxV v (ps.length : Int)) = true then
      (match ps[(intOf v).toNat]? with
      | some q => (walkV ks q r).map fun y => (1 + (nodesAll (ps.take (intOf v).toNat)).length + y.1, y.2)
      | none => none)
    else none
theorem walkV_nil {ks : List Str} {p : Pl} : walkV ks p [] = some (0, p) := by
  cases p <;> rw [walkV]
theorem idxV_nat {v : V} {n : Nat} (h : idxV v (n : Int) = true) : ∃ i : Nat, v = .int (i : Int) ∧ i < n := by
  unfold idxV at h
  rw [Bool.and_eq_true] at h
  obtain ⟨i, rfl⟩ := intV_int h.1
  have h2 : (decide (0 ≤ i) && decide (i < (n : Int))) = true := h.2
  rw [Bool.and_eq_true, decide_eq_true_eq, decide_eq_true_eq] at h2
  refine ⟨i.toNat, ?_, by omega⟩
  rw [Int.toNat_of_nonneg h2.1]
theorem nodesAll_split {ps : List Pl} {i : Nat} {q : Pl} (h : ps[i]? = some q) : nodesAll ps = nodesAll (ps.take i) ++ (nodesOf q ++ nodesAll (ps.drop (i + 1))) := by
  have d := drop_at h
  have e : ps = ps.take i ++ q :: ps.drop (i + 1) := by rw [← d, List.take_append_drop]
  have e2 := congrArg nodesAll e
  rw [nodesAll_append, nodesAll] at e2
  exact e2
theorem walkV_node {ks : List Str} {k : Str} {ps : List Pl} {r : List V} {i : Nat} {q : Pl} (hk : ks.contains k = true) (hi : idxV (.int (i : Int)) (ps.length : Int) = true) (hq : ps[i]? = some q) :
    walkV ks (.node k ps) (.int (i : Int) :: r) = (walkV ks q r).map fun y => (1 + (nodesAll (ps.take i)).length + y.1, y.2) := by
  rw [walkV, hk, hi, if_pos (show (true && true) = true from rfl)]
  have e : (intOf (V.int (i : Int))).toNat = i := rfl
  rw [e, hq]
theorem walkV_split {ks : List Str} : ∀ {zs : List V} {pl : Pl} {o : Nat} {q : Pl}, plOk pl = true → walkV ks pl zs = some (o, q) → ∃ pre post, nodesOf pl = pre ++ (nodesOf q ++ post) ∧ pre.length = o ∧ plOk q = true
  | [], pl, o, q, h, e => by
    rw [walkV_nil] at e
    cases e
    exact ⟨[], [], by rw [List.append_nil]; rfl, rfl, h⟩
  | v :: r, .leaf k t, o, q, h, e => by
    rw [walkV] at e
    cases e
  | v :: r, .node k ps, o, q, h, e => by
    rw [walkV] at e
    split at e
    · split at e
      · rename_i q1 hq
        cases hw : walkV ks q1 r with
        | none =>
          rw [hw] at e
          cases e
        | some y =>
          obtain ⟨o1, q2⟩ := y
          rw [hw] at e
          cases e
          rw [plOk, Bool.and_eq_true] at h
          obtain ⟨pre, post, e1, e2, e3⟩ := walkV_split (plsOk_get h.2 hq) hw
          refine ⟨(k, .int (ps.length : Int)) :: (nodesAll (ps.take (intOf v).toNat) ++ pre), post ++ nodesAll (ps.drop ((intOf v).toNat + 1)), ?_, ?_, e3⟩
          · rw [nodesOf, nodesAll_split hq, e1]
            simp only [List.append_assoc, List.cons_append]
          · rw [List.length_cons, List.length_append, e2]
            omega
      · cases e
    · cases e
/-- what a value is as a path -/
inductive PathV (K : PySem.W.Frag) (H : Hp) : V → Option (List V) → Prop
  | other {v : V} : NoT H v → PathV K H v none
  | tup {t : Addr} {zs : List V} : SqT K H t zs → (∀ z ∈ zs, KindI K H z) → PathV K H (.ref t) (some zs)
def startV (ks : List Str) (pl : Pl) : Option (List V) → V
  | none => .non
  | some zs => match walkV ks pl zs with
    | some y => .int (y.1 : Int)
    | none => .non
theorem startV_none {ks : List Str} {pl : Pl} {zs : List V} (h : walkV ks pl zs = none) : startV ks pl (some zs) = .non := by
  show (match walkV ks pl zs with | some y => V.int (y.1 : Int) | none => V.non) = _
  rw [h]
theorem startV_some {ks : List Str} {pl : Pl} {zs : List V} {o : Nat} {q : Pl} (h : walkV ks pl zs = some (o, q)) : startV ks pl (some zs) = .int (o : Int) := by
  show (match walkV ks pl zs with | some y => V.int (y.1 : Int) | none => V.non) = _
  rw [h]
end Eh
set_option Elab.async false
set_option linter.all false
set_option maxRecDepth 100000
set_option maxHeartbeats 4000000
namespace Eh
open PySem PySem.Spec PyProof.Rows L2
section
variable {P : Program} {w : World} {K : PySem.W.Frag} {mg : Str → Option Value} {base : Heap}
def spAlong (K : PySem.W.Frag) : Sp := fun vs H Q _ => ∃ p xs pl v ws kp ks, vs = [.ref p, v, .ref kp] ∧ SqT K H p xs ∧ NdsAt K H xs (nodesOf pl) ∧ plOk pl = true ∧ xs.length < 1000 ∧ PathV K H v ws ∧ SqT K H kp (ks.map V.str) ∧ (∀ k : Str, ks.contains k = true → nodeKinds.contains k = true) ∧ Q (startV ks pl ws) H
/-- the first node of a tree that stands at an offset -/
theorem head_at {xs : List V} {ns : List (Str × V)} {H : Hp} {st : Nat} {q : Pl} {rest : List (Str × V)} (hN : NdsAt K H xs ns) (hd : ns.drop st = nodesOf q ++ rest) :
    ∃ a k u, xs[st]? = some (.ref a) ∧ ns[st]? = some (k, u) ∧ SqT K H a [.str k, u] ∧ (∃ more, nodesOf q = (k, u) :: more) := by
  obtain ⟨⟨k, u⟩, more, e⟩ : ∃ n more, nodesOf q = n :: more := by
    cases q with
    | leaf k u => exact ⟨_, _, by rw [nodesOf]⟩
    | node k ps => exact ⟨_, _, by rw [nodesOf]⟩
  rw [e] at hd
  have hke : ns[st]? = some (k, u) := by
    have h0 : (ns.drop st)[0]? = some (k, u) := by rw [hd]; rfl
    rw [List.getElem?_drop] at h0
    exact h0
  have hel : st < ns.length := (List.getElem?_eq_some_iff.mp hke).1
  have hx := List.getElem?_eq_getElem (show st < xs.length by rw [hN.length]; exact hel)
  obtain ⟨a, k', u', ex, hk', ha⟩ := hN.get hx
  rw [hke] at hk'
  cases hk'
  exact ⟨a, k, u, by rw [← ex]; exact hx, hke, ha, more, e⟩
theorem ok_start_along {fX fE f : Addr} {fdX fdE fd : FuncData} (F : Fun K "_start_along" "_start_along" s__start_along f fd) (T : Txt mg) (C_is_index : Cal P w K mg base 2 "is_index" fX fdX ["value", "many"] (spIndex K)) (C_end_of : Cal P w K mg base 1 "end_of" fE fdE ["nodes", "start"] (spEnd K)) :
    FnOk P w K mg base CX0 3 f fd ["nodes", "path", "kinds"] (spAlong K) := by
  refine F.ok sc__start_along (fun vs H Q E h => ?_) (fun cdv A outer s H vs Q E hr h => ?_)
  · obtain ⟨p, xs, pl, v, ws, kp, ks, rfl, _⟩ := h
    rfl
  · obtain ⟨p, xs, pl, v, ws, kp, ks, rfl, hS, hN, hok, hlen, hP, hK, hks, q⟩ := h
    have hr2 := hr.mono (j := 2) (by omega)
    have hr1 := hr.mono (j := 1) (by omega)
    refine ⟨_, (pss_cons (ps_if (pt_not (pt_val (pe_callB (isiQ (K := K) rfl) (by rfl) T.isinstance_ (by decide +kernel) (pa_cons (pv 1) (pa_cons (pe_bltn (v := .ty "tuple") (by rfl) T.tuple_ (by decide +kernel) rfl) pa_nil)))))
  (pss_one (ps_ret pe_non))
  pss_nil)
  (pss_cons (ps_set (i := 3) sc__start_along.nd rfl (.inl rfl) pe_int)
  (pss_cons (ps_for PassesOwn.never (by rfl) (pi_tup (pv 1)) (pg_name (i := 4) sc__start_along.nd rfl (.inl rfl))
  (pss_cons (ps_asg (pe_ix (ixT (K := K) rfl) (pv 0) (pv 3) (fun _ _ => rfl)) (pg_tup (by rfl) (pgs_cons (pg_name (i := 5) sc__start_along.nd rfl (.inl rfl)) (pgs_cons (pg_name (i := 6) sc__start_along.nd rfl (.inl rfl)) pgs_nil))))
  (pss_cons (ps_if (PW.pt (pw_or (pt_cmpR (niB (K := K) rfl) (pv 5) (pv 2) (by rfl)) (pw_or1 (pt_not (pt_val (pe_call C_is_index.G hr2 (by rfl) C_is_index.m C_is_index.k C_is_index.b .nil pass0 (pa_cons (pv 4) (pa_cons (pv 6) pa_nil))))))))
  (pss_one (ps_ret pe_non))
  pss_nil)
  (pss_cons (ps_set (i := 3) sc__start_along.nd rfl (.inl rfl) (pe_op op_add (pv 3) pe_int))
  (pss_one (ps_for PassesOwn.never (by rfl) (pi_range1 (by rfl) T.range_ (pa_cons (pv 4) pa_nil)) (pg_name (i := 7) sc__start_along.nd rfl (.inl rfl))
  (pss_one (ps_set (i := 3) sc__start_along.nd rfl (.inl rfl) (pe_call C_end_of.G hr1 (by rfl) C_end_of.m C_end_of.k C_end_of.b .nil pass0 (pa_cons (pv 0) (pa_cons (pv 3) pa_nil)))))))))))
  (pss_one (ps_ret (pv 3)))))), ?_⟩
    cases hP with
    | other hno =>
      obtain ⟨u, ty, hk⟩ := hno.ty (K := K)
      exact ⟨_, rfl, v, .ty "tuple", _, .type "tuple", false, rfl, .ty _, ty, hk, _, rfl, iteT q⟩
    | tup hs hkI =>
      rename_i t zs
      refine ⟨_, rfl, .ref t, .ty "tuple", _, .type "tuple", true, rfl, .ty _, ty_tup hs, kitTT, _, rfl, iteF ?_⟩
      refine ⟨_, rfl, t, rfl, ⟨_, hs⟩, for_tup (xs := zs) (fun j σ H2 => ∃ (st : Nat) (q : Pl) (rest : List (Str × V)) (x4 x5 x6 x7 : Option V), H2 = H ∧ σ = [some (.ref p), some (.ref t), some (.ref kp), some (.int (st : Int)), x4, x5, x6, x7] ∧ (nodesOf pl).drop st = nodesOf q ++ rest ∧ plOk q = true ∧ walkV ks pl zs = (walkV ks q (zs.drop j)).map fun y => (st + y.1, y.2)) ?_ (fun j σ H2 _ h => ?_) ?_ ?_⟩
      · refine ⟨0, pl, [], none, none, none, none, rfl, rfl, by rw [List.append_nil]; rfl, hok, ?_⟩
        rw [List.drop_zero]
        cases walkV ks pl zs with
        | none => rfl
        | some y => rw [Option.map_some, Nat.zero_add]
      · obtain ⟨st, q, rest, x4, x5, x6, x7, rfl, _⟩ := h
        exact hs
      · rintro j x σ H2 hx ⟨st, t1, rest, x4, x5, x6, x7, rfl, rfl, hd, hok1, hw⟩
        obtain ⟨a, k, u, hxa, hna, ha, more, hmore⟩ := head_at hN hd
        have hkx := hkI x (List.mem_of_getElem? hx)
        have hdz := drop_at hx
        refine ⟨_, rfl, _, rfl, p, xs, _, .ref a, rfl, rfl, hS, atI_nat hxa, ?_⟩
        refine ⟨a, _, rfl, ha, rfl, _, _, rfl, _, _, rfl, rfl, ?_⟩
        refine ⟨_, rfl, _, rfl, kp, _, rfl, .inr hK, rfl, flat_strs _, fun b eb => ⟨_, rfl, ?_⟩⟩
        rw [inV_strs] at eb
        cases t1 with
        | leaf k1 u1 =>
          rw [nodesOf] at hmore
          cases hmore
          have hkn : nodeKinds.contains k = false := by
            rw [plOk] at hok1
            simpa using hok1
          have eb' : b = false := by
            cases b with
            | false => rfl
            | true => exact absurd (hks k eb) (by rw [hkn]; exact Bool.false_ne_true)
          subst eb'
          rw [hdz, walkV] at hw
          rw [startV_none hw] at q
          exact iteT (iteT q)
        | node k1 ps =>
          rw [nodesOf] at hmore
          cases hmore
          cases b with
          | false =>
            rw [hdz, walkV, eb, Bool.false_and, if_neg Bool.false_ne_true] at hw
            rw [startV_none hw] at q
            exact iteT (iteT q)
          | true =>
            refine iteF ?_
            refine ⟨_, rfl, _, rfl, x, _, rfl, hkx, ⟨_, rfl, ?_⟩⟩
            cases ei : idxV x (ps.length : Int) with
            | false =>
              rw [hdz, walkV, eb, ei, Bool.and_false, if_neg Bool.false_ne_true] at hw
              rw [startV_none hw] at q
              exact iteT q
            | true =>
              refine iteF ?_
              obtain ⟨i, rfl, hi⟩ := idxV_nat ei
              have hq := List.getElem?_eq_getElem hi
              rw [hdz, walkV_node eb ei hq] at hw
              rw [plOk, Bool.and_eq_true] at hok1
              have hokq := plsOk_get hok1.2 hq
              rw [nodesOf] at hd
              have hps : ps.length < 1000 := by
                have h1 := congrArg List.length hd
                rw [List.length_drop, List.length_append, List.length_cons] at h1
                have := hN.length
                have := nodes_ge ps
                omega
              refine ⟨_, rfl, _, _, rfl, rfl, _, rfl, _, rfl, by omega, by omega, ?_⟩
              refine for_range (lo := 0) (n := i) (fun m σ H3 => ∃ (y7 : Option V), H3 = H2 ∧ σ = [some (.ref p), some (.ref t), some (.ref kp), some (.int ((st + 1 + (nodesAll (ps.take m)).length : Nat) : Int)), some (.int (i : Int)), some (.str k), some (.int (ps.length : Int)), y7]) ?_ ?_ ?_
              · refine ⟨x7, rfl, ?_⟩
                rw [List.take_zero, nodesAll]
                rfl
              · rintro m σ H3 hm ⟨y7, rfl, rfl⟩
                have hm' : m < ps.length := by omega
                have hqm := List.getElem?_eq_getElem hm'
                refine ⟨_, rfl, _, rfl, p, xs, nodesOf pl, st + 1 + (nodesAll (ps.take m)).length, ps[m], nodesAll (ps.drop (m + 1)) ++ rest, rfl, hS, hN, hlen, ?_, plsOk_get hok1.2 hqm, ?_⟩
                · have h2 := congrArg (List.drop (1 + (nodesAll (ps.take m)).length)) hd
                  rw [List.drop_drop, nodesAll_split hqm, List.cons_append, Nat.add_comm 1, List.drop_succ_cons, List.append_assoc, List.drop_left, List.append_assoc] at h2
                  rw [← h2]
                  exact congrArg (fun n => (nodesOf pl).drop n) (by omega)
                · refine ⟨some (.int (0 + ((m : Nat) : Int))), rfl, ?_⟩
                  rw [nodesAll_take hqm, List.length_append, Nat.add_assoc (st + 1)]
                  rfl
              · rintro σ H3 ⟨y7, rfl, rfl⟩
                refine ⟨st + 1 + (nodesAll (ps.take i)).length, ps[i], nodesAll (ps.drop (i + 1)) ++ rest, _, _, _, _, rfl, rfl, ?_, hokq, ?_⟩
                · have h2 := congrArg (List.drop (1 + (nodesAll (ps.take i)).length)) hd
                  rw [List.drop_drop, nodesAll_split hq, List.cons_append, Nat.add_comm 1, List.drop_succ_cons, List.append_assoc, List.drop_left, List.append_assoc] at h2
                  rw [← h2]
                  exact congrArg (fun n => (nodesOf pl).drop n) (by omega)
                · rw [hw, Option.map_map]
                  refine congrArg (fun f => Option.map f _) (funext fun y => ?_)
                  show ((st + (1 + (nodesAll (ps.take i)).length + y.1), y.2) : Nat × Pl) = (st + 1 + (nodesAll (ps.take i)).length + y.1, y.2)
                  rw [show st + (1 + (nodesAll (ps.take i)).length + y.1) = st + 1 + (nodesAll (ps.take i)).length + y.1 by omega]
      · rintro σ H2 ⟨st, t1, rest, x4, x5, x6, x7, rfl, rfl, hd, hok1, hw⟩
        rw [List.drop_length, walkV_nil] at hw
        have e0 : startV ks pl (some zs) = .int (st : Int) := startV_some hw
        rw [e0] at q
        exact ⟨_, rfl, q⟩
end
end Eh
set_option Elab.async false
set_option linter.all false
set_option maxRecDepth 100000
set_option maxHeartbeats 4000000
namespace Eh
open PySem PySem.Spec PyProof.Rows L2
theorem catA {X : Cx} {K : PySem.W.Frag} (h : X.K = K) : OpR X (binaryOp .Add) (rCatA K) := by subst h; exact op_catA
/-- t + u of any tuples, wherever the sum stands -/
theorem cat_anyW {K : PySem.W.Frag} {H : Hp} {a b : Addr} {xs ys : List V} {Q : VK} (ha : SqT K H a xs) (hb : SqT K H b ys) (hl : xs.length + ys.length < 1000000)
    (q : ∀ t H', Same H H' → SqT K H' t (xs ++ ys) → Q (.ref t) H') : rCatA K (.ref a) (.ref b) H Q := by
  refine ⟨a, b, xs, ys, rfl, rfl, ha, hb, Nat.le_of_lt (small hl), fun e => ?_, fun _ e => ?_, fun _ _ p np => ?_⟩
  · subst e
    exact q b H (Same.refl H) hb
  · subst e
    exact q a H (Same.refl H) (by rw [List.append_nil]; exact ha)
  · exact q p _ (same_new np) (SqT.of upd_same)
theorem cutN_to (xs : List V) (b : Nat) : cutV xs none (some (b : Int)) = xs.take b := by
  unfold cutV
  rw [HT.sIx_nat]
  show (xs.drop 0).take (min b xs.length - 0) = _
  rw [List.drop_zero, Nat.sub_zero]
  by_cases h : b ≤ xs.length
  · rw [Nat.min_eq_left h]
  · rw [Nat.min_eq_right (by omega), List.take_of_length_le (Nat.le_refl _), List.take_of_length_le (by omega)]
theorem cutN_from (xs : List V) (a : Nat) (h : a ≤ xs.length) : cutV xs (some (a : Int)) none = xs.drop a := by
  unfold cutV
  rw [HT.sIx_nat, Nat.min_eq_left h]
  show (xs.drop a).take (xs.length - a) = _
  exact List.take_of_length_le (by rw [List.length_drop]; exact Nat.le_refl _)
/-- t[a:b] of any tuple -/
theorem sl_mid {K : PySem.W.Frag} {H : Hp} {p : Addr} {xs : List V} {Q : VK} {a b : Nat} (h : SqT K H p xs) (ha : a ≤ xs.length) (hb : a ≤ b)
    (q : ∀ t H', Same H H' → SqT K H' t ((xs.drop a).take (b - a)) → Q (.ref t) H') : rSlA K (.ref p) (some (a : Int)) (some (b : Int)) H Q := by
  refine ⟨p, xs, rfl, h, fun hw => ?_, fun _ z nz => ?_⟩
  · rw [HT.sIx_nat, HT.sIx_nat] at hw
    refine q p H (Same.refl H) ?_
    by_cases h0 : a = 0
    · subst h0
      rw [List.drop_zero, List.take_of_length_le (by omega)]
      exact h
    · have hx : xs = [] := List.length_eq_zero_iff.mp (by omega)
      subst hx
      rw [List.drop_nil, List.take_nil]
      exact h
  · refine q z _ (same_new nz) (SqT.of ?_)
    rw [upd_same, cutD xs a b ha hb]
theorem sl_to {K : PySem.W.Frag} {H : Hp} {p : Addr} {xs : List V} {Q : VK} {b : Nat} (h : SqT K H p xs)
    (q : ∀ t H', Same H H' → SqT K H' t (xs.take b) → Q (.ref t) H') : rSlA K (.ref p) none (some (b : Int)) H Q := by
  refine ⟨p, xs, rfl, h, fun hw => ?_, fun _ z nz => ?_⟩
  · have hw := hw.2
    rw [HT.sIx_nat] at hw
    refine q p H (Same.refl H) ?_
    rw [List.take_of_length_le (by omega)]
    exact h
  · refine q z _ (same_new nz) (SqT.of ?_)
    rw [upd_same, cutN_to]
theorem sl_from {K : PySem.W.Frag} {H : Hp} {p : Addr} {xs : List V} {Q : VK} {a : Nat} (h : SqT K H p xs) (ha : a ≤ xs.length)
    (q : ∀ t H', Same H H' → SqT K H' t (xs.drop a) → Q (.ref t) H') : rSlA K (.ref p) (some (a : Int)) none H Q := by
  refine ⟨p, xs, rfl, h, fun hw => ?_, fun _ z nz => ?_⟩
  · have hw := hw.1
    rw [HT.sIx_nat] at hw
    refine q p H (Same.refl H) ?_
    by_cases h0 : a = 0
    · subst h0
      rw [List.drop_zero]
      exact h
    · have hx : xs = [] := List.length_eq_zero_iff.mp (by omega)
      subst hx
      rw [List.drop_nil]
      exact h
  · refine q z _ (same_new nz) (SqT.of ?_)
    rw [upd_same, cutN_from xs a ha]
theorem drop_len {α : Type} {ns qs rest : List α} {st : Nat} (h : ns.drop st = qs ++ rest) (hq : 0 < qs.length) : st + qs.length + rest.length = ns.length ∧ ns.drop (st + qs.length) = rest := by
  have h1 := congrArg List.length h
  rw [List.length_drop, List.length_append] at h1
  refine ⟨by omega, ?_⟩
  have h2 := congrArg (List.drop qs.length) h
  rw [List.drop_drop, List.drop_left] at h2
  exact h2
section
variable {P : Program} {w : World} {K : PySem.W.Frag} {mg : Str → Option Value} {base : Heap}
def spPartFrom (K : PySem.W.Frag) : Sp := fun vs H Q _ => ∃ p xs ns st q rest, vs = [.ref p, .int (st : Nat)] ∧ SqT K H p xs ∧ NdsAt K H xs ns ∧ xs.length < 1000 ∧ ns.drop st = nodesOf q ++ rest ∧ plOk q = true ∧
  ∀ r ys H', Same H H' → SqT K H' r ys → NdsAt K H' ys (nodesOf q) → Q (.ref r) H'
theorem ok_part_from {fE f : Addr} {fdE fd : FuncData} (F : Fun K "part_from" "part_from" s_part_from f fd) (C_end_of : Cal P w K mg base 1 "end_of" fE fdE ["nodes", "start"] (spEnd K)) :
    FnOk P w K mg base CX0 2 f fd ["nodes", "start"] (spPartFrom K) := by
  refine F.ok sc_part_from (fun vs H Q E h => ?_) (fun cdv A outer s H vs Q E hr h => ?_)
  · obtain ⟨p, xs, ns, st, q, rest, rfl, _⟩ := h
    rfl
  · obtain ⟨p, xs, ns, st, t, rest, rfl, hS, hN, hlen, hd, hok, q⟩ := h
    refine ⟨_, (pss_one (ps_ret (pe_slice (slA (K := K) rfl) (pv 0) (po_some (pv 1)) (po_some (pe_call C_end_of.G hr (by rfl) C_end_of.m C_end_of.k C_end_of.b .nil pass0 (pa_cons (pv 0) (pa_cons (pv 1) pa_nil))))))), ?_⟩
    have hl := drop_len hd (nodesOf_pos t)
    have hx := hN.length
    refine ⟨_, rfl, _, rfl, _, rfl, _, rfl, _, rfl, p, xs, ns, st, t, rest, rfl, hS, hN, hlen, hd, hok, _, rfl, ?_⟩
    refine sl_mid (a := st) (b := st + (nodesOf t).length) hS (by omega) (by omega) fun r H' s hr2 => q r _ H' s hr2 ?_
    have h2 := ((hN.tk (stk s)).drop st).take (st + (nodesOf t).length - st)
    rw [Nat.add_sub_cancel_left] at h2 ⊢
    rw [hd, List.take_left] at h2
    exact h2
def spExFrom (K : PySem.W.Frag) : Sp := fun vs H Q _ => ∃ p r xs ys ns ms st q rest, vs = [.ref p, .int (st : Nat), .ref r] ∧ SqT K H p xs ∧ NdsAt K H xs ns ∧ xs.length < 1000 ∧ SqT K H r ys ∧ NdsAt K H ys ms ∧ ys.length < 1000 ∧ ns.drop st = nodesOf q ++ rest ∧ plOk q = true ∧
  ∀ t us H', Same H H' → SqT K H' t us → NdsAt K H' us (ns.take st ++ (ms ++ rest)) → Q (.ref t) H'
theorem ok_exchanged_from {fE f : Addr} {fdE fd : FuncData} (F : Fun K "exchanged_from" "exchanged_from" s_exchanged_from f fd) (C_end_of : Cal P w K mg base 1 "end_of" fE fdE ["nodes", "start"] (spEnd K)) :
    FnOk P w K mg base CX0 2 f fd ["nodes", "start", "other"] (spExFrom K) := by
  refine F.ok sc_exchanged_from (fun vs H Q E h => ?_) (fun cdv A outer s H vs Q E hr h => ?_)
  · obtain ⟨p, r, xs, ys, ns, ms, st, q, rest, rfl, _⟩ := h
    rfl
  · obtain ⟨p, r, xs, ys, ns, ms, st, t, rest, rfl, hS, hN, hlen, hS2, hM, hlen2, hd, hok, q⟩ := h
    refine ⟨_, (pss_one (ps_ret (pe_op (catA (K := K) rfl) (pe_op (catA (K := K) rfl) (pe_slice (slA (K := K) rfl) (pv 0) po_none (po_some (pv 1))) (pv 2)) (pe_slice (slA (K := K) rfl) (pv 0) (po_some (pe_call C_end_of.G hr (by rfl) C_end_of.m C_end_of.k C_end_of.b .nil pass0 (pa_cons (pv 0) (pa_cons (pv 1) pa_nil)))) po_none)))), ?_⟩
    have hl := drop_len hd (nodesOf_pos t)
    have hx := hN.length
    have hy := hM.length
    refine ⟨_, rfl, _, rfl, _, rfl, ?_⟩
    refine sl_to hS fun a H1 s1 h1 => ?_
    have n1 := (hN.tk (stk s1)).take st
    refine ⟨_, rfl, ?_⟩
    refine cat_anyW h1 ((stk s1).seq hS2) (by rw [List.length_take]; omega) fun b H2 s2 h2 => ?_
    have s12 := s1.trans s2
    have n2 := (n1.tk (stk s2)).app (hM.tk (stk s12))
    refine ⟨_, rfl, _, rfl, _, rfl, p, xs, ns, st, t, rest, rfl, (stk s12).seq hS, hN.tk (stk s12), hlen, hd, hok, _, rfl, ?_⟩
    dsimp only [tNoPart]
    refine sl_from (a := st + (nodesOf t).length) ((stk s12).seq hS) (by omega) fun c H3 s3 h3 => ?_
    have z1 : (xs.take st).length ≤ xs.length := by rw [List.length_take]; exact Nat.min_le_right _ _
    have z2 : (xs.drop (st + (nodesOf t).length)).length ≤ xs.length := by rw [List.length_drop]; exact Nat.sub_le _ _
    refine cat_anyW ((stk s3).seq h2) h3 (by rw [List.length_append]; omega) fun d H4 s4 h4 => ?_
    refine q d _ H4 (s12.trans (s3.trans s4)) h4 ?_
    have n3 := (hN.tk (stk (s12.trans (s3.trans s4)))).drop (st + (nodesOf t).length)
    rw [hl.2] at n3
    have n5 := (n2.tk (stk (s3.trans s4))).app n3
    rw [List.append_assoc (ns.take st)] at n5
    exact n5
end
mutual
/-- the paths of a plain promise through nodes of some kinds, in order, and where they lead -/
def pathsK (ks : List Str) : Pl → List (List Nat × Nat)
  | .leaf _ _ => [([], 0)]
  | .node k ps => ([], 0) :: (if ks.contains k = true then pathsAll ks 0 1 ps else [])
def pathsAll (ks : List Str) (i off : Nat) : List Pl → List (List Nat × Nat)
  | [] => []
  | p :: ps => (pathsK ks p).map (fun y => (i :: y.1, off + y.2)) ++ pathsAll ks (i + 1) (off + (nodesOf p).length) ps
end
/-- what is still to come -/
def outP (ks : List Str) : Nat → List (List Nat × Pl) → List (List Nat × Nat)
  | _, [] => []
  | off, (pa, p) :: r => (pathsK ks p).map (fun y => (pa ++ y.1, off + y.2)) ++ outP ks (off + (nodesOf p).length) r
/-- the parts of a node as what is to come -/
def kids (pa : List Nat) (i : Nat) : List Pl → List (List Nat × Pl)
  | [] => []
  | p :: ps => (pa ++ [i], p) :: kids pa (i + 1) ps
theorem kids_snd (pa : List Nat) : ∀ (i : Nat) (ps : List Pl), (kids pa i ps).map (·.2) = ps
  | _, [] => rfl
  | i, p :: ps => by rw [kids, List.map_cons, kids_snd pa (i + 1) ps]
theorem kids_len (pa : List Nat) : ∀ (i : Nat) (ps : List Pl), (kids pa i ps).length = ps.length
  | _, [] => rfl
  | i, p :: ps => by rw [kids, List.length_cons, List.length_cons, kids_len pa (i + 1) ps]
theorem kids_fst (pa : List Nat) : ∀ (i : Nat) (ps : List Pl), (kids pa i ps).map (·.1) = (List.range' i ps.length).map fun j => pa ++ [j]
  | _, [] => rfl
  | i, p :: ps => by rw [kids, List.map_cons, List.length_cons, List.range'_succ, List.map_cons, kids_fst pa (i + 1) ps]
theorem outP_kids (ks : List Str) (pa : List Nat) : ∀ (ps : List Pl) (i off : Nat) (r : List (List Nat × Pl)) (o0 : Nat),
    outP ks (o0 + off) (kids pa i ps ++ r) = (pathsAll ks i off ps).map (fun y => (pa ++ y.1, o0 + y.2)) ++ outP ks (o0 + off + (nodesAll ps).length) r
  | [], i, off, r, o0 => by
    rw [kids, pathsAll, nodesAll]
    rfl
  | p :: ps, i, off, r, o0 => by
    have ih := outP_kids ks pa ps (i + 1) (off + (nodesOf p).length) r o0
    rw [kids, List.cons_append, outP, Nat.add_assoc o0, ih, pathsAll, nodesAll, List.map_append, List.map_map, List.length_append, List.append_assoc, show o0 + (off + (nodesOf p).length) + (nodesAll ps).length = o0 + off + ((nodesOf p).length + (nodesAll ps).length) by omega]
    have e : (pathsK ks p).map (fun y => (pa ++ [i] ++ y.1, o0 + off + y.2)) = (pathsK ks p).map ((fun y : List Nat × Nat => (pa ++ y.1, o0 + y.2)) ∘ fun y : List Nat × Nat => (i :: y.1, off + y.2)) := List.map_congr_left fun y _ => Prod.ext (by simp) (by simp only [Function.comp]; omega)
    rw [e]
theorem outP_node {ks : List Str} {pa : List Nat} {k : Str} {ps : List Pl} {r : List (List Nat × Pl)} {st : Nat} (h : ks.contains k = true) :
    outP ks st ((pa, .node k ps) :: r) = (pa, st) :: outP ks (st + 1) (kids pa 0 ps ++ r) := by
  rw [outP, pathsK, if_pos h, outP_kids ks pa ps 0 1 r st, nodesOf, List.length_cons, List.map_cons, List.append_nil, Nat.add_zero, List.cons_append, show st + ((nodesAll ps).length + 1) = st + 1 + (nodesAll ps).length by omega]
theorem outP_other {ks : List Str} {pa : List Nat} {p : Pl} {r : List (List Nat × Pl)} {st : Nat} (h : pathsK ks p = [([], 0)]) :
    outP ks st ((pa, p) :: r) = (pa, st) :: outP ks (st + (nodesOf p).length) r := by
  rw [outP, h]
  show (pa ++ [], st + 0) :: _ = _
  rw [List.append_nil]
  rfl
theorem outP_all (ks : List Str) (p : Pl) : outP ks 0 [([], p)] = pathsK ks p := by
  rw [outP, outP, List.append_nil]
  have : (fun y : List Nat × Nat => (([] : List Nat) ++ y.1, 0 + y.2)) = id := by
    funext y
    rw [Nat.zero_add]
    rfl
  rw [this, List.map_id]
/-- how paths stand -/
inductive PthsAt (K : PySem.W.Frag) (H : Hp) : List V → List (List Nat) → Prop
  | nil : PthsAt K H [] []
  | cons {a : Addr} {ns : List Nat} {us : List V} {ps : List (List Nat)} : SqT K H a (ns.map natV) → PthsAt K H us ps → PthsAt K H (.ref a :: us) (ns :: ps)
theorem PthsAt.tk {K : PySem.W.Frag} {H H' : Hp} (t : Tk H H') : ∀ {us : List V} {ps : List (List Nat)}, PthsAt K H us ps → PthsAt K H' us ps
  | _, _, .nil => .nil
  | _, _, .cons h r => .cons (t.seq h) (r.tk t)
theorem PthsAt.length {K : PySem.W.Frag} {H : Hp} : ∀ {us : List V} {ps : List (List Nat)}, PthsAt K H us ps → us.length = ps.length
  | _, _, .nil => rfl
  | _, _, .cons _ r => by rw [List.length_cons, List.length_cons, r.length]
theorem PthsAt.app {K : PySem.W.Frag} {H : Hp} : ∀ {us vs : List V} {ps qs : List (List Nat)}, PthsAt K H us ps → PthsAt K H vs qs → PthsAt K H (us ++ vs) (ps ++ qs)
  | _, _, _, _, .nil, h => h
  | _, _, _, _, .cons a r, h => .cons a (r.app h)
theorem PthsAt.snoc {K : PySem.W.Frag} {H : Hp} {a : Addr} {ns : List Nat} {us : List V} {ps : List (List Nat)} (h : PthsAt K H us ps) (x : SqT K H a (ns.map natV)) : PthsAt K H (us ++ [.ref a]) (ps ++ [ns]) := h.app (.cons x .nil)
theorem PthsAt.last' {K : PySem.W.Frag} {H : Hp} : ∀ {us : List V} {qs : List (List Nat)}, PthsAt K H us qs → ∀ {ps : List (List Nat)} {ns : List Nat}, qs = ps ++ [ns] → ∃ us' a, us = us' ++ [.ref a] ∧ PthsAt K H us' ps ∧ SqT K H a (ns.map natV)
  | _, _, .nil, ps, ns, e => by
    have := congrArg List.length e
    simp at this
  | _, _, .cons (a := a) (us := us) h r, [], ns, e => by
    injection e with e1 e2
    subst e1 e2
    cases r
    exact ⟨[], a, rfl, .nil, h⟩
  | _, _, .cons (a := a) (us := us) h r, p :: ps, ns, e => by
    injection e with e1 e2
    subst e1
    obtain ⟨us', b, e3, h1, h2⟩ := r.last' e2
    exact ⟨.ref a :: us', b, by rw [e3]; rfl, .cons h h1, h2⟩
theorem PthsAt.last {K : PySem.W.Frag} {H : Hp} {ps : List (List Nat)} {us : List V} {ns : List Nat} (h : PthsAt K H us (ps ++ [ns])) : ∃ us' a, us = us' ++ [.ref a] ∧ PthsAt K H us' ps ∧ SqT K H a (ns.map natV) := h.last' rfl
theorem PthsAt.get {K : PySem.W.Frag} {H : Hp} : ∀ {us : List V} {ps : List (List Nat)}, PthsAt K H us ps → ∀ {i : Nat} {v : V}, us[i]? = some v → ∃ a ns, v = .ref a ∧ ps[i]? = some ns ∧ SqT K H a (ns.map natV)
  | _, _, .nil, i, v, h => by simp at h
  | _, _, .cons a _, 0, v, h => by
    cases (show some _ = some v from h)
    exact ⟨_, _, rfl, rfl, a⟩
  | _, _, .cons _ r, i + 1, v, h => r.get (i := i) h
/-- how pairs of a path and an index stand -/
inductive FndAt (K : PySem.W.Frag) (H : Hp) : List V → List (List Nat × Nat) → Prop
  | nil : FndAt K H [] []
  | cons {a b : Addr} {ns : List Nat} {o : Nat} {us : List V} {r : List (List Nat × Nat)} : SqT K H a [.ref b, natV o] → SqT K H b (ns.map natV) → FndAt K H us r → FndAt K H (.ref a :: us) ((ns, o) :: r)
theorem FndAt.tk {K : PySem.W.Frag} {H H' : Hp} (t : Tk H H') : ∀ {us : List V} {ps : List (List Nat × Nat)}, FndAt K H us ps → FndAt K H' us ps
  | _, _, .nil => .nil
  | _, _, .cons h h2 r => .cons (t.seq h) (t.seq h2) (r.tk t)
theorem FndAt.length {K : PySem.W.Frag} {H : Hp} : ∀ {us : List V} {ps : List (List Nat × Nat)}, FndAt K H us ps → us.length = ps.length
  | _, _, .nil => rfl
  | _, _, .cons _ _ r => by rw [List.length_cons, List.length_cons, r.length]
theorem FndAt.snoc {K : PySem.W.Frag} {H : Hp} {a b : Addr} {ns : List Nat} {o : Nat} (h1 : SqT K H a [.ref b, natV o]) (h2 : SqT K H b (ns.map natV)) : ∀ {us : List V} {ps : List (List Nat × Nat)}, FndAt K H us ps → FndAt K H (us ++ [.ref a]) (ps ++ [(ns, o)])
  | _, _, .nil => .cons h1 h2 .nil
  | _, _, .cons a b r => .cons a b (r.snoc h1 h2)
theorem FndAt.get {K : PySem.W.Frag} {H : Hp} : ∀ {us : List V} {ps : List (List Nat × Nat)}, FndAt K H us ps → ∀ {i : Nat} {v : V}, us[i]? = some v → ∃ a b ns o, v = .ref a ∧ ps[i]? = some (ns, o) ∧ SqT K H a [.ref b, natV o] ∧ SqT K H b (ns.map natV)
  | _, _, .nil, i, v, h => by simp at h
  | _, _, .cons a b _, 0, v, h => by
    cases (show some _ = some v from h)
    exact ⟨_, _, _, _, rfl, rfl, a, b⟩
  | _, _, .cons _ _ r, i + 1, v, h => r.get (i := i) h
end Eh
set_option Elab.async false
set_option linter.all false
set_option maxRecDepth 100000
set_option maxHeartbeats 4000000
namespace HSP
open PySem PySem.Spec PyProof.Rows PySem.SeqAt
/-- the order of paths -/
def lexN : List Nat → List Nat → Bool
  | [], [] => false
  | [], _ :: _ => true
  | _ :: _, [] => false
  | a :: as, b :: bs => if a = b then lexN as bs else decide (a < b)
theorem lexN_irr : ∀ a : List Nat, lexN a a = false
  | [] => rfl
  | x :: a => by rw [lexN, if_pos rfl, lexN_irr a]
theorem lexN_asym : ∀ a b : List Nat, lexN a b = true → lexN b a = false
  | [], [], h => rfl
  | [], _ :: _, h => rfl
  | _ :: _, [], h => by cases h
  | x :: a, y :: b, h => by
    rw [lexN] at h ⊢
    by_cases e : x = y
    · subst e
      rw [if_pos rfl] at h ⊢
      exact lexN_asym a b h
    · rw [if_neg e] at h
      rw [if_neg (Ne.symm e)]
      exact decide_eq_false (by have := of_decide_eq_true h; omega)
theorem lexN_tr : ∀ a b c : List Nat, lexN b a = false → lexN c b = false → lexN c a = false
  | [], b, c, h1, h2 => by
    cases c with
    | nil => rfl
    | cons z c => rfl
  | x :: a, [], c, h1, h2 => by cases h1
  | x :: a, y :: b, [], h1, h2 => by cases h2
  | x :: a, y :: b, z :: c, h1, h2 => by
    rw [lexN] at h1 h2 ⊢
    by_cases e1 : y = x
    · subst e1
      rw [if_pos rfl] at h1
      by_cases e2 : z = y
      · subst e2
        rw [if_pos rfl] at h2 ⊢
        exact lexN_tr a b c h1 h2
      · rw [if_neg e2] at h2 ⊢
        exact h2
    · rw [if_neg e1] at h1
      have h1 := of_decide_eq_false h1
      by_cases e2 : z = y
      · subst e2
        rw [if_neg e1]
        exact decide_eq_false h1
      · rw [if_neg e2] at h2
        have h2 := of_decide_eq_false h2
        rw [if_neg (by omega)]
        exact decide_eq_false (by omega)
structure IsPath (h : Heap) (v : Value) (ns : List Nat) : Prop where
  at_ : ∃ a o xs n, v = .ref a ∧ h.get? a = some o ∧ o.cls = .type "tuple" ∧ o.data = .seq xs n ∧ IntsAre xs.toList (ns.map fun (i : Nat) => (i : Int))
theorem IsPath.keeps {h h' : Heap} {v : Value} {ns : List Nat} (p : IsPath h v ns) (k : ∀ b o, h.get? b = some o → o.cls = .type "tuple" → h'.get? b = some o) : IsPath h' v ns := by
  obtain ⟨a, o, xs, n, e, ho, hc, hd, hi⟩ := p.at_
  exact ⟨a, o, xs, n, e, k _ _ ho hc, hc, hd, hi⟩
end HSP
namespace Eh
open PySem PySem.Spec PyProof.Rows L2
section
variable {X : Cx}
inductive PthVals (h : Heap) : List Value → List (List Nat) → Prop
  | nil : PthVals h [] []
  | cons {v : Value} {ns : List Nat} {vs : List Value} {ps : List (List Nat)} : HSP.IsPath h v ns → PthVals h vs ps → PthVals h (v :: vs) (ns :: ps)
theorem PthVals.mem {h : Heap} : ∀ {vs : List Value} {ps : List (List Nat)}, PthVals h vs ps → ∀ v ∈ vs, ∃ ns ∈ ps, HSP.IsPath h v ns
  | _, _, .nil, v, hv => by cases hv
  | _, _, .cons p r, v, hv => by
    rcases List.mem_cons.mp hv with e | hv
    · subst e
      exact ⟨_, List.mem_cons_self, p⟩
    · obtain ⟨ns, m, q⟩ := r.mem v hv
      exact ⟨ns, List.mem_cons_of_mem _ m, q⟩
end
end Eh
set_option Elab.async false
set_option linter.all false
set_option maxRecDepth 100000
set_option maxHeartbeats 4000000
set_option Elab.async false
set_option linter.all false
set_option maxRecDepth 100000
set_option maxHeartbeats 8000000
namespace Eh
open PySem PySem.Spec PyProof.Rows L2
mutual
theorem pathsK_len {ks : List Str} : ∀ p : Pl, (pathsK ks p).length ≤ (nodesOf p).length
  | .leaf k t => by
    rw [pathsK, nodesOf]
    exact Nat.le_refl _
  | .node k ps => by
    rw [pathsK, nodesOf, List.length_cons, List.length_cons]
    split
    · have := pathsAll_len (ks := ks) ps 0 1
      omega
    · exact Nat.succ_le_succ (Nat.zero_le _)
theorem pathsAll_len {ks : List Str} : ∀ (ps : List Pl) (i off : Nat), (pathsAll ks i off ps).length ≤ (nodesAll ps).length
  | [], i, off => by
    rw [pathsAll]
    exact Nat.zero_le _
  | p :: ps, i, off => by
    rw [pathsAll, nodesAll, List.length_append, List.length_append, List.length_map]
    have := pathsK_len (ks := ks) p
    have := pathsAll_len (ks := ks) ps (i + 1) (off + (nodesOf p).length)
    omega
end
theorem pathsK_closed {ks : List Str} {k : Str} {ps : List Pl} (h : ks.contains k = false) : pathsK ks (.node k ps) = [([], 0)] := by
  rw [pathsK, if_neg (by rw [h]; exact Bool.false_ne_true)]
theorem pathsK_leaf {ks : List Str} {k : Str} {t : V} : pathsK ks (.leaf k t) = [([], 0)] := by rw [pathsK]
theorem kids_mem {pa : List Nat} {y : List Nat × Pl} : ∀ {i : Nat} {ps : List Pl}, y ∈ kids pa i ps → y.1.length = pa.length + 1 ∧ (nodesOf y.2).length ≤ (nodesAll ps).length
  | _, [], h => by
    rw [kids] at h
    cases h
  | i, p :: ps, h => by
    rw [kids] at h
    rw [nodesAll, List.length_append]
    rcases List.mem_cons.mp h with e | h
    · subst e
      refine ⟨?_, ?_⟩
      · show (pa ++ [i]).length = _
        rw [List.length_append]
        rfl
      · exact Nat.le_add_right _ _
    · have := kids_mem h
      omega
section
variable {P : Program} {w : World} {K : PySem.W.Frag} {mg : Str → Option Value} {base : Heap}
def spPathsAlong (K : PySem.W.Frag) : Sp := fun vs H Q _ => ∃ p xs pl kp ks, vs = [.ref p, .ref kp] ∧ SqT K H p xs ∧ NdsAt K H xs (nodesOf pl) ∧ plOk pl = true ∧ xs.length < 1000 ∧ SqT K H kp (ks.map V.str) ∧ (∀ k : Str, ks.contains k = true → nodeKinds.contains k = true) ∧
  ∀ l us H', Same H H' → H l = none → H' l = some (.lst us) → FndAt K H' us (pathsK ks pl) → Q (.ref l) H'
theorem ok_paths_along {fE f : Addr} {fdE fd : FuncData} (F : Fun K "_paths_along" "_paths_along" s__paths_along f fd) (T : Txt mg) (C_end_of : Cal P w K mg base 1 "end_of" fE fdE ["nodes", "start"] (spEnd K)) :
    FnOk P w K mg base CX0 2 f fd ["nodes", "kinds"] (spPathsAlong K) := by
  refine F.ok sc__paths_along (fun vs H Q E h => ?_) (fun cdv A outer s H vs Q E hr h => ?_)
  · obtain ⟨p, xs, pl, kp, ks, rfl, _⟩ := h
    rfl
  · obtain ⟨p, xs, pl, kp, ks, rfl, hS, hN, hok, hlen, hK, hks, q⟩ := h
    refine ⟨_, (pss_cons (ps_set (i := 2) sc__paths_along.nd rfl (.inl rfl) (pe_lst pa_nil))
  (pss_cons (ps_set (i := 3) sc__paths_along.nd rfl (.inl rfl) (pe_lst (pa_cons (pe_tup pa_nil) pa_nil)))
  (pss_cons (ps_set (i := 4) sc__paths_along.nd rfl (.inl rfl) pe_int)
  (pss_cons (ps_while PassesOwn.never (pt_truth (pv 3) (by intro _; rfl))
  (pss_cons (ps_set (i := 5) sc__paths_along.nd rfl (.inl rfl) (bm0K (K := K) rfl (pe_bm0 PySem.F.plainAttrs_list PySem.F.slot_list_pop PySem.F.type_list_pop mt_pop (pv 3))))
  (pss_cons (ps_asg (pe_ix (ixT (K := K) rfl) (pv 0) (pv 4) (fun _ _ => rfl)) (pg_tup (by rfl) (pgs_cons (pg_name (i := 6) sc__paths_along.nd rfl (.inl rfl)) (pgs_cons (pg_name (i := 7) sc__paths_along.nd rfl (.inl rfl)) pgs_nil))))
  (pss_cons (ps_expr (bmK (K := K) rfl (pe_bm PySem.F.plainAttrs_list PySem.F.slot_list_append PySem.F.type_list_append mt_append (pv 2) (pa_cons (pe_tup (pa_cons (pv 5) (pa_cons (pv 4) pa_nil))) pa_nil))))
  (pss_one (ps_if (pt_cmpR (inQ (K := K) rfl) (pv 6) (pv 1) (by rfl))
  (pss_cons (ps_set (i := 4) sc__paths_along.nd rfl (.inl rfl) (pe_op op_add (pv 4) pe_int))
  (pss_one (ps_for PassesOwn.never (by rfl) (pi_revR (by rfl) T.reversed_ (prg_1 (by rfl) T.range_ (pv 7))) (pg_name (i := 8) sc__paths_along.nd rfl (.inl rfl))
  (pss_one (ps_expr (bmK (K := K) rfl (pe_bm PySem.F.plainAttrs_list PySem.F.slot_list_append PySem.F.type_list_append mt_append (pv 3) (pa_cons (pe_op (catA (K := K) rfl) (pv 5) (pe_tup (pa_cons (pv 8) pa_nil))) pa_nil))))))))
  (pss_one (ps_set (i := 4) sc__paths_along.nd rfl (.inl rfl) (pe_call C_end_of.G hr (by rfl) C_end_of.m C_end_of.k C_end_of.b .nil pass0 (pa_cons (pv 0) (pa_cons (pv 4) pa_nil)))))))))))
  (pss_one (ps_ret (pv 2))))))), ?_⟩
    have hx := hN.length
    have hpl := pathsK_len (ks := ks) pl
    refine ⟨Nat.zero_le _, fun lf nf => ?_⟩
    have nfH : H lf = none := nf
    have s1 : Same H (upd H lf (.lst [])) := same_new nf
    refine ⟨Nat.zero_le _, fun t0 nt0 => ⟨lenOk 1, fun lp np => ?_⟩⟩
    have s2 := s1.trans (same_new (o := .tup []) nt0)
    have npH : H lp = none := s2.free np
    have nlp : lf ≠ lp := fun e => by
      subst e
      rw [upd_ne (fun e => by subst e; rw [upd_same] at nt0; cases nt0), upd_same] at np
      cases np
    have nft : lf ≠ t0 := fun e => by
      subst e
      rw [upd_same] at nt0
      cases nt0
    have ntp : t0 ≠ lp := fun e => by
      subst e
      rw [upd_same] at np
      cases np
    have keep : ∀ {a : Addr} {H' : Hp} {o : HO}, H a = none → Same H H' → Same H (upd H' a o) := fun {a H' o} na s b u eb => by
      rw [upd_ne (ne_of_none eb na)]
      exact s b u eb
    refine ⟨fun m σ H2 => ∃ (dn : List (List Nat × Nat)) (pend : List (List Nat × Pl)) (fs us : List V) (st : Nat) (x5 x6 x7 x8 : Option V), m = (nodesAll (pend.map (·.2))).length ∧ σ = [some (.ref p), some (.ref kp), some (.ref lf), some (.ref lp), some (.int (st : Int)), x5, x6, x7, x8] ∧ Same H H2 ∧ H2 lf = some (.lst fs) ∧ FndAt K H2 fs dn ∧ H2 lp = some (.lst us) ∧ PthsAt K H2 us (pend.map (·.1)).reverse ∧ (nodesOf pl).drop st = nodesAll (pend.map (·.2)) ∧ plsOk (pend.map (·.2)) = true ∧ dn ++ outP ks st pend = pathsK ks pl ∧ (∀ y ∈ pend, y.1.length + (nodesOf y.2).length ≤ xs.length),
      ⟨_, [], [([], pl)], [], [.ref t0], 0, none, none, none, none, rfl, rfl, keep npH s2, ?_, .nil, upd_same, ?_, ?_, ?_, ?_⟩, ?_⟩
    · rw [upd_ne nlp, upd_ne nft]
      exact upd_same
    · refine .cons (ns := []) (SqT.of ?_) .nil
      rw [upd_ne ntp]
      exact upd_same
    · show (nodesOf pl).drop 0 = nodesAll [pl]
      rw [List.drop_zero, nodesAll, nodesAll, List.append_nil]
    · show plsOk [pl] = true
      rw [plsOk, plsOk, hok]
      rfl
    · refine ⟨outP_all ks pl, fun y hy => ?_⟩
      rw [List.mem_singleton.mp hy]
      show 0 + (nodesOf pl).length ≤ _
      omega
    · rintro m σ H2 ⟨dn, pend, fs, us, st, x5, x6, x7, x8, rfl, rfl, s3, ef, hF, ep, hPt, hd, hpk, hout, hdep⟩
      refine ⟨_, rfl, _, .inl ⟨us, SqL.of ep, rfl⟩, ?_⟩
      cases pend with
      | nil =>
        rw [List.map_nil, List.reverse_nil] at hPt
        cases hPt
        rw [outP, List.append_nil] at hout
        rw [hout] at hF
        exact iteF ⟨_, rfl, q lf fs H2 s3 nfH ef hF⟩
      | cons y r =>
        obtain ⟨pa, t1⟩ := y
        rw [List.map_cons, List.reverse_cons] at hPt
        obtain ⟨us', a, rfl, hPt', haP⟩ := hPt.last
        have hd' : (nodesOf pl).drop st = nodesOf t1 ++ nodesAll (r.map (·.2)) := by
          rw [hd, List.map_cons, nodesAll]
        obtain ⟨b, k, u, hxa, hna, hb, more, hmore⟩ := head_at hN hd'
        rw [List.map_cons, plsOk, Bool.and_eq_true] at hpk
        refine iteT' (by cases us' <;> rfl) ⟨_, fun σ' H' h => h, ?_⟩
        -- the path is taken
        refine ⟨_, rfl, .inl ⟨rfl, _, SqL.of ep⟩, lp, _, .ref a, rfl, rfl, ep, ?_, ?_⟩
        · rw [List.length_append, List.length_singleton, Nat.add_sub_cancel]
          exact List.getElem?_concat_length
        rw [List.dropLast_concat]
        have k1 := Tk.put (ys := us') ep
        have ep1 : upd H2 lp (.lst us') lp = some (.lst us') := upd_same
        have ef1 : upd H2 lp (.lst us') lf = some (.lst fs) := by rw [upd_ne nlp]; exact ef
        have s4 : Same H (upd H2 lp (.lst us')) := keep npH s3
        have hF1 := hF.tk k1
        have hPt1 := hPt'.tk k1
        have haP1 := k1.seq haP
        have hb1 := (stk s4).seq hb
        have hS1 := (stk s4).seq hS
        have hK1 := (stk s4).seq hK
        generalize upd H2 lp (.lst us') = H3 at ep1 ef1 s4 hF1 hPt1 haP1 hb1 hS1 hK1 ⊢
        clear hF hPt hPt' haP hb ef ep s3 k1
        refine ⟨_, rfl, _, rfl, p, xs, _, .ref b, rfl, rfl, hS1, atI_nat hxa, ?_⟩
        refine ⟨b, _, rfl, hb1, rfl, _, _, rfl, _, _, rfl, rfl, ?_⟩
        refine ⟨_, rfl, .inl ⟨rfl, _, SqL.of ef1⟩, _, rfl, _, rfl, lenOk 2, fun t2 nt2 => ?_⟩
        have nl2 : lf ≠ t2 := ne_of_none ef1 nt2
        have np2 : lp ≠ t2 := ne_of_none ep1 nt2
        have hdn : dn.length < 1000 := by
          have h1 := congrArg List.length hout
          rw [List.length_append] at h1
          omega
        have ef2 := same_new (o := .tup [.ref a, .int (st : Int)]) nt2 _ _ ef1
        have hfl := hF1.length
        refine ⟨lf, fs, .ref t2, rfl, rfl, ef2, small (by omega), ?_⟩
        have k2 := Tk.new (o := .tup [.ref a, .int (st : Int)]) nt2
        have k3 := Tk.put (ys := fs ++ [V.ref t2]) ef2
        have ef3 : upd (upd H3 t2 (.tup [.ref a, .int (st : Int)])) lf (.lst (fs ++ [.ref t2])) lf = some (.lst (fs ++ [.ref t2])) := upd_same
        have ep3 : upd (upd H3 t2 (.tup [.ref a, .int (st : Int)])) lf (.lst (fs ++ [.ref t2])) lp = some (.lst us') := by rw [upd_ne nlp.symm, upd_ne np2]; exact ep1
        have s5 : Same H (upd (upd H3 t2 (.tup [.ref a, .int (st : Int)])) lf (.lst (fs ++ [.ref t2]))) := keep nfH (s4.trans (same_new nt2))
        have hF3 := FndAt.snoc (K := K) (H := upd (upd H3 t2 (.tup [.ref a, .int (st : Int)])) lf (.lst (fs ++ [.ref t2]))) (a := t2) (b := a) (ns := pa) (o := st) (k3.seq (SqT.of upd_same)) (k3.seq (k2.seq haP1)) ((hF1.tk k2).tk k3)
        have hPt3 := (hPt1.tk k2).tk k3
        have haP3 := k3.seq (k2.seq haP1)
        have hS3 := (stk s5).seq hS
        have hK3 := (stk s5).seq hK
        generalize upd (upd H3 t2 (.tup [.ref a, .int (st : Int)])) lf (.lst (fs ++ [.ref t2])) = H4 at ef3 ep3 s5 hF3 hPt3 haP3 hS3 hK3 ⊢
        clear ef1 ef2 hF1 hPt1 haP1 hS1 hK1 s4 ep1 hb1 k2 k3
        have hsum : (nodesAll ((pa, t1) :: r |>.map (·.2))).length = (nodesOf t1).length + (nodesAll (r.map (·.2))).length := by
          rw [List.map_cons, nodesAll, List.length_append]
        refine ⟨_, rfl, _, rfl, kp, _, rfl, .inr hK3, rfl, flat_strs _, _, rfl, ?_⟩
        rw [inV_strs]
        cases ek : ks.contains k with
        | false =>
          refine iteF ?_
          have ho : pathsK ks t1 = [([], 0)] := by
            cases t1 with
            | leaf k1 u1 => exact pathsK_leaf
            | node k1 ps =>
              rw [nodesOf] at hmore
              cases hmore
              exact pathsK_closed ek
          rw [outP_other ho] at hout
          refine ⟨_, rfl, _, rfl, p, xs, nodesOf pl, st, t1, nodesAll (r.map (·.2)), rfl, hS3, hN.tk (stk s5), hlen, hd', hpk.1, ?_⟩
          refine ⟨_, ?_, dn ++ [(pa, st)], r, _, us', st + (nodesOf t1).length, _, _, _, _, rfl, rfl, s5, ef3, hF3, ep3, hPt3, (drop_len hd' (nodesOf_pos t1)).2, hpk.2, ?_, fun y hy => hdep y (List.mem_cons_of_mem _ hy)⟩
          · rw [hsum]
            have := nodesOf_pos t1
            omega
          · rw [List.append_assoc]
            exact hout
        | true =>
          refine iteT ?_
          cases t1 with
          | leaf k1 u1 =>
            rw [nodesOf] at hmore
            cases hmore
            have h1 := hks k ek
            have h2 := hpk.1
            rw [plOk, h1] at h2
            cases h2
          | node k1 ps =>
          rw [nodesOf] at hmore
          cases hmore
          rw [outP_node ek] at hout
          have hokp := hpk.1
          rw [plOk, Bool.and_eq_true] at hokp
          rw [nodesOf] at hd'
          have hps : ps.length < 1000 := by
            have h1 := congrArg List.length hd'
            rw [List.length_drop, List.length_append, List.length_cons] at h1
            have := nodes_ge ps
            omega
          have hul := hPt3.length
          have hr1000 : us'.length < 1000 := by
            have h1 := congrArg List.length hd'
            rw [List.length_drop, List.length_append] at h1
            have := nodes_ge (r.map (·.2))
            rw [List.length_map] at this
            rw [hul, List.length_reverse, List.length_map]
            omega
          refine ⟨_, rfl, _, _, rfl, rfl, _, rfl, ?_⟩
          refine ⟨_, rfl, by omega, by omega, by omega, by omega, ?_⟩
          have e0 : ((ps.length : Int) - 0).toNat = ps.length := by omega
          rw [e0]
          refine for_rangeC (lo := 0 + (ps.length : Int) - 1) (c := -1) (n := ps.length) (fun i σ H5 => ∃ (vs5 : List V) (y8 : Option V), σ = [some (.ref p), some (.ref kp), some (.ref lf), some (.ref lp), some (.int ((st + 1 : Nat) : Int)), some (.ref a), some (.str k), some (.int (ps.length : Int)), y8] ∧ Same H H5 ∧ H5 lf = some (.lst (fs ++ [.ref t2])) ∧ FndAt K H5 (fs ++ [.ref t2]) (dn ++ [(pa, st)]) ∧ SqT K H5 a (pa.map natV) ∧ H5 lp = some (.lst vs5) ∧ PthsAt K H5 vs5 ((r.map (·.1)).reverse ++ (((kids pa 0 ps).map (·.1)).reverse.take i))) ?_ ?_ ?_
          · refine ⟨us', _, rfl, s5, ef3, hF3, haP3, ep3, ?_⟩
            rw [List.take_zero, List.append_nil]
            exact hPt3
          · rintro i σ H5 hi ⟨vs5, y8, rfl, s6, ef6, hF6, ha6, ep6, hP6⟩
            have ei : (0 + (ps.length : Int) - 1 + (i : Nat) * (-1) : Int) = ((ps.length - 1 - i : Nat) : Int) := by omega
            rw [ei]
            have hke : ((kids pa 0 ps).map (·.1)).reverse[i]? = some (pa ++ [ps.length - 1 - i]) := by
              rw [List.getElem?_reverse (by rw [List.length_map, kids_len]; exact hi), List.length_map, kids_len, kids_fst, List.getElem?_map, List.getElem?_range' (by omega)]
              simp
            have hvl := hP6.length
            rw [List.length_append, List.length_take, List.length_reverse, List.length_reverse, List.length_map, List.length_map, kids_len] at hvl
            have hul2 := hul
            rw [List.length_reverse, List.length_map] at hul2
            refine ⟨_, rfl, .inl ⟨rfl, _, SqL.of ep6⟩, _, rfl, _, rfl, lenOk 1, fun t3 nt3 => ?_⟩
            have k6 := Tk.new (o := .tup [natV (ps.length - 1 - i)]) nt3
            have hpal : pa.length < 1000 := by
              have := hdep _ List.mem_cons_self
              have h2 : pa.length + (nodesOf (.node k ps)).length ≤ xs.length := this
              omega
            refine cat_anyW (k6.seq ha6) (SqT.of upd_same) (by rw [List.length_map]; show _ + 1 < _; omega) fun t4 H6 s7 h7 => ?_
            have s8 := (same_new (o := .tup [natV (ps.length - 1 - i)]) nt3).trans s7
            have ep7 := s8 _ _ ep6
            have ef7 := s8 _ _ ef6
            refine ⟨lp, vs5, .ref t4, rfl, rfl, ep7, small (by omega), ?_⟩
            have k7 := Tk.put (ys := vs5 ++ [V.ref t4]) ep7
            refine ⟨vs5 ++ [.ref t4], _, rfl, keep npH (s6.trans s8), by rw [upd_ne nlp]; exact ef7, (hF6.tk (stk s8)).tk k7, k7.seq ((stk s8).seq ha6), upd_same, ?_⟩
            rw [take_succ' hke, ← List.append_assoc]
            refine PthsAt.snoc ((hP6.tk (stk s8)).tk k7) (k7.seq ?_)
            rw [List.map_append]
            exact h7
          · rintro σ H5 ⟨vs5, y8, rfl, s6, ef6, hF6, ha6, ep6, hP6⟩
            rw [List.take_of_length_le (by rw [List.length_reverse, List.length_map, kids_len]; exact Nat.le_refl _)] at hP6
            refine ⟨_, ?_, dn ++ [(pa, st)], kids pa 0 ps ++ r, _, vs5, st + 1, _, _, _, _, rfl, rfl, s6, ef6, hF6, ep6, ?_, ?_, ?_, ?_, ?_⟩
            · rw [hsum, List.map_append, kids_snd, nodesAll_append, List.length_append, nodesOf, List.length_cons]
              omega
            · rw [List.map_append, List.reverse_append]
              exact hP6
            · rw [List.map_append, kids_snd, nodesAll_append]
              have h2 := congrArg (List.drop 1) hd'
              rw [List.drop_drop] at h2
              exact h2
            · rw [List.map_append, kids_snd, plsOk_app, hokp.2, hpk.2]
              rfl
            · rw [List.append_assoc]
              exact hout
            · intro y hy
              rcases List.mem_append.mp hy with hy | hy
              · have h1 := hdep _ List.mem_cons_self
                have h2 : pa.length + (nodesOf (.node k ps)).length ≤ xs.length := h1
                rw [nodesOf, List.length_cons] at h2
                have h3 := kids_mem hy
                omega
              · exact hdep y (List.mem_cons_of_mem _ hy)
end
end Eh
set_option Elab.async false
set_option linter.all false
set_option maxRecDepth 100000
set_option maxHeartbeats 4000000
namespace Eh
open PySem PySem.Spec PyProof.Rows L2
/-- a tuple of texts of the module's top -/
def TupAt (K : PySem.W.Frag) (mg : Str → Option Value) (x : Str) (p : Addr) (ws : List Str) : Prop := mg x = some (.ref p) ∧ ∀ H, SqT K H p (ws.map V.str)
theorem has_of {ws : List Str} {k : Str} (h : ws.contains k = true) : k ∈ ws := by
  simpa using h
section
variable {P : Program} {w : World} {K : PySem.W.Frag} {mg : Str → Option Value} {base : Heap}
/-- a promise passes, another value is refused -/
def spCheckP (K : PySem.W.Frag) (C CE : Addr) : Sp := fun vs H Q E => ∃ v, vs = [v] ∧ ((∃ a dx fs, v = .ref a ∧ H a = some (.ins C dx fs) ∧ Q .non H) ∨ ∃ t, TyX K H v t ∧ PySem.W.kitOne K t (.ref C) = some false ∧ E (.ref CE) none H)
theorem ok_check_promise {C fI fL CE f : Addr} {fd : FuncData} (F : Fun K "check_promise" "check_promise" s_check_promise f fd) (T : Txt mg) (PC : PromC K mg C fI fL) (IC : IsC K C) (R : ErrC K mg "InvalidPromise" CE) :
    FnOk P w K mg base (L2.CX P w) 1 f fd ["value"] (spCheckP K C CE) := by
  refine F.okX sc_check_promise (fun vs H Q E h => ?_) (fun cdv A outer s H vs Q E hr h => ?_)
  · obtain ⟨v, rfl, _⟩ := h
    rfl
  · obtain ⟨v, rfl, h⟩ := h
    refine ⟨_, (pss_one (ps_if (pt_not (pt_val (pe_callB (isiQ (K := K) rfl) (by rfl) T.isinstance_ (by decide +kernel) (pa_cons (pv 0) (pa_cons (pe_glob (v := .ref C) rfl PC.g rfl) pa_nil)))))
      (pss_one (ps_raise rfl (takes_of rfl rfl rfl rfl) (pmk_own PySem.F.excBase_ValueError R.q R.g R.k (raises_own R.b R.t) rfl))) pss_nil)), ?_⟩
    rcases h with ⟨a, dx, fs, rfl, ea, q⟩ | ⟨t, ht, hk, q⟩
    · exact ⟨_, rfl, .ref a, .ref C, .ref C, .ref C, true, rfl, .own _, .base (.ins ea PC.cl IC.cls IC.sp IC.tk IC.mro), IC.self, _, rfl, iteF q⟩
    · exact ⟨_, rfl, v, .ref C, t, .ref C, false, rfl, .own _, ht, hk, _, rfl, iteT q⟩
end
end Eh
set_option Elab.async false
set_option linter.all false
set_option maxRecDepth 100000
set_option maxHeartbeats 4000000
namespace Eh
open PySem PySem.Spec PyProof.Rows L2
theorem PrG.sm {K : PySem.W.Frag} {C a : Addr} {H H' : Hp} {ns : List (Str × V)} (h : PrG K C H a ns) (s : Same H H') : PrG K C H' a ns := by
  obtain ⟨dx, p, xs, e, hs, hN, g⟩ := h
  exact ⟨dx, p, xs, s _ _ e, (stk s).seq hs, hN.tk (stk s), g⟩
theorem PathV.sm {K : PySem.W.Frag} {H H' : Hp} {v : V} {ws : Option (List V)} (h : PathV K H v ws) (hk : ∀ z, KindI K H z → KindI K H' z) (s : Same H H') : PathV K H' v ws := by
  cases h with
  | other hn => exact .other (hn.ku (ku_same s))
  | tup ht hz => exact .tup ((stk s).seq ht) fun z m => hk z (hz z m)
theorem good_sub {a b : List (Str × V)} (h : GoodN b) (s : ∀ n ∈ a, n ∈ b) : GoodN a := fun n m => h n (s n m)
theorem good_ex {ns ms rest : List (Str × V)} {st : Nat} {q : Pl} (h : GoodN ns) (g : GoodN ms) (d : ns.drop st = nodesOf q ++ rest) : GoodN (ns.take st ++ (ms ++ rest)) := by
  intro n hn
  rcases List.mem_append.mp hn with hn | hn
  · exact h n (List.mem_of_mem_take hn)
  rcases List.mem_append.mp hn with hn | hn
  · exact g n hn
  · exact h n (List.mem_of_mem_drop (i := st) (by rw [d]; exact List.mem_append_right _ hn))
section
variable {P : Program} {w : World} {K : PySem.W.Frag} {mg : Str → Option Value} {base : Heap}
/-- a comprehension over a list, any target -/
theorem lcLg {K : PySem.W.Frag} {a : Addr} {xs : List V} {g : TG} {tt : TT} {te : TE} {vs : List Nat} {σ : L2.St} {H1 : Hp} {D : Addr} {Qd : Hp → Prop} (R : Nat → List V → Hp → Prop) (h0 : R 0 [] (upd H1 D (.lst []))) (hl : ∀ j acc H, R j acc H → SqL K H a xs)
    (hs : ∀ j x acc H, xs[j]? = some x → acc.length ≤ j → H D = some (.lst acc) → R j acc H →
      g x (wipe σ vs) H fun σ2 H2 => wipe σ2 vs = wipe σ vs ∧ tt σ2 H2 fun b H3 => if b = true then te σ2 H3 (LcK R D j) else LcP R D (j + 1) H3)
    (hd : ∀ acc H, acc.length ≤ xs.length → H D = some (.lst acc) → R xs.length acc H → Qd H) : LcGoal (Itl K a) g tt te vs σ H1 D Qd := by
  refine ⟨fun j m H => m = xs.length - j ∧ j ≤ xs.length ∧ LcP R D j H, ⟨xs.length, by omega, Nat.zero_le _, [], Nat.le_refl _, upd_same, h0⟩, ?_⟩
  rintro j m H ⟨rfl, hj, acc, hlen, e, r⟩
  have q := hl _ _ _ r
  by_cases hlt : j < xs.length
  · refine .inr ⟨⟨xs, xs[j], q, List.getElem?_eq_getElem hlt⟩, LcP R D (j + 1), fun H' p => ⟨xs.length - (j + 1), by omega, rfl, hlt, p⟩, fun x H' y => ?_⟩
    obtain ⟨rfl, y⟩ := y
    exact hs j x acc _ (y xs q) hlen e r
  · have ej : j = xs.length := by omega
    subst ej
    exact .inl ⟨⟨xs, q, Nat.le_refl _⟩, hd acc H hlen e r⟩
theorem startV_cases (ks : List Str) (pl : Pl) (ws : Option (List V)) : (startV ks pl ws = .non) ∨ ∃ zs o q, ws = some zs ∧ walkV ks pl zs = some (o, q) ∧ startV ks pl ws = .int (o : Int) := by
  cases ws with
  | none => exact .inl rfl
  | some zs =>
    cases h : walkV ks pl zs with
    | none => exact .inl (startV_none h)
    | some y => exact .inr ⟨zs, y.1, y.2, rfl, h, startV_some h⟩
end
end Eh
set_option Elab.async false
set_option linter.all false
set_option maxRecDepth 100000
set_option maxHeartbeats 4000000
namespace Eh
open PySem PySem.Spec PyProof.Rows L2
section
variable {P : Program} {w : World} {K : PySem.W.Frag} {mg : Str → Option Value} {base : Heap}
inductive PgsAt (K : PySem.W.Frag) (C : Addr) (H : Hp) : List V → List Pl → Prop
  | nil : PgsAt K C H [] []
  | cons {a : Addr} {vs : List V} {p : Pl} {ps : List Pl} : PrG K C H a (nodesOf p) → PgsAt K C H vs ps → PgsAt K C H (.ref a :: vs) (p :: ps)
theorem PgsAt.sm {K : PySem.W.Frag} {C : Addr} {H H' : Hp} (s : Same H H') : ∀ {vs : List V} {ps : List Pl}, PgsAt K C H vs ps → PgsAt K C H' vs ps
  | _, _, .nil => .nil
  | _, _, .cons h r => .cons (h.sm s) (r.sm s)
theorem PgsAt.length {K : PySem.W.Frag} {C : Addr} {H : Hp} : ∀ {vs : List V} {ps : List Pl}, PgsAt K C H vs ps → vs.length = ps.length
  | _, _, .nil => rfl
  | _, _, .cons _ r => by rw [List.length_cons, List.length_cons, r.length]
theorem PgsAt.get {K : PySem.W.Frag} {C : Addr} {H : Hp} : ∀ {vs : List V} {ps : List Pl}, PgsAt K C H vs ps → ∀ {i : Nat} {v : V}, vs[i]? = some v → ∃ a p, v = .ref a ∧ ps[i]? = some p ∧ PrG K C H a (nodesOf p)
  | _, _, .nil, i, v, h => by simp at h
  | _, _, .cons a _, 0, v, h => by
    cases (show some _ = some v from h)
    exact ⟨_, _, rfl, rfl, a⟩
  | _, _, .cons _ r, i + 1, v, h => r.get (i := i) h
theorem PgsAt.good {K : PySem.W.Frag} {C : Addr} {H : Hp} : ∀ {vs : List V} {ps : List Pl}, PgsAt K C H vs ps → GoodN (nodesAll ps)
  | _, _, .nil => fun n hn => by
    rw [nodesAll] at hn
    cases hn
  | _, _, .cons h r => by
    rw [nodesAll]
    obtain ⟨_, _, _, _, _, _, g⟩ := h
    exact goodAll_app g r.good
theorem walk_drop {ks : List Str} {zs : List V} {pl : Pl} {o : Nat} {q : Pl} (h : plOk pl = true) (e : walkV ks pl zs = some (o, q)) : ∃ rest, (nodesOf pl).drop o = nodesOf q ++ rest ∧ plOk q = true := by
  obtain ⟨pre, post, e1, e2, e3⟩ := walkV_split h e
  refine ⟨post, ?_, e3⟩
  rw [e1, ← e2, List.drop_left]
theorem drop_pre {ns qs rest : List (Str × V)} {o : Nat} (h : ns.drop o = qs ++ rest) : ∀ n ∈ qs, n ∈ ns := fun n hn => List.mem_of_mem_drop (i := o) (by rw [h]; exact List.mem_append_left _ hn)
end
end Eh
set_option Elab.async false
set_option linter.all false
set_option maxRecDepth 100000
set_option maxHeartbeats 4000000
namespace Eh
open PySem PySem.Spec PyProof.Rows L2
/-- with another part at a path -/
def putP : Pl → List Nat → Pl → Pl
  | _, [], x => x
  | .leaf k t, _ :: _, _ => .leaf k t
  | .node k ps, i :: r, x => match ps[i]? with
    | some q => .node k (ps.set i (putP q r x))
    | none => .node k ps
theorem putP_nil {p x : Pl} : putP p [] x = x := by cases p <;> rw [putP]
theorem putP_node {k : Str} {ps : List Pl} {i : Nat} {r : List Nat} {q x : Pl} (h : ps[i]? = some q) : putP (.node k ps) (i :: r) x = .node k (ps.set i (putP q r x)) := by
  rw [putP, h]
theorem set_get {α : Type} {ps : List α} {i : Nat} {q y : α} (h : ps[i]? = some q) : (ps.set i y)[i]? = some y := List.getElem?_set_self (List.getElem?_eq_some_iff.mp h).1
theorem nodesAll_put {ps : List Pl} {i : Nat} {q y : Pl} (h : ps[i]? = some q) : nodesAll (ps.set i y) = nodesAll (ps.take i) ++ (nodesOf y ++ nodesAll (ps.drop (i + 1))) := by
  have e := nodesAll_split (set_get (y := y) h)
  rw [List.take_set_of_le (Nat.le_refl i), List.drop_set_of_lt (Nat.lt_succ_self i)] at e
  exact e
theorem intV_small {i : Nat} (h : i < 1000) : intV (.int (i : Int)) = true := by
  show decide ((if (i : Int) < 0 then -(i : Int) else (i : Int)) < 10 ^ (60 : Int).toNat) = true
  rw [if_neg (by omega)]
  refine decide_eq_true ?_
  have h1 : (1000 : Int) ≤ 10 ^ (60 : Int).toNat := by decide
  omega
theorem idxV_small {i n : Nat} (h : i < n) (hn : n < 1000) : idxV (.int (i : Int)) (n : Int) = true := by
  unfold idxV
  rw [intV_small (by omega)]
  show (true && (decide (0 ≤ (i : Int)) && decide ((i : Int) < (n : Int)))) = true
  rw [decide_eq_true (by omega), decide_eq_true (by omega)]
  rfl
theorem lexN_cons {i : Nat} {a b : List Nat} : HSP.lexN (i :: a) (i :: b) = HSP.lexN a b := by
  rw [HSP.lexN, if_pos rfl]
end Eh
set_option Elab.async false
set_option linter.all false
set_option maxRecDepth 100000
set_option maxHeartbeats 4000000
namespace Eh
open PySem PySem.Spec PyProof.Rows L2
def open2 : List Str := ["all", "some"]
theorem open2_node {k : Str} (h : open2.contains k = true) : nodeKinds.contains k = true := by
  have h1 := has_of h
  unfold open2 at h1
  simp only [List.mem_cons, List.not_mem_nil, or_false] at h1
  rcases h1 with rfl | rfl <;> rfl
mutual
/-- all places, in order, and what stands there -/
def subsP : Pl → List (List Nat × Pl)
  | .leaf k t => [([], .leaf k t)]
  | .node k ps => ([], .node k ps) :: (if open2.contains k = true then subsAll 0 ps else [])
def subsAll (i : Nat) : List Pl → List (List Nat × Pl)
  | [] => []
  | p :: ps => (subsP p).map (fun y => (i :: y.1, y.2)) ++ subsAll (i + 1) ps
end
theorem subs_head (p : Pl) : ∃ r, subsP p = ([], p) :: r := by
  cases p with
  | leaf k t => exact ⟨[], by rw [subsP]⟩
  | node k ps => exact ⟨_, by rw [subsP]⟩
theorem subs_nil (p : Pl) : ([], p) ∈ subsP p := by
  obtain ⟨r, e⟩ := subs_head p
  rw [e]
  exact List.mem_cons_self
theorem mem_all : ∀ {ps : List Pl} {i : Nat} {pa : List Nat} {q : Pl}, (pa, q) ∈ subsAll i ps ↔ ∃ j r p, pa = (i + j) :: r ∧ ps[j]? = some p ∧ (r, q) ∈ subsP p
  | [], i, pa, q => by
    rw [subsAll]
    exact ⟨fun h => (nomatch h), fun ⟨j, r, p, _, h, _⟩ => by simp at h⟩
  | p :: ps, i, pa, q => by
    rw [subsAll, List.mem_append]
    constructor
    · rintro (h | h)
      · obtain ⟨y, hy, e⟩ := List.mem_map.mp h
        obtain ⟨e1, e2⟩ := Prod.mk.inj e
        exact ⟨0, y.1, p, e1.symm, rfl, by rw [← e2]; exact hy⟩
      · obtain ⟨j, r, p', e, hp, hq⟩ := mem_all.mp h
        exact ⟨j + 1, r, p', by rw [e]; congr 1; omega, hp, hq⟩
    · rintro ⟨j, r, p', e, hp, hq⟩
      cases j with
      | zero =>
        cases (show some p = some p' from hp)
        exact .inl (List.mem_map.mpr ⟨(r, q), hq, by rw [e]; rfl⟩)
      | succ j => exact .inr (mem_all.mpr ⟨j, r, p', by rw [e]; congr 1; omega, hp, hq⟩)
theorem mem_node {k : Str} {ps : List Pl} {pa : List Nat} {q : Pl} : (pa, q) ∈ subsP (.node k ps) ↔ (pa = [] ∧ q = .node k ps) ∨ (open2.contains k = true ∧ ∃ j r p, pa = j :: r ∧ ps[j]? = some p ∧ (r, q) ∈ subsP p) := by
  rw [subsP, List.mem_cons]
  constructor
  · rintro (h | h)
    · obtain ⟨e1, e2⟩ := Prod.mk.inj h
      exact .inl ⟨e1, e2⟩
    · split at h
      · rename_i ho
        obtain ⟨j, r, p, e, hp, hq⟩ := mem_all.mp h
        exact .inr ⟨ho, j, r, p, by rw [e, Nat.zero_add], hp, hq⟩
      · cases h
  · rintro (⟨rfl, rfl⟩ | ⟨ho, j, r, p, e, hp, hq⟩)
    · exact .inl rfl
    · rw [if_pos ho]
      exact .inr (mem_all.mpr ⟨j, r, p, by rw [e, Nat.zero_add], hp, hq⟩)
mutual
theorem subs_srt : ∀ p : Pl, ((subsP p).map (·.1)).Pairwise (fun a b => HSP.lexN a b = true)
  | .leaf k t => by
    rw [subsP]
    exact List.pairwise_singleton _ _
  | .node k ps => by
    rw [subsP, List.map_cons]
    refine List.pairwise_cons.mpr ⟨fun b hb => ?_, ?_⟩
    · obtain ⟨⟨pa, q⟩, hm, e⟩ := List.mem_map.mp hb
      split at hm
      · obtain ⟨j, r, _, e2, _⟩ := mem_all.mp hm
        rw [← e, e2]
        rfl
      · cases hm
    · split
      · exact all_srt 0 ps
      · exact List.Pairwise.nil
theorem all_srt : ∀ (i : Nat) (ps : List Pl), ((subsAll i ps).map (·.1)).Pairwise (fun a b => HSP.lexN a b = true)
  | i, [] => by
    rw [subsAll]
    exact List.Pairwise.nil
  | i, p :: ps => by
    rw [subsAll, List.map_append, List.map_map]
    refine List.pairwise_append.mpr ⟨?_, all_srt (i + 1) ps, fun a ha b hb => ?_⟩
    · have h := subs_srt p
      rw [List.pairwise_map] at h ⊢
      exact h.imp fun {a b} h => by show HSP.lexN (i :: a.1) (i :: b.1) = true; rw [lexN_cons]; exact h
    · obtain ⟨y, _, e⟩ := List.mem_map.mp ha
      obtain ⟨⟨pa, q⟩, hm, e2⟩ := List.mem_map.mp hb
      obtain ⟨j, r, _, e3, _⟩ := mem_all.mp hm
      rw [← e, ← e2, e3]
      show HSP.lexN (i :: y.1) ((i + 1 + j) :: r) = true
      rw [HSP.lexN, if_neg (by omega)]
      exact decide_eq_true (by omega)
end
theorem lexN_ne {a b : List Nat} (h : HSP.lexN a b = true) : a ≠ b := fun e => by
  rw [e, HSP.lexN_irr] at h
  cases h
theorem subs_nodup (p : Pl) : ((subsP p).map (·.1)).Nodup := (subs_srt p).imp fun h => lexN_ne h
/-- a place leads to what stands there -/
theorem walk_place : ∀ {pa : List Nat} {pl q : Pl}, plOk pl = true → (nodesOf pl).length < 1000 → (pa, q) ∈ subsP pl →
    ∃ o rest, walkV open2 pl (pa.map natV) = some (o, q) ∧ (nodesOf pl).drop o = nodesOf q ++ rest ∧ ∀ x, nodesOf (putP pl pa x) = (nodesOf pl).take o ++ (nodesOf x ++ rest)
  | [], pl, q, hk, hl, h => by
    have : q = pl := by
      cases pl with
      | leaf k t => rw [subsP] at h; exact (Prod.mk.inj (List.mem_singleton.mp h)).2
      | node k ps =>
        rcases mem_node.mp h with ⟨_, e⟩ | ⟨_, j, r, p, e, _⟩
        · exact e
        · cases e
    subst this
    exact ⟨0, [], walkV_nil, by rw [List.append_nil]; rfl, fun x => by rw [putP_nil, List.append_nil]; rfl⟩
  | i :: r, pl, q, hk, hl, h => by
    cases pl with
    | leaf k t => rw [subsP] at h; cases (Prod.mk.inj (List.mem_singleton.mp h)).1
    | node k ps =>
      rcases mem_node.mp h with ⟨e, _⟩ | ⟨ho2, j, r', p, e, hp, hq⟩
      · cases e
      · cases e
        rw [plOk, Bool.and_eq_true] at hk
        have hi := (List.getElem?_eq_some_iff.mp hp).1
        rw [nodesOf, List.length_cons] at hl
        have hg := nodes_ge ps
        have hpl : (nodesOf p).length ≤ (nodesAll ps).length := nodesOf_get hp
        obtain ⟨o, rest, e1, e2, e3⟩ := walk_place (plsOk_get hk.2 hp) (by omega) hq
        have ho : o ≤ (nodesOf p).length := by
          have h1 := congrArg List.length e2
          rw [List.length_drop, List.length_append] at h1
          have := nodesOf_pos q
          omega
        refine ⟨1 + (nodesAll (ps.take i)).length + o, rest ++ nodesAll (ps.drop (i + 1)), ?_, ?_, fun x => ?_⟩
        · rw [List.map_cons]
          show walkV open2 (.node k ps) (.int (i : Int) :: r.map natV) = _
          rw [walkV_node ho2 (idxV_small hi (by omega)) hp, e1]
          rfl
        · rw [nodesOf, nodesAll_split hp, show 1 + (nodesAll (ps.take i)).length + o = ((nodesAll (ps.take i)).length + o) + 1 by omega, List.drop_succ_cons, ← List.drop_drop, List.drop_left, List.drop_append_of_le_length ho, e2, List.append_assoc]
        · rw [putP_node hp, nodesOf, nodesAll_put hp, e3 x, nodesOf, nodesAll_split hp, List.length_set, show 1 + (nodesAll (ps.take i)).length + o = ((nodesAll (ps.take i)).length + o) + 1 by omega, List.take_succ_cons, List.take_length_add_append, List.take_append_of_le_length ho]
          simp only [List.append_assoc, List.cons_append]
/-- what leads anywhere is a place -/
theorem place_walk : ∀ {zs : List V} {pl q : Pl} {o : Nat}, walkV open2 pl zs = some (o, q) → ∃ pa : List Nat, zs = pa.map natV ∧ (pa, q) ∈ subsP pl
  | [], pl, q, o, e => by
    rw [walkV_nil] at e
    cases e
    exact ⟨[], rfl, subs_nil _⟩
  | v :: r, .leaf k t, q, o, e => by
    rw [walkV] at e
    cases e
  | v :: r, .node k ps, q, o, e => by
    rw [walkV] at e
    split at e
    · rename_i hc
      rw [Bool.and_eq_true] at hc
      obtain ⟨i, rfl, hi⟩ := idxV_nat hc.2
      split at e
      · rename_i q1 hq
        cases hw : walkV open2 q1 r with
        | none => rw [hw] at e; cases e
        | some y =>
          obtain ⟨o1, q2⟩ := y
          rw [hw] at e
          cases e
          obtain ⟨pa, e1, hm⟩ := place_walk hw
          have hq' : ps[i]? = some q1 := hq
          exact ⟨i :: pa, by rw [List.map_cons, ← e1]; rfl, mem_node.mpr (.inr ⟨hc.1, i, pa, q1, rfl, hq', hm⟩)⟩
      · cases e
    · cases e
/-- where the paths that the program finds lead -/
def PtRel (ns : List (Str × V)) (y : List Nat × Nat) (z : List Nat × Pl) : Prop := y.1 = z.1 ∧ plOk z.2 = true ∧ ∃ rest, ns.drop y.2 = nodesOf z.2 ++ rest
theorem PtRel.into {ns ms post : List (Str × V)} {off i : Nat} {y : List Nat × Nat} {z : List Nat × Pl} (h : PtRel ns y z) (d : ms.drop off = ns ++ post) : PtRel ms (i :: y.1, off + y.2) (i :: z.1, z.2) := by
  obtain ⟨e1, e2, rest, e3⟩ := h
  have hy : y.2 ≤ ns.length := by
    have h1 := congrArg List.length e3
    rw [List.length_drop, List.length_append] at h1
    have := nodesOf_pos z.2
    omega
  refine ⟨by rw [e1], e2, rest ++ post, ?_⟩
  show ms.drop (off + y.2) = nodesOf z.2 ++ (rest ++ post)
  rw [← List.drop_drop, d, List.drop_append_of_le_length hy, e3, List.append_assoc]
mutual
theorem paths_subs : ∀ {pl : Pl}, plOk pl = true → Paired (PtRel (nodesOf pl)) (pathsK open2 pl) (subsP pl)
  | .leaf k t, h => by
    rw [pathsK, subsP]
    exact .cons ⟨rfl, h, [], by rw [List.append_nil]; rfl⟩ .nil
  | .node k ps, h => by
    have h' := h
    rw [plOk, Bool.and_eq_true] at h'
    rw [pathsK, subsP]
    refine .cons ⟨rfl, h, [], by rw [List.append_nil]; rfl⟩ ?_
    split
    · refine all_subs (post := []) h'.2 ?_
      rw [nodesOf, List.append_nil]
      rfl
    · exact .nil
theorem all_subs : ∀ {ps : List Pl} {i off : Nat} {ms post : List (Str × V)}, plsOk ps = true → ms.drop off = nodesAll ps ++ post → Paired (PtRel ms) (pathsAll open2 i off ps) (subsAll i ps)
  | [], i, off, ms, post, _, _ => by rw [pathsAll, subsAll]; exact .nil
  | p :: ps, i, off, ms, post, h, d => by
    rw [plsOk, Bool.and_eq_true] at h
    rw [nodesAll, List.append_assoc] at d
    rw [pathsAll, subsAll]
    have d2 : ms.drop (off + (nodesOf p).length) = nodesAll ps ++ post := by rw [← List.drop_drop, d, List.drop_left]
    have one := paths_subs h.1
    have up : ∀ {l : List (List Nat × Nat)} {m : List (List Nat × Pl)}, Paired (PtRel (nodesOf p)) l m → Paired (PtRel ms) (l.map fun y => (i :: y.1, off + y.2)) (m.map fun y => (i :: y.1, y.2)) := by
      intro l m hp
      induction hp with
      | nil => exact .nil
      | cons a t ih => exact .cons (a.into d) ih
    have app : ∀ {l : List (List Nat × Nat)} {m : List (List Nat × Pl)} {l2 : List (List Nat × Nat)} {m2 : List (List Nat × Pl)}, Paired (PtRel ms) l m → Paired (PtRel ms) l2 m2 → Paired (PtRel ms) (l ++ l2) (m ++ m2) := by
      intro l m l2 m2 a b
      induction a with
      | nil => exact b
      | cons x t ih => exact .cons x ih
    exact app (up one) (all_subs h.2 d2)
end
theorem paths_fst {pl : Pl} (h : plOk pl = true) : (pathsK open2 pl).map (·.1) = (subsP pl).map (·.1) := by
  have : ∀ {l : List (List Nat × Nat)} {m : List (List Nat × Pl)}, Paired (PtRel (nodesOf pl)) l m → l.map (·.1) = m.map (·.1) := by
    intro l m p
    induction p with
    | nil => rfl
    | cons a t ih => rw [List.map_cons, List.map_cons, ih, a.1]
  exact this (paths_subs h)
/-- the kind of a plain promise -/
def kindPl : Pl → Str
  | .leaf k _ => k
  | .node k _ => k
theorem kind_head {pl : Pl} {n : Str × V} {more : List (Str × V)} (h : nodesOf pl = n :: more) : n.1 = kindPl pl := by
  cases pl <;> rw [nodesOf] at h <;> cases h <;> rfl
/-- the places of nodes of some kinds -/
def inK (ks : List Str) (pl : Pl) : List (List Nat) := ((subsP pl).filter fun y => ks.contains (kindPl y.2)).map (·.1)
end Eh
set_option Elab.async false
set_option linter.all false
set_option maxRecDepth 100000
namespace Eh
open PySem PySem.Spec PyProof.Rows L2
theorem kit_self {K : PySem.W.Frag} {C : Addr} : PySem.W.kitOne K (.ref C) (.ref C) = some true := by
  unfold PySem.W.kitOne
  rw [if_pos (beq_self_eq_true (Value.ref C))]
theorem kit_off {K : PySem.W.Frag} {C : Addr} {T : String} (i : PySem.W.isClsIn K C = true) (t : PySem.W.typeIn K (.ref C) = some (.type "type")) (h : (PySem.fastBuiltinMro T).map (·.contains (.ref C)) = some false) : PySem.W.kitOne K (.type T) (.ref C) = some false := by
  unfold PySem.W.kitOne
  rw [if_neg (by show ¬ (false = true); decide)]
  have j : ((PySem.W.clsIn K C).isSome && PySem.W.typeIn K (.ref C) == some (.type "type")) = true := by
    rw [show (PySem.W.clsIn K C).isSome = true from i, t]
    decide
  exact (if_pos j).trans h
end Eh
set_option Elab.async false
set_option linter.all false
set_option maxRecDepth 100000
set_option maxHeartbeats 4000000
namespace Eh
open PySem PySem.Spec PyProof.Rows L2
theorem paired_at {α β : Type} {F : α → β → Prop} : ∀ {xs : List α} {ys : List β}, Paired F xs ys → ∀ {i : Nat} {x : α}, xs[i]? = some x → ∃ y, ys[i]? = some y ∧ F x y
  | _, _, .nil, i, x, h => by simp at h
  | _, _, .cons r t, 0, x, h => by
    cases (show some _ = some x from h)
    exact ⟨_, rfl, r⟩
  | _, _, .cons r t, i + 1, x, h => paired_at t (i := i) (by simpa using h)
theorem filter_snoc {α : Type} (p : α → Bool) {l : List α} {j : Nat} {x : α} (h : l[j]? = some x) : (l.take (j + 1)).filter p = (l.take j).filter p ++ (if p x = true then [x] else []) := by
  rw [List.take_add_one, h, List.filter_append]
  congr 1
  show [x].filter p = _
  by_cases e : p x = true
  · rw [if_pos e, List.filter_cons, if_pos e]; rfl
  · rw [if_neg e, List.filter_cons, if_neg e]; rfl
section
variable {P : Program} {w : World} {K : PySem.W.Frag} {mg : Str → Option Value} {base : Heap}
def spStartAt (K : PySem.W.Frag) : Sp := fun vs H Q _ => ∃ p xs pl v ws, vs = [.ref p, v] ∧ SqT K H p xs ∧ NdsAt K H xs (nodesOf pl) ∧ plOk pl = true ∧ xs.length < 1000 ∧ PathV K H v ws ∧ Q (startV open2 pl ws) H
theorem ok_start_at {pW fA f : Addr} {fdA fd : FuncData} (F : Fun K "start_at" "start_at" s_start_at f fd) (WA : TupAt K mg "OPEN" pW open2) (C__start_along : Cal P w K mg base 3 "_start_along" fA fdA ["nodes", "path", "kinds"] (spAlong K)) :
    FnOk P w K mg base CX0 4 f fd ["nodes", "place"] (spStartAt K) := by
  refine F.ok sc_start_at (fun vs H Q E h => ?_) (fun cdv A outer s H vs Q E hr h => ?_)
  · obtain ⟨p, xs, pl, v, ws, rfl, _⟩ := h
    rfl
  · obtain ⟨p, xs, pl, v, ws, rfl, hS, hN, hok, hl, hP, q⟩ := h
    refine ⟨_, (pss_one (ps_ret (pe_call C__start_along.G hr (by rfl) C__start_along.m C__start_along.k C__start_along.b .nil pass0 (pa_cons (pv 0) (pa_cons (pv 1) (pa_cons (pe_glob (v := .ref pW) rfl WA.1 rfl) pa_nil)))))), ?_⟩
    exact ⟨_, rfl, _, rfl, p, xs, pl, v, ws, pW, open2, rfl, hS, hN, hok, hl, hP, WA.2 H, fun k hk => open2_node hk, q⟩
def spSurfOf (K : PySem.W.Frag) : Sp := fun vs H Q _ => ∃ p xs pl, vs = [.ref p] ∧ SqT K H p xs ∧ NdsAt K H xs (nodesOf pl) ∧ plOk pl = true ∧ xs.length < 1000 ∧ ∀ l us H', Same H H' → H l = none → H' l = some (.lst us) → FndAt K H' us (pathsK open2 pl) → Q (.ref l) H'
theorem ok_surface_of {pW fA f : Addr} {fdA fd : FuncData} (F : Fun K "surface_of" "surface_of" s_surface_of f fd) (WA : TupAt K mg "OPEN" pW open2) (C__paths_along : Cal P w K mg base 2 "_paths_along" fA fdA ["nodes", "kinds"] (spPathsAlong K)) :
    FnOk P w K mg base CX0 3 f fd ["nodes"] (spSurfOf K) := by
  refine F.ok sc_surface_of (fun vs H Q E h => ?_) (fun cdv A outer s H vs Q E hr h => ?_)
  · obtain ⟨p, xs, pl, rfl, _⟩ := h
    rfl
  · obtain ⟨p, xs, pl, rfl, hS, hN, hok, hl, q⟩ := h
    refine ⟨_, (pss_one (ps_ret (pe_call C__paths_along.G hr (by rfl) C__paths_along.m C__paths_along.k C__paths_along.b .nil pass0 (pa_cons (pv 0) (pa_cons (pe_glob (v := .ref pW) rfl WA.1 rfl) pa_nil))))), ?_⟩
    exact ⟨_, rfl, p, xs, pl, pW, open2, rfl, hS, hN, hok, hl, WA.2 H, fun k hk => open2_node hk, q⟩
/-- a tuple of the places of nodes of some kinds -/
def spPlacesIn (K : PySem.W.Frag) : Sp := fun vs H Q _ => ∃ p xs pl kp ks, vs = [.ref p, .ref kp] ∧ SqT K H p xs ∧ NdsAt K H xs (nodesOf pl) ∧ plOk pl = true ∧ xs.length < 1000 ∧ (∀ H', Same H H' → SqT K H' kp (ks.map V.str)) ∧
  ∀ r us H', Same H H' → H r = none → H' r = some (.tup us) → PthsAt K H' us (inK ks pl) → Q (.ref r) H'
theorem ok_places_in {fA f : Addr} {fdA fd : FuncData} (F : Fun K "places_in" "places_in" s_places_in f fd) (T : Txt mg) (C_surface_of : Cal P w K mg base 3 "surface_of" fA fdA ["nodes"] (spSurfOf K)) : FnOk P w K mg base CX0 4 f fd ["nodes", "kinds"] (spPlacesIn K) := by
  refine F.ok sc_places_in (fun vs H Q E h => ?_) (fun cdv A outer s H vs Q E hr h => ?_)
  · obtain ⟨p, xs, pl, kp, ks, rfl, _⟩ := h
    rfl
  · obtain ⟨p, xs, pl, kp, ks, rfl, hS, hN, hok, hl, hK, q⟩ := h
    refine ⟨_, (pss_one (ps_ret (pe_callTy call_tuple_of (by rfl) T.tuple_ (by decide +kernel) (pa_cons (pe_lc (own := [("place", 2), ("start", 3)]) (g := gTup K 2 (gCons (gName 2) (gCons (gName 3) gNil))) (by rfl) sc_places_in.nd (piL (K := K) rfl (pe_call C_surface_of.G hr (by rfl) C_surface_of.m C_surface_of.k C_surface_of.b .nil pass0 (pa_cons (pv 0) pa_nil))) (blkOk_by (by kernel_rfl))
      (fun _ _ _ _ _ => (pgT (K := K) rfl (by rfl) (pgs_cons (pg_name (i := 2) sc_places_in.nd rfl (.inl rfl)) (pgs_cons (pg_name (i := 3) sc_places_in.nd rfl (.inl rfl)) pgs_nil)))) (fun _ _ _ _ _ => (pts_one (pt_cmpR (inQ (K := K) rfl) (pe_ix (ixT (K := K) rfl) (pe_ix (ixT (K := K) rfl) (pv 0) (pv 3) (fun _ _ => rfl)) pe_int (fun _ _ => rfl)) (pv 1) (by rfl)))) (fun _ _ _ _ _ => (pv 2))) pa_nil)))), ?_⟩
    refine ⟨_, rfl, p, xs, pl, rfl, hS, hN, hok, hl, fun l us H1 s1 n1 e1 F1 => ?_⟩
    refine ⟨l, rfl, ⟨us, SqL.of e1⟩, fun D nD => ?_⟩
    have nDH : H D = none := s1.free nD
    have hul := F1.length
    have hpl := pathsK_len (ks := open2) pl
    have hx := hN.length
    have nlD : l ≠ D := ne_of_none e1 nD
    have hps := paths_subs hok
    have hlen := Paired.length hps
    refine lcLg (K := K) (a := l) (xs := us) (fun j acc H2 => Tk H1 H2 ∧ H2 l = some (.lst us) ∧ Same H H2 ∧ PthsAt K H2 acc ((((subsP pl).take j).filter fun y => ks.contains (kindPl y.2)).map (·.1))) ⟨Tk.new nD, by rw [upd_ne nlD]; exact e1, s1.trans (same_new nD), .nil⟩ (fun j acc H2 h => SqL.of h.2.1) ?_ ?_
    · rintro j x acc H2 hx2 hl2 e ⟨t2, el, s2, hP⟩
      obtain ⟨a, b, ns, o, rfl, hk, ha, hb⟩ := F1.get hx2
      have hj := (List.getElem?_eq_some_iff.mp hx2).1
      obtain ⟨⟨pa, z⟩, hz, e1', e2', rest, e3'⟩ := paired_at hps hk
      obtain ⟨c, k, u, hxa, hna, hc, more, hmore⟩ := head_at hN e3'
      have hS2 := (stk s2).seq hS
      have hc2 := (stk s2).seq hc
      have hkk : k = kindPl z := kind_head hmore
      refine ⟨a, _, rfl, t2.seq ha, rfl, _, _, rfl, _, _, rfl, rfl, rfl, ?_⟩
      refine ⟨_, rfl, _, rfl, p, xs, _, .ref c, rfl, rfl, hS2, atI_nat hxa, c, _, 0, .str k, rfl, rfl, hc2, rfl, _, rfl, kp, _, rfl, .inr (hK H2 s2), rfl, flat_strs _, _, rfl, ?_⟩
      rw [inV_strs, hkk]
      have stp := filter_snoc (fun y : List Nat × Pl => ks.contains (kindPl y.2)) hz
      cases ec : ks.contains (kindPl z) with
      | false =>
        rw [if_neg (by decide)]
        refine ⟨acc, by omega, e, t2, el, s2, ?_⟩
        rw [stp, if_neg (by rw [ec]; decide), List.append_nil]
        exact hP
      | true =>
        rw [if_neg (by decide)]
        refine iteT ⟨_, rfl, ?_⟩
        have kp := Tk.put (ys := acc ++ [V.ref b]) e
        refine LcK.mk hl2 (by omega) e ⟨t2.trans kp, by rw [upd_ne nlD]; exact el, fun b' o' eb => ?_, ?_⟩
        · rw [upd_ne (ne_of_none eb nDH)]
          exact s2 b' o' eb
        · rw [stp, if_pos ec, List.map_append]
          have e4 : ns = pa := e1'
          have := (hP.tk kp).snoc (kp.seq (t2.seq hb))
          rw [e4] at this
          exact this
    · rintro acc H2 hl2 e ⟨t2, el, s2, hP⟩
      rw [List.take_of_length_le (by omega)] at hP
      refine ⟨D, acc, rfl, .inl ⟨SqL.of e, fun r nr => ?_⟩⟩
      exact q r acc _ (s2.trans (same_new nr)) (s2.free nr) upd_same (hP.tk (Tk.new nr))
def spStartOfP (K : PySem.W.Frag) (CI : Addr) : Sp := fun vs H Q E => ∃ p xs pl v ws, vs = [.ref p, v] ∧ SqT K H p xs ∧ NdsAt K H xs (nodesOf pl) ∧ plOk pl = true ∧ xs.length < 1000 ∧ PathV K H v ws ∧
  (∀ o : Int, startV open2 pl ws = .int o → Q (.int o) H) ∧ (startV open2 pl ws = .non → E (.ref CI) none H)
theorem ok_start_ofP {CI fB f : Addr} {fdB fd : FuncData} (F : Fun K "_start_of" "_start_of" s__start_of f fd) (RI : ErrC K mg "InvalidPlace" CI) (C_start_at : Cal P w K mg base 4 "start_at" fB fdB ["nodes", "place"] (spStartAt K)) :
    FnOk P w K mg base (L2.CX P w) 5 f fd ["nodes", "place"] (spStartOfP K CI) := by
  refine F.okX sc__start_of (fun vs H Q E h => ?_) (fun cdv A outer s H vs Q E hr h => ?_)
  · obtain ⟨p, xs, pl, v, ws, rfl, _⟩ := h
    rfl
  · obtain ⟨p, xs, pl, v, ws, rfl, hS, hN, hok, hl, hP, q1, q2⟩ := h
    refine ⟨_, (pss_cons (ps_set (i := 2) sc__start_of.nd rfl (.inl rfl) (pe_call C_start_at.G hr (by rfl) C_start_at.m C_start_at.k C_start_at.b .nil pass0 (pa_cons (pv 0) (pa_cons (pv 1) pa_nil))))
      (pss_cons (ps_if (pt_cmpR op_isN (pv 2) pe_non (nomark _))
        (pss_one (ps_raise rfl (takes_of rfl rfl rfl rfl) (pmk_own PySem.F.excBase_ValueError RI.q RI.g RI.k (raises_own RI.b RI.t) rfl))) pss_nil)
      (pss_one (ps_ret (pv 2))))), ?_⟩
    refine ⟨_, rfl, _, rfl, p, xs, pl, v, ws, rfl, hS, hN, hok, hl, hP, ?_⟩
    refine ⟨_, rfl, rfl, _, rfl, ?_⟩
    rcases startV_cases open2 pl ws with h | ⟨zs, o, t, _, _, h⟩
    · rw [h]
      exact iteT' (decide_eq_true rfl) (q2 h)
    · rw [h]
      exact iteF' (decide_eq_false (fun z => nomatch z)) ⟨_, rfl, q1 _ h⟩
/-- the tuple of all places -/
def spSurface (K : PySem.W.Frag) (C CE : Addr) : Sp := fun vs H Q E => ∃ v, vs = [v] ∧ ((∃ a pl, v = .ref a ∧ PrG K C H a (nodesOf pl) ∧ plOk pl = true ∧ (nodesOf pl).length < 1000 ∧ ∀ r us H', Same H H' → H r = none → H' r = some (.tup us) → PthsAt K H' us ((subsP pl).map (·.1)) → Q (.ref r) H') ∨
  ∃ t, TyX K H v t ∧ PySem.W.kitOne K t (.ref C) = some false ∧ E (.ref CE) none H)
theorem ok_surface {C CE fI fL fC fS pN fN f : Addr} {fdC fdS fdN fd : FuncData} (F : Fun K "surface" "surface" s_surface f fd) (T : Txt mg) (PC : PromC K mg C fI fL)
    (GC : FnOk P w K mg base (L2.CX P w) 1 fC fdC ["value"] (spCheckP K C CE)) (mC : mg "check_promise" = some (.ref fC)) (kC : PySem.W.keepIn K (.ref fC) = true) (bC : Binds K fdC ["value"] [])
    (C_surface_of : Cal P w K mg base 3 "surface_of" fS fdS ["nodes"] (spSurfOf K)) (PN : PropC P w K mg base C "nodes" 1 (spNodesP K C) pN fN fdN) : FnOk P w K mg base (L2.CX P w) 4 f fd ["promise"] (spSurface K C CE) := by
  refine F.okX sc_surface (fun vs H Q E h => ?_) (fun cdv A outer s H vs Q E hr h => ?_)
  · obtain ⟨v, rfl, _⟩ := h
    rfl
  · obtain ⟨v, rfl, h⟩ := h
    have hr1 := hr.mono (j := 1) (by omega)
    have hr2 := hr.mono (j := 2) (by omega)
    refine ⟨_, (pss_cons (ps_expr (pe_callS GC hr1 (by rfl) mC kC bC (fun σ => passAt (takes_of rfl rfl rfl rfl) σ) (pa_cons (pv 0) pa_nil)))
      (pss_one (ps_ret (pe_callTy call_tuple_of (by rfl) T.tuple_ (by decide +kernel) (pa_cons (pe_lc (own := [("place", 1), ("_", 2)]) (g := gTup K 2 (gCons (gName 1) (gCons (gName 2) gNil))) (by rfl) sc_surface.nd (piL (K := K) rfl (pe_call C_surface_of.G hr (by rfl) C_surface_of.m C_surface_of.k C_surface_of.b .nil pass0 (pa_cons (pe_prop (pv 0) PC.cl PN.p PN.ok hr2 PN.b .nil pass0 rfl) pa_nil))) (blkOk_by (by kernel_rfl))
      (fun _ _ _ _ _ => (pgT (K := K) rfl (by rfl) (pgs_cons (pg_name (i := 1) sc_surface.nd rfl (.inl rfl)) (pgs_cons (pg_name (i := 2) sc_surface.nd rfl (.inl rfl)) pgs_nil)))) (fun _ _ _ _ _ => pts_nil) (fun _ _ _ _ _ => (pv 1))) pa_nil))))), ?_⟩
    rcases h with ⟨a, pl, rfl, pr, hok, hl, q⟩ | ⟨t, ht, hk, q⟩
    · obtain ⟨dx, p, xs, ea, hs, hN, g⟩ := id pr
      refine ⟨_, rfl, .ref a, rfl, .inl ⟨a, dx, _, rfl, ea, ?_⟩⟩
      refine ⟨_, rfl, a, dx, _, rfl, ea, a, dx, _, p, rfl, ea, rfl, ?_⟩
      refine ⟨p, xs, pl, rfl, hs, hN, hok, by rw [hN.length]; exact hl, fun l us H1 s1 n1 e1 F1 => ?_⟩
      refine ⟨l, rfl, ⟨us, SqL.of e1⟩, fun D nD => ?_⟩
      have nDH : H D = none := s1.free nD
      have hul := F1.length
      have hpl := pathsK_len (ks := open2) pl
      have nlD : l ≠ D := ne_of_none e1 nD
      refine lcLg (K := K) (a := l) (xs := us) (fun j acc H2 => Tk H1 H2 ∧ H2 l = some (.lst us) ∧ Same H H2 ∧ PthsAt K H2 acc (((pathsK open2 pl).map (·.1)).take j)) ⟨Tk.new nD, by rw [upd_ne nlD]; exact e1, s1.trans (same_new nD), .nil⟩ (fun j acc H2 h => SqL.of h.2.1) ?_ ?_
      · rintro j x acc H2 hx2 hl2 e ⟨t2, el, s2, hP⟩
        obtain ⟨a, b, ns, o, rfl, hk, ha, hb⟩ := F1.get hx2
        have hj := (List.getElem?_eq_some_iff.mp hx2).1
        refine ⟨a, _, rfl, t2.seq ha, rfl, _, _, rfl, _, _, rfl, rfl, rfl, yesT ⟨_, rfl, ?_⟩⟩
        have kp := Tk.put (ys := acc ++ [V.ref b]) e
        refine LcK.mk hl2 (by omega) e ⟨t2.trans kp, by rw [upd_ne nlD]; exact el, fun b' o' eb => ?_, ?_⟩
        · rw [upd_ne (ne_of_none eb nDH)]
          exact s2 b' o' eb
        · have hk2 : ((pathsK open2 pl).map (·.1))[j]? = some ns := by rw [List.getElem?_map, hk]; rfl
          rw [take_succ' hk2]
          exact (hP.tk kp).snoc (kp.seq (t2.seq hb))
      · rintro acc H2 hl2 e ⟨t2, el, s2, hP⟩
        rw [List.take_of_length_le (by rw [List.length_map]; omega), paths_fst hok] at hP
        refine ⟨D, acc, rfl, .inl ⟨SqL.of e, fun r nr => ?_⟩⟩
        exact q r acc _ (s2.trans (same_new nr)) (s2.free nr) upd_same (hP.tk (Tk.new nr))
    · exact ⟨_, rfl, v, rfl, .inr ⟨t, ht, hk, q⟩⟩
end
end Eh
set_option Elab.async false
set_option linter.all false
set_option maxRecDepth 100000
set_option maxHeartbeats 4000000
namespace Eh
open PySem PySem.Spec PyProof.Rows L2
section
variable {P : Program} {w : World} {K : PySem.W.Frag} {mg : Str → Option Value} {base : Heap}
def spPartAt (K : PySem.W.Frag) (C CI : Addr) : Sp := fun vs H Q E => ∃ a pl v ws, vs = [.ref a, v] ∧ PrG K C H a (nodesOf pl) ∧ plOk pl = true ∧ (nodesOf pl).length < 1000 ∧ PathV K H v ws ∧
  (∀ zs o q, ws = some zs → walkV open2 pl zs = some (o, q) → okB (nodesOf q) = true ∧ ∀ x H', Same H H' → H x = none → PrG K C H' x (nodesOf q) → Q (.ref x) H') ∧ (startV open2 pl ws = .non → E (.ref CI) none H)
theorem ok_part_at {C CE CI fI fL fK fS fP pN fN f : Addr} {fdK fdI fdS fdP fdN fd : FuncData} (F : Fun K "part_at" "part_at" s_part_at f fd) (PC : PromC K mg C fI fL)
    (GK : FnOk P w K mg base (L2.CX P w) 1 fK fdK ["value"] (spCheckP K C CE)) (mK : mg "check_promise" = some (.ref fK)) (kK : PySem.W.keepIn K (.ref fK) = true) (bK : Binds K fdK ["value"] [])
    (GS : FnOk P w K mg base (L2.CX P w) 5 fS fdS ["nodes", "place"] (spStartOfP K CI)) (mS : mg "_start_of" = some (.ref fS)) (kS : PySem.W.keepIn K (.ref fS) = true) (bS : Binds K fdS ["nodes", "place"] [])
    (C_part_from : Cal P w K mg base 2 "part_from" fP fdP ["nodes", "start"] (spPartFrom K)) (PN : PropC P w K mg base C "nodes" 1 (spNodesP K C) pN fN fdN)
    (GI : FnOk P w K mg base (L2.CX P w) 4 fI fdI ["self", "nodes"] (spInitE K C CE)) (bI : Binds K fdI ["self", "nodes"] []) : FnOk P w K mg base (L2.CX P w) 6 f fd ["promise", "place"] (spPartAt K C CI) := by
  refine F.okX sc_part_at (fun vs H Q E h => ?_) (fun cdv A outer s H vs Q E hr h => ?_)
  · obtain ⟨a, pl, v, ws, rfl, _⟩ := h
    rfl
  · obtain ⟨a, pl, v, ws, rfl, pr, hok, hl, hP, q1, q2⟩ := h
    obtain ⟨dx, p, xs, ea, hs, hN, g⟩ := id pr
    have hr2 := hr.mono (j := 2) (by omega)
    have hr1 := hr.mono (j := 1) (by omega)
    refine ⟨_, (pss_cons (ps_expr (pe_callS GK hr1 (by rfl) mK kK bK (fun σ => passAt (takes_of rfl rfl rfl rfl) σ) (pa_cons (pv 0) pa_nil)))
      (pss_one (ps_ret (pe_makeS PC.mkC GI hr (by rfl) PC.g bI (fun σ => passAt (takes_of rfl rfl rfl rfl) σ) (pa_cons (pe_call C_part_from.G hr2 (by rfl) C_part_from.m C_part_from.k C_part_from.b .nil pass0 (pa_cons (pe_prop (pv 0) PC.cl PN.p PN.ok hr2 PN.b .nil pass0 rfl) (pa_cons (pe_callS GS hr (by rfl) mS kS bS (fun σ => passAt (takes_of rfl rfl rfl rfl) σ) (pa_cons (pe_prop (pv 0) PC.cl PN.p PN.ok hr2 PN.b .nil pass0 rfl) (pa_cons (pv 1) pa_nil))) pa_nil))) pa_nil))))), ?_⟩
    refine ⟨_, rfl, .ref a, rfl, .inl ⟨a, dx, _, rfl, ea, ?_⟩⟩
    refine ⟨_, rfl, a, dx, _, rfl, ea, a, dx, _, p, rfl, ea, rfl, ?_⟩
    refine ⟨_, rfl, a, dx, _, rfl, ea, a, dx, _, p, rfl, ea, rfl, _, rfl, ?_⟩
    refine ⟨p, xs, pl, v, ws, rfl, hs, hN, hok, by rw [hN.length]; exact hl, hP, fun o eo => ?_, q2⟩
    rcases startV_cases open2 pl ws with h | ⟨zs, o', t, ews, ewk, h⟩
    · rw [eo] at h
      cases h
    rw [eo] at h
    cases h
    obtain ⟨rest, hd, hokt⟩ := walk_drop hok ewk
    obtain ⟨okt, q⟩ := q1 zs o' t ews ewk
    have gt : GoodN (nodesOf t) := good_sub g (drop_pre hd)
    refine ⟨p, xs, nodesOf pl, o', t, rest, rfl, hs, hN, by rw [hN.length]; exact hl, hd, hokt, fun r ys H1 s1 hr1 N1 => ?_⟩
    refine fun x dx nx nd ne => ?_
    exact makeS_steps nx nd hr1 N1 gt (fun _ H4 s4 pr4 => q x H4 (s1.trans s4) (s1.free nx) pr4) fun z => by rw [okt] at z; cases z
def spReplaced (K : PySem.W.Frag) (C CE CI : Addr) : Sp := fun vs H Q E => ∃ a b pl ms v ws, vs = [.ref a, v, .ref b] ∧ PrG K C H a (nodesOf pl) ∧ plOk pl = true ∧ (nodesOf pl).length < 1000 ∧ PrG K C H b ms ∧ ms.length < 1000 ∧ PathV K H v ws ∧
  (∀ zs o q rest, ws = some zs → walkV open2 pl zs = some (o, q) → (nodesOf pl).drop o = nodesOf q ++ rest →
    (okB ((nodesOf pl).take o ++ (ms ++ rest)) = true → ∀ x H', Same H H' → H x = none → PrG K C H' x ((nodesOf pl).take o ++ (ms ++ rest)) → Q (.ref x) H') ∧ (okB ((nodesOf pl).take o ++ (ms ++ rest)) = false → ∀ H', Same H H' → E (.ref CE) none H')) ∧
  (startV open2 pl ws = .non → E (.ref CI) none H)
theorem ok_replaced {C CE CI fI fL fK fS fX pN fN f : Addr} {fdK fdI fdS fdX fdN fd : FuncData} (F : Fun K "replaced" "replaced" s_replaced f fd) (T : Txt mg) (PC : PromC K mg C fI fL) (IC : IsC K C)
    (GK : FnOk P w K mg base (L2.CX P w) 1 fK fdK ["value"] (spCheckP K C CE)) (mK : mg "check_promise" = some (.ref fK)) (kK : PySem.W.keepIn K (.ref fK) = true) (bK : Binds K fdK ["value"] [])
    (GS : FnOk P w K mg base (L2.CX P w) 5 fS fdS ["nodes", "place"] (spStartOfP K CI)) (mS : mg "_start_of" = some (.ref fS)) (kS : PySem.W.keepIn K (.ref fS) = true) (bS : Binds K fdS ["nodes", "place"] [])
    (C_exchanged_from : Cal P w K mg base 2 "exchanged_from" fX fdX ["nodes", "start", "other"] (spExFrom K)) (PN : PropC P w K mg base C "nodes" 1 (spNodesP K C) pN fN fdN)
    (GI : FnOk P w K mg base (L2.CX P w) 4 fI fdI ["self", "nodes"] (spInitE K C CE)) (bI : Binds K fdI ["self", "nodes"] []) : FnOk P w K mg base (L2.CX P w) 6 f fd ["promise", "place", "other"] (spReplaced K C CE CI) := by
  refine F.okX sc_replaced (fun vs H Q E h => ?_) (fun cdv A outer s H vs Q E hr h => ?_)
  · obtain ⟨a, b, pl, ms, v, ws, rfl, _⟩ := h
    rfl
  · obtain ⟨a, b, pl, ms, v, ws, rfl, pr, hok, hl, pr2, hl2, hP, q1, q2⟩ := h
    obtain ⟨dx, p, xs, ea, hs, hN, g⟩ := id pr
    obtain ⟨dx2, p2, xs2, eb, hs2, hN2, g2⟩ := id pr2
    have hr2 := hr.mono (j := 2) (by omega)
    have hr1 := hr.mono (j := 1) (by omega)
    refine ⟨_, (pss_cons (ps_expr (pe_callS GK hr1 (by rfl) mK kK bK (fun σ => passAt (takes_of rfl rfl rfl rfl) σ) (pa_cons (pv 0) pa_nil)))
      (pss_cons (ps_set (i := 3) sc_replaced.nd rfl (.inl rfl) (pe_callS GS hr (by rfl) mS kS bS (fun σ => passAt (takes_of rfl rfl rfl rfl) σ) (pa_cons (pe_prop (pv 0) PC.cl PN.p PN.ok hr2 PN.b .nil pass0 rfl) (pa_cons (pv 1) pa_nil))))
      (pss_cons (ps_if (pt_not (pt_val (pe_callB (isiQ (K := K) rfl) (by rfl) T.isinstance_ (by decide +kernel) (pa_cons (pv 2) (pa_cons (pe_glob (v := .ref C) rfl PC.g rfl) pa_nil)))))
        (pss_one ps_never) pss_nil)
      (pss_one (ps_ret (pe_makeS PC.mkC GI hr (by rfl) PC.g bI (fun σ => passAt (takes_of rfl rfl rfl rfl) σ) (pa_cons (pe_call C_exchanged_from.G hr2 (by rfl) C_exchanged_from.m C_exchanged_from.k C_exchanged_from.b .nil pass0 (pa_cons (pe_prop (pv 0) PC.cl PN.p PN.ok hr2 PN.b .nil pass0 rfl) (pa_cons (pv 3) (pa_cons (pe_prop (pv 2) PC.cl PN.p PN.ok hr2 PN.b .nil pass0 rfl) pa_nil)))) pa_nil))))))), ?_⟩
    refine ⟨_, rfl, .ref a, rfl, .inl ⟨a, dx, _, rfl, ea, ?_⟩⟩
    refine ⟨_, rfl, a, dx, _, rfl, ea, a, dx, _, p, rfl, ea, rfl, _, rfl, ?_⟩
    refine ⟨p, xs, pl, v, ws, rfl, hs, hN, hok, by rw [hN.length]; exact hl, hP, fun o eo => ?_, q2⟩
    rcases startV_cases open2 pl ws with h | ⟨zs, o', t, ews, ewk, h⟩
    · rw [eo] at h
      cases h
    rw [eo] at h
    cases h
    obtain ⟨rest, hd, hokt⟩ := walk_drop hok ewk
    obtain ⟨q3, q4⟩ := q1 zs o' t rest ews ewk hd
    refine ⟨_, rfl, .ref b, .ref C, .ref C, .ref C, true, rfl, .own _, .base (.ins eb PC.cl IC.cls IC.sp IC.tk IC.mro), IC.self, _, rfl, iteF ?_⟩
    refine ⟨_, rfl, a, dx, _, rfl, ea, a, dx, _, p, rfl, ea, rfl, _, rfl, _, rfl, b, dx2, _, rfl, eb, b, dx2, _, p2, rfl, eb, rfl, ?_⟩
    refine ⟨p, p2, xs, xs2, nodesOf pl, ms, o', t, rest, rfl, hs, hN, by rw [hN.length]; exact hl, hs2, hN2, by rw [hN2.length]; exact hl2, hd, hokt, fun r us H1 s1 h1 N1 => ?_⟩
    refine fun x dx nx nd ne => ?_
    exact makeS_steps nx nd h1 N1 (good_ex g g2 hd) (fun ek H4 s4 pr4 => q3 ek x H4 (s1.trans s4) (s1.free nx) pr4) fun z H4 s4 => q4 z H4 (s1.trans s4)
end
end Eh
set_option Elab.async false
set_option linter.all false
set_option maxRecDepth 100000
set_option maxHeartbeats 4000000
namespace Eh
open PySem PySem.Spec PyProof.Rows L2
/-- the class Surface -/
structure SurC (K : PySem.W.Frag) (mg : Str → Option Value) (C fI : Addr) : Prop where
  g : mg "Surface" = some (.ref C)
  mkC : Mk K C fI
  cl : Cls K C
  np : NoAttr K C "_places"
  nq : NoAttr K C "_promise"
/-- a surface of a promise -/
def SfAt (K : PySem.W.Frag) (C CS : Addr) (H : Hp) (a b : Addr) (pl : Pl) : Prop := ∃ dx t us, H a = some (.ins CS dx [(("_places" : Str), .ref t), (("_promise" : Str), .ref b)]) ∧ SqT K H t us ∧ PthsAt K H us ((subsP pl).map (·.1)) ∧ PrG K C H b (nodesOf pl)
theorem SfAt.sm {K : PySem.W.Frag} {C CS a b : Addr} {H H' : Hp} {pl : Pl} (h : SfAt K C CS H a b pl) (s : Same H H') : SfAt K C CS H' a b pl := by
  obtain ⟨dx, t, us, e, hs, hP, pr⟩ := h
  exact ⟨dx, t, us, s _ _ e, (stk s).seq hs, hP.tk (stk s), pr.sm s⟩
section
variable {P : Program} {w : World} {K : PySem.W.Frag} {mg : Str → Option Value} {base : Heap}
def spSInit (K : PySem.W.Frag) (C CS : Addr) : Sp := fun vs H Q _ => ∃ x dx b pl, vs = [.ref x, .ref b] ∧ H x = some (.ins CS dx []) ∧ PrG K C H b (nodesOf pl) ∧ plOk pl = true ∧ (nodesOf pl).length < 1000 ∧
  ∀ H', But x H H' → SfAt K C CS H' x b pl → Q .non H'
theorem ok_sInit {C CE CS fI fL fS f : Addr} {fdS fd : FuncData} (F : Fun K "__init__" "Surface.__init__" s_Surface___init__ f fd) (SC : SurC K mg CS f)
    (GS : FnOk P w K mg base (L2.CX P w) 4 fS fdS ["promise"] (spSurface K C CE)) (mS : mg "surface" = some (.ref fS)) (kS : PySem.W.keepIn K (.ref fS) = true) (bS : Binds K fdS ["promise"] []) :
    FnOk P w K mg base (L2.CX P w) 5 f fd ["self", "promise"] (spSInit K C CS) := by
  refine F.okX sc_Surface___init__ (fun vs H Q E h => ?_) (fun cdv A outer s H vs Q E hr h => ?_)
  · obtain ⟨x, dx, b, pl, rfl, _⟩ := h
    rfl
  · obtain ⟨x, dx, b, pl, rfl, ex, pr, hok, hl, q⟩ := h
    refine ⟨_, (pss_cons (ps_fld (pv 0) (pe_callS GS hr (by rfl) mS kS bS (fun σ => passAt (takes_of rfl rfl rfl rfl) σ) (pa_cons (pv 1) pa_nil)) rfl)
      (pss_one (ps_fld (pv 0) (pv 1) rfl))), ?_⟩
    refine ⟨_, rfl, .ref b, rfl, .inl ⟨b, pl, rfl, pr, hok, hl, fun r us H1 s1 nr e1 hP => ?_⟩⟩
    have ex1 := s1 _ _ ex
    have pr1 := pr.sm s1
    have bt1 : But x H H1 := fun c o _ e => s1 c o e
    have nrx : r ≠ x := ne_of_none (o := .ins CS dx []) ex nr |>.symm
    refine ⟨_, rfl, x, CS, dx, [], rfl, ex1, SC.cl, SC.np, by decide, ?_⟩
    refine ⟨_, rfl, _, rfl, x, CS, dx, [(("_places" : Str), .ref r)], rfl, upd_same, SC.cl, SC.nq, (show (1 : Nat) < 1000 by decide), ?_⟩
    have kp : ∀ c o, c ≠ x → H1 c = some o → (upd (upd H1 x (.ins CS dx [(("_places" : Str), .ref r)])) x (.ins CS dx [(("_places" : Str), .ref r), (("_promise" : Str), .ref b)])) c = some o := fun c o n e => by
      rw [upd_ne n, upd_ne n]
      exact e
    have tk : Tk H1 (upd (upd H1 x (.ins CS dx [(("_places" : Str), .ref r)])) x (.ins CS dx [(("_places" : Str), .ref r), (("_promise" : Str), .ref b)])) := fun c ys h => by
      have n : c ≠ x := fun z => by
        rw [z] at h
        rcases h with h | ⟨o, h⟩
        · rw [ex1] at h; cases h
        · rw [ex1] at h; cases h
      rcases h with h | ⟨o, h⟩
      · exact .inl (kp c _ n h)
      · exact .inr ⟨o, kp c _ n h⟩
    refine q (upd (upd H1 x (.ins CS dx [(("_places" : Str), .ref r)])) x (.ins CS dx [(("_places" : Str), .ref r), (("_promise" : Str), .ref b)])) (fun c o n e => kp c o n (s1 _ _ e)) ⟨dx, r, us, upd_same, tk.seq (SqT.of e1), hP.tk tk, ?_⟩
    obtain ⟨dy, p, xs, eb, hs, hN, g⟩ := pr1
    have nbx : b ≠ x := fun z => by
      rw [z, ex1] at eb
      cases eb
    exact ⟨dy, p, xs, kp _ _ nbx eb, tk.seq hs, hN.tk tk, g⟩
def spSOver (K : PySem.W.Frag) (C CS : Addr) : Sp := fun vs H Q _ => ∃ a b pl, vs = [.ref a] ∧ SfAt K C CS H a b pl ∧ plOk pl = true ∧ (nodesOf pl).length < 1000 ∧ ∀ H', Same H H' → Q (.bl (decide ((inK ["mine", "yours"] pl).length = 0))) H'
theorem ok_sOver {C CS fI fL fI2 fP pN fN f : Addr} {fdP fdN fd : FuncData} (F : Fun K "is_over" "Surface.is_over" s_Surface_is_over f fd) (T : Txt mg) (PC : PromC K mg C fI fL) (SC : SurC K mg CS fI2) (C_places_in : Cal P w K mg base 4 "places_in" fP fdP ["nodes", "kinds"] (spPlacesIn K)) (PN : PropC P w K mg base C "nodes" 1 (spNodesP K C) pN fN fdN) :
    FnOk P w K mg base CX0 5 f fd ["self"] (spSOver K C CS) := by
  refine F.ok sc_Surface_is_over (fun vs H Q E h => ?_) (fun cdv A outer s H vs Q E hr h => ?_)
  · obtain ⟨a, b, pl, rfl, _⟩ := h
    rfl
  · obtain ⟨a, b, pl, rfl, ⟨dx, t, us, ea, hs, hP, pr⟩, hok, hl, q⟩ := h
    obtain ⟨dy, p, xs, eb, hs2, hN, g⟩ := id pr
    have hr2 := hr.mono (j := 2) (by omega)
    refine ⟨_, (pss_one (ps_ret (pe_cmpR op_eq (pe_callB (lenQ (K := K) rfl) (by rfl) T.len_ (by decide +kernel) (pa_cons (pe_call C_places_in.G hr (by rfl) C_places_in.m C_places_in.k C_places_in.b .nil pass0 (pa_cons (pe_prop (pe_fld (pv 0) rfl) PC.cl PN.p PN.ok hr2 PN.b .nil pass0 rfl) (pa_cons (pe_tup (pa_cons pe_str (pa_cons pe_str pa_nil))) pa_nil))) pa_nil)) pe_int (nomark _)))), ?_⟩
    refine ⟨_, rfl, a, CS, dx, _, .ref b, rfl, ea, SC.cl, SC.nq, rfl, b, dy, _, rfl, eb, b, dy, _, p, rfl, eb, rfl, lenOk 2, fun kp nk => ?_⟩
    have s1 : Same H (upd H kp (.tup [.str "mine", .str "yours"])) := same_new nk
    refine ⟨p, xs, pl, kp, ["mine", "yours"], rfl, (stk s1).seq hs2, hN.tk (stk s1), hok, by rw [hN.length]; exact hl, fun H' s' => (stk s').seq (SqT.of upd_same), fun r us H' s' nr er hu => ?_⟩
    refine .inl ⟨r, us, rfl, .inr (SqT.of er), rfl, ?_⟩
    have := q H' (s1.trans s')
    show Q (.bl (decide (V.int (us.length : Int) = V.int 0))) H'
    rw [show decide (V.int (us.length : Int) = V.int 0) = decide ((inK ["mine", "yours"] pl).length = 0) from decide_eq_decide.mpr ⟨fun z => by injection z with z; have := hu.length; omega, fun z => by have := hu.length; rw [show us.length = 0 by omega]; rfl⟩]
    exact this
end
end Eh
set_option Elab.async false
set_option linter.all false
set_option maxRecDepth 100000
set_option maxHeartbeats 4000000
namespace Eh
open PySem PySem.Spec PyProof.Rows L2
def hands2 : List Str := ["caller", "keeper"]
/-- the kind of the choices of a hand -/
def choiceOf (h : Str) : Str := if h = "caller" then "yours" else "mine"
structure CalledAt (K : PySem.W.Frag) (w : World) (mg : Str → Option Value) (p : Addr) : Prop where
  g : mg "CALLED" = some (.ref p)
  c : KDct K w p "caller" (.str "yours")
  k : KDct K w p "keeper" (.str "mine")
/-- what a value is as a call -/
inductive CallV (K : PySem.W.Frag) (H : Hp) : V → Option (Option (List V) × V) → Prop
  | other {v : V} : NoT H v → CallV K H v none
  | len {t : Addr} {zs : List V} : SqT K H t zs → zs.length ≠ 2 → CallV K H (.ref t) none
  | pair {t : Addr} {p i : V} {ws : Option (List V)} : SqT K H t [p, i] → PathV K H p ws → KindI K H i → CallV K H (.ref t) (some (ws, i))
def handAt : Pl → V → V
  | .leaf _ _, _ => .non
  | .node k ps, i => if idxV i (ps.length : Int) = true then (if k = "yours" then .str "caller" else if k = "mine" then .str "keeper" else .non) else .non
/-- the hand that can make a call, or None -/
def handPl (pl : Pl) : Option (Option (List V) × V) → V
  | some (some zs, i) => match walkV open2 pl zs with
    | some y => handAt y.2 i
    | none => .non
  | _ => .non
theorem handAt_node {k : Str} {ps : List Pl} {i : V} : handAt (.node k ps) i = if idxV i (ps.length : Int) = true then (if k = "yours" then .str "caller" else if k = "mine" then .str "keeper" else .non) else .non := rfl
theorem handPl_none {pl : Pl} {zs : List V} {i : V} (h : walkV open2 pl zs = none) : handPl pl (some (some zs, i)) = .non := by
  show (match walkV open2 pl zs with | some y => handAt y.2 i | none => V.non) = _
  rw [h]
theorem handPl_some {pl q : Pl} {zs : List V} {i : V} {o : Nat} (h : walkV open2 pl zs = some (o, q)) : handPl pl (some (some zs, i)) = handAt q i := by
  show (match walkV open2 pl zs with | some y => handAt y.2 i | none => V.non) = _
  rw [h]
theorem handPl_non {pl : Pl} {ws : Option (List V)} {i : V} (h : startV open2 pl ws = .non) : handPl pl (some (ws, i)) = .non := by
  cases ws with
  | none => rfl
  | some zs =>
    cases hw : walkV open2 pl zs with
    | none => exact handPl_none hw
    | some y =>
      obtain ⟨o, q⟩ := y
      rw [startV_some hw] at h
      cases h
theorem leaf_no {k : Str} {u : V} (h : plOk (.leaf k u) = true) : k ≠ "yours" ∧ k ≠ "mine" := by
  rw [plOk] at h
  constructor <;> (intro e; subst e; revert h; simp only [Bool.not_eq_true'] ; decide +kernel)
section
variable {P : Program} {w : World} {K : PySem.W.Frag} {mg : Str → Option Value} {base : Heap}
def spHandIn (K : PySem.W.Frag) : Sp := fun vs H Q _ => ∃ p xs pl v c, vs = [.ref p, v] ∧ SqT K H p xs ∧ NdsAt K H xs (nodesOf pl) ∧ plOk pl = true ∧ xs.length < 1000 ∧ CallV K H v c ∧ Q (handPl pl c) H
theorem ok_hand_in {pH pC fA fI f : Addr} {fdA fdI fd : FuncData} (F : Fun K "hand_in" "hand_in" s_hand_in f fd) (T : Txt mg) (HA : TupAt K mg "HANDS" pH hands2) (CA : CalledAt K w mg pC)
    (C_start_at : Cal P w K mg base 4 "start_at" fA fdA ["nodes", "place"] (spStartAt K)) (C_is_index : Cal P w K mg base 2 "is_index" fI fdI ["value", "many"] (spIndex K)) :
    FnOk P w K mg base CX0 5 f fd ["nodes", "value"] (spHandIn K) := by
  refine F.ok sc_hand_in (fun vs H Q E h => ?_) (fun cdv A outer s H vs Q E hr h => ?_)
  · obtain ⟨p, xs, pl, v, c, rfl, _⟩ := h
    rfl
  · obtain ⟨p, xs, pl, v, c, rfl, hS, hN, hok, hl, hV, q⟩ := h
    have hr2 := hr.mono (j := 2) (by omega)
    refine ⟨_, (pss_cons (ps_if (PW.pt (pw_or (pt_not (pt_val (pe_callB (isiQ (K := K) rfl) (by rfl) T.isinstance_ (by decide +kernel) (pa_cons (pv 1) (pa_cons (pe_bltn (v := .ty "tuple") (by rfl) T.tuple_ (by decide +kernel) rfl) pa_nil))))) (pw_or1 (pt_cmpR op_ne (pe_callB (lenQ (K := K) rfl) (by rfl) T.len_ (by decide +kernel) (pa_cons (pv 1) pa_nil)) pe_int (nomark _)))))
  (pss_one (ps_ret pe_non))
  pss_nil)
  (pss_cons (ps_asg (pv 1) (pg_tup (by rfl) (pgs_cons (pg_name (i := 2) sc_hand_in.nd rfl (.inl rfl)) (pgs_cons (pg_name (i := 3) sc_hand_in.nd rfl (.inl rfl)) pgs_nil))))
  (pss_cons (ps_set (i := 4) sc_hand_in.nd rfl (.inl rfl) (pe_call C_start_at.G hr (by rfl) C_start_at.m C_start_at.k C_start_at.b .nil pass0 (pa_cons (pv 0) (pa_cons (pv 2) pa_nil))))
  (pss_cons (ps_if (pt_cmpR op_isN (pv 4) pe_non (nomark _))
  (pss_one (ps_ret pe_non))
  pss_nil)
  (pss_cons (ps_asg (pe_ix (ixT (K := K) rfl) (pv 0) (pv 4) (fun _ _ => rfl)) (pg_tup (by rfl) (pgs_cons (pg_name (i := 5) sc_hand_in.nd rfl (.inl rfl)) (pgs_cons (pg_name (i := 6) sc_hand_in.nd rfl (.inl rfl)) pgs_nil))))
  (pss_cons (ps_for PassesOwn.never (by rfl) (pi_tup (pe_glob (v := .ref pH) rfl HA.1 rfl)) (pg_name (i := 7) sc_hand_in.nd rfl (.inl rfl))
  (pss_one (ps_if (PW.pt (pw_and (pt_cmpR op_eq (pv 5) (pe_ix (ixKd (K := K) (w := w) rfl rfl) (pe_glob (v := .ref pC) rfl CA.g rfl) (pv 7) (fun _ _ => rfl)) (nomark _)) (pw_and1 (pt_val (pe_call C_is_index.G hr2 (by rfl) C_is_index.m C_is_index.k C_is_index.b .nil pass0 (pa_cons (pv 3) (pa_cons (pv 6) pa_nil)))))))
  (pss_one (ps_ret (pv 7)))
  pss_nil)))
  (pss_one (ps_ret pe_non)))))))), ?_⟩
    cases hV with
    | other hno =>
      obtain ⟨u, ty, hk⟩ := hno.ty (K := K)
      exact ⟨_, rfl, v, .ty "tuple", _, .type "tuple", false, rfl, .ty _, ty, hk, _, rfl, iteT (iteT q)⟩
    | len hs hne =>
      rename_i t zs
      refine ⟨_, rfl, .ref t, .ty "tuple", _, .type "tuple", true, rfl, .ty _, ty_tup hs, kitTT, _, rfl, iteF ?_⟩
      refine ⟨_, rfl, .inl ⟨t, zs, rfl, .inr hs, ?_⟩⟩
      exact ⟨rfl, _, rfl, iteT' (by rw [show decide (V.int (zs.length : Int) = V.int 2) = false from decide_eq_false fun z => hne (by injection z with z; omega)]; rfl) q⟩
    | pair hs hp hi =>
      rename_i t pp i ws
      refine ⟨_, rfl, .ref t, .ty "tuple", _, .type "tuple", true, rfl, .ty _, ty_tup hs, kitTT, _, rfl, iteF ?_⟩
      refine ⟨_, rfl, .inl ⟨t, _, rfl, .inr hs, rfl, _, rfl, iteF' rfl ?_⟩⟩
      refine ⟨_, rfl, t, _, rfl, hs, rfl, _, _, rfl, _, _, rfl, rfl, ?_⟩
      refine ⟨_, rfl, _, rfl, p, xs, pl, pp, ws, rfl, hS, hN, hok, hl, hp, ?_⟩
      refine ⟨_, rfl, rfl, _, rfl, ?_⟩
      rcases startV_cases open2 pl ws with h | ⟨zs, o, t1, rfl, hw, h⟩
      · rw [h]
        refine iteT' (decide_eq_true rfl) ?_
        have := handPl_non (i := i) h
        rw [this] at q
        exact q
      · rw [h]
        refine iteF' (decide_eq_false (fun z => nomatch z)) ?_
        obtain ⟨rest, hd, hokt⟩ := walk_drop hok hw
        obtain ⟨a, k, u, hxa, hna, ha, more, hmore⟩ := head_at hN hd
        have e0 := handPl_some (i := i) hw
        rw [e0] at q
        refine ⟨_, rfl, _, rfl, p, xs, _, .ref a, rfl, rfl, hS, atI_nat hxa, ?_⟩
        refine ⟨a, _, rfl, ha, rfl, _, _, rfl, _, _, rfl, rfl, ?_⟩
        refine ⟨_, rfl, ⟨_, HA.2 H⟩, for_tup (xs := hands2.map V.str) (fun j σ H2 => H2 = H ∧ (∃ x7, σ = [some (.ref p), some (.ref t), some pp, some i, some (.int (o : Int)), some (.str k), some u, x7]) ∧ (1 ≤ j → k = "yours" → handAt t1 i = .non) ∧ (2 ≤ j → k = "mine" → handAt t1 i = .non)) ?_ (fun j σ H2 _ h => HA.2 H2) ?_ ?_⟩
        · exact ⟨rfl, ⟨_, rfl⟩, fun z => absurd z (by decide), fun z => absurd z (by decide)⟩
        · rintro j x σ H2 hx ⟨rfl, ⟨x7, rfl⟩, f1, f2⟩
          obtain ⟨hd, kd, ex, hk, hkd, hyes, hn1, hn2⟩ : ∃ (hd kd : Str), x = .str hd ∧ KDct K w pC hd (.str kd) ∧ (kd = "yours" ∨ kd = "mine") ∧ (∀ (kk : Str) (qs : List Pl), t1 = .node kk qs → kk = kd → idxV i (qs.length : Int) = true → handAt t1 i = .str hd) ∧
              (k = kd → handAt t1 i = .non → (1 ≤ j + 1 → k = "yours" → handAt t1 i = .non) ∧ (2 ≤ j + 1 → k = "mine" → handAt t1 i = .non)) ∧
              (k ≠ kd → (1 ≤ j + 1 → k = "yours" → handAt t1 i = .non) ∧ (2 ≤ j + 1 → k = "mine" → handAt t1 i = .non)) := by
            match j, hx with
            | 0, hx =>
              refine ⟨"caller", "yours", ?_, CA.c, .inl rfl, (fun kk qs e ek ei => ?_), (fun ek hno => ⟨fun _ _ => hno, fun z => absurd z (by decide)⟩), (fun ek => ⟨fun _ z => absurd z ek, fun z => absurd z (by decide)⟩)⟩
              · exact (Option.some.inj hx).symm
              · rw [e, handAt_node, if_pos ei, if_pos ek]
            | 1, hx =>
              refine ⟨"keeper", "mine", ?_, CA.k, .inr rfl, (fun kk qs e ek ei => ?_), (fun ek hno => ⟨fun _ _ => hno, fun _ _ => hno⟩), (fun ek => ⟨fun _ => f1 (by decide), fun _ z => absurd z ek⟩)⟩
              · exact (Option.some.inj hx).symm
              · rw [e, handAt_node, if_pos ei, ek, if_neg (by decide +kernel), if_pos rfl]
            | j + 2, hx => exact absurd hx (by unfold hands2; simp)
          subst ex
          refine ⟨_, rfl, _, rfl, pC, hd, _, rfl, rfl, hk, rfl, _, rfl, ?_⟩
          by_cases ek : k = kd
          · refine iteT' (decide_eq_true (by rw [ek])) ?_
            cases t1 with
            | leaf k1 u1 =>
              rw [nodesOf] at hmore
              cases hmore
              obtain ⟨n1, n2⟩ := leaf_no hokt
              rcases hkd with e | e
              · exact absurd (ek.trans e) n1
              · exact absurd (ek.trans e) n2
            | node k1 ps =>
              rw [nodesOf] at hmore
              cases hmore
              refine ⟨_, rfl, _, rfl, i, _, rfl, hi, _, rfl, ?_⟩
              cases ei : idxV i (ps.length : Int) with
              | true =>
                refine iteT ⟨_, rfl, ?_⟩
                rw [hyes _ _ rfl ek ei] at q
                exact q
              | false =>
                have hno : handAt (.node k ps) i = .non := by
                  rw [handAt_node, ei, if_neg (by decide)]
                exact iteF ⟨rfl, ⟨_, rfl⟩, hn1 ek hno⟩
          · exact iteF' (decide_eq_false fun z => ek (by injection z)) ⟨rfl, ⟨_, rfl⟩, hn2 ek⟩
        · rintro σ H2 ⟨rfl, ⟨x7, rfl⟩, f1, f2⟩
          have hno : handAt t1 i = .non := by
            by_cases e1 : k = "yours"
            · exact f1 (by decide) e1
            · by_cases e2 : k = "mine"
              · exact f2 (by decide) e2
              · cases t1 with
                | leaf k1 u1 => rfl
                | node k1 ps =>
                  rw [nodesOf] at hmore
                  cases hmore
                  rw [handAt_node, if_neg e1, if_neg e2, ite_self]
          rw [hno] at q
          exact q
/-- what comes of a call -/
def spCalledIn (K : PySem.W.Frag) : Sp := fun vs H Q _ => ∃ p xs pl t pp i zs o k ps rest, vs = [.ref p, .ref t] ∧ SqT K H p xs ∧ NdsAt K H xs (nodesOf pl) ∧ plOk pl = true ∧ xs.length < 1000 ∧ SqT K H t [pp, .int (i : Nat)] ∧ PathV K H pp (some zs) ∧ walkV open2 pl zs = some (o, .node k ps) ∧ (nodesOf pl).drop o = nodesOf (.node k ps) ++ rest ∧ ∃ q, ps[i]? = some q ∧
  ∀ r us H', Same H H' → SqT K H' r us → NdsAt K H' us ((nodesOf pl).take o ++ (nodesOf q ++ rest)) → Q (.ref r) H'
theorem ok_called_in {fA fP fF fX f : Addr} {fdA fdP fdF fdX fd : FuncData} (F : Fun K "called_in" "called_in" s_called_in f fd)
    (C_start_at : Cal P w K mg base 4 "start_at" fA fdA ["nodes", "place"] (spStartAt K)) (C_parts_of : Cal P w K mg base 2 "parts_of" fP fdP ["nodes"] (spPartsOf K)) (C_part_from : Cal P w K mg base 2 "part_from" fF fdF ["nodes", "start"] (spPartFrom K)) (C_exchanged_from : Cal P w K mg base 2 "exchanged_from" fX fdX ["nodes", "start", "other"] (spExFrom K)) :
    FnOk P w K mg base CX0 5 f fd ["nodes", "call"] (spCalledIn K) := by
  refine F.ok sc_called_in (fun vs H Q E h => ?_) (fun cdv A outer s H vs Q E hr h => ?_)
  · obtain ⟨p, xs, pl, t, pp, i, zs, o, k, ps, rest, rfl, _⟩ := h
    rfl
  · obtain ⟨p, xs, pl, t, pp, i, zs, o, k, ps, rest, rfl, hS, hN, hok, hl, hs, hp, hw, hd, q0, hq, q⟩ := h
    have hr2 := hr.mono (j := 2) (by omega)
    refine ⟨_, (pss_cons (ps_asg (pv 1) (pg_tup (by rfl) (pgs_cons (pg_name (i := 2) sc_called_in.nd rfl (.inl rfl)) (pgs_cons (pg_name (i := 3) sc_called_in.nd rfl (.inl rfl)) pgs_nil))))
  (pss_cons (ps_set (i := 4) sc_called_in.nd rfl (.inl rfl) (pe_call C_start_at.G hr (by rfl) C_start_at.m C_start_at.k C_start_at.b .nil pass0 (pa_cons (pv 0) (pa_cons (pv 2) pa_nil))))
  (pss_cons (ps_set (i := 5) sc_called_in.nd rfl (.inl rfl) (pe_call C_parts_of.G hr2 (by rfl) C_parts_of.m C_parts_of.k C_parts_of.b .nil pass0 (pa_cons (pe_call C_part_from.G hr2 (by rfl) C_part_from.m C_part_from.k C_part_from.b .nil pass0 (pa_cons (pv 0) (pa_cons (pv 4) pa_nil))) pa_nil)))
  (pss_one (ps_ret (pe_call C_exchanged_from.G hr2 (by rfl) C_exchanged_from.m C_exchanged_from.k C_exchanged_from.b .nil pass0 (pa_cons (pv 0) (pa_cons (pv 4) (pa_cons (pe_ix (ixL (K := K) rfl) (pv 5) (pv 3) (fun _ _ => rfl)) pa_nil))))))))), ?_⟩
    obtain ⟨_, _, hokt⟩ := walk_drop hok hw
    refine ⟨_, rfl, t, _, rfl, hs, rfl, _, _, rfl, _, _, rfl, rfl, ?_⟩
    refine ⟨_, rfl, _, rfl, p, xs, pl, pp, _, rfl, hS, hN, hok, hl, hp, ?_⟩
    rw [startV_some hw]
    refine ⟨_, rfl, _, rfl, p, xs, nodesOf pl, o, .node k ps, rest, rfl, hS, hN, hl, hd, hokt, fun r ys H1 s1 hr1 N1 => ?_⟩
    have hl1 : ys.length < 1000 := by
      have h1 := congrArg List.length hd
      rw [List.length_drop, List.length_append] at h1
      have := hN.length
      have := N1.length
      omega
    refine ⟨r, ys, .node k ps, rfl, hr1, N1, hokt, hl1, fun l us H2 s2 nl el PA => ?_⟩
    have hix := (List.getElem?_eq_some_iff.mp hq).1
    have hlen := PA.length
    obtain ⟨v, hv⟩ : ∃ v, us[i]? = some v := ⟨_, List.getElem?_eq_getElem (by rw [hlen]; exact hix)⟩
    obtain ⟨b, zs2, q2, rfl, hq2, hb, hNb⟩ := PA.get hv
    cases (show ps[i]? = some q2 from hq2).symm.trans hq
    have s02 := s1.trans s2
    refine ⟨_, rfl, _, rfl, _, rfl, _, rfl, l, us, _, .ref b, rfl, rfl, SqL.of el, atI_nat hv, ?_⟩
    have hl2 : zs2.length < 1000 := by
      have h1 := nodesOf_get hq
      have := hNb.length
      have := N1.length
      rw [nodesOf, List.length_cons] at this
      omega
    refine ⟨p, b, xs, zs2, nodesOf pl, nodesOf q0, o, .node k ps, rest, rfl, (stk s02).seq hS, hN.tk (stk s02), hl, hb, hNb, hl2, hd, hokt, fun r2 us2 H3 s3 h3 N3 => ?_⟩
    exact q r2 us2 H3 (s02.trans s3) h3 N3
end
end Eh
set_option Elab.async false
set_option linter.all false
set_option maxRecDepth 100000
set_option maxHeartbeats 4000000
namespace Eh
open PySem PySem.Spec PyProof.Rows L2
/-- what is made stands at D, and R -/
def NxP (R : Nat → List V → Hp → Prop) (D : Addr) (j : Nat) : Hp → Prop := fun H => ∃ acc, H D = some (.lst acc) ∧ R j acc H
/-- behind an element of the inner for -/
def NxK (S : Nat → List V → Hp → Prop) (D : Addr) (j : Nat) : VK := fun y H7 => ∃ acc, H7 D = some (.lst acc) ∧ acc.length < sizeLine ∧ NxP S D (j + 1) (upd H7 D (.lst (acc ++ [y])))
theorem NxK.mk {S : Nat → List V → Hp → Prop} {D : Addr} {j : Nat} {acc : List V} {y : V} {H : Hp} (hl : acc.length < sizeLine) (e : H D = some (.lst acc)) (r : S (j + 1) (acc ++ [y]) (upd H D (.lst (acc ++ [y])))) : NxK S D j y H := ⟨acc, e, hl, _, upd_same, r⟩
/-- the inner for -/
def Lc2In (J1 : It) (g1 : TG) (tt1 : TT) (te : TE) (vs1 : List Nat) (σ2 : L2.St) (H4 : Hp) (D : Addr) (Nx : Hp → Prop) : Prop :=
  ∃ W1 : Nat → Nat → Hp → Prop, (∃ m, W1 0 m H4) ∧ ∀ j k H, W1 j k H → (J1.stop j H ∧ Nx H) ∨ (J1.go j H ∧ ∃ Nx1 : Hp → Prop, (∀ H', Nx1 H' → ∃ k', k' < k ∧ W1 (j + 1) k' H') ∧
    ∀ x H', J1.yld j H x H' → g1 x (wipe σ2 vs1) H' fun σ3 H5 => wipe σ3 vs1 = wipe σ2 vs1 ∧ tt1 σ3 H5 fun b H6 => if b = true then te σ3 H6 fun y H7 => ∃ acc, H7 D = some (.lst acc) ∧ acc.length < sizeLine ∧ Nx1 (upd H7 D (.lst (acc ++ [y]))) else Nx1 H6)
/-- both -/
def Lc2Goal (J : It) (g : TG) (tt : TT) (wi1 : TI) (g1 : TG) (tt1 : TT) (te : TE) (vs vs1 : List Nat) (σ : L2.St) (H1 : Hp) (D : Addr) (Qd : Hp → Prop) : Prop :=
  ∃ W : Nat → Nat → Hp → Prop, (∃ m, W 0 m (upd H1 D (.lst []))) ∧ ∀ i m H, W i m H → (J.stop i H ∧ Qd H) ∨ (J.go i H ∧ ∃ Nx : Hp → Prop, (∀ H', Nx H' → ∃ m', m' < m ∧ W (i + 1) m' H') ∧
    ∀ x H', J.yld i H x H' → g x (wipe σ vs) H' fun σ2 H2 => wipe σ2 vs = wipe σ vs ∧ tt σ2 H2 fun b H3 => if b = true then wi1 σ2 H3 (fun J1 H4 => Lc2In J1 g1 tt1 te vs1 σ2 H4 D Nx) else Nx H3)
section
variable {K : PySem.W.Frag} {J : It} {n : Nat} {g g1 : TG} {tt tt1 : TT} {wi1 : TI} {te : TE} {vs vs1 : List Nat} {σ σ2 : L2.St} {H1 H4 : Hp} {D : Addr} {Qd Nx : Hp → Prop}
/-- the outer for, whatever it goes over -/
theorem lc2_any (R : Nat → List V → Hp → Prop) (h0 : R 0 [] (upd H1 D (.lst [])))
    (hgo : ∀ j acc H, j < n → H D = some (.lst acc) → R j acc H → J.go j H ∧ ∀ x H', J.yld j H x H' →
      g x (wipe σ vs) H' fun σ2 H2 => wipe σ2 vs = wipe σ vs ∧ tt σ2 H2 fun b H3 => if b = true then wi1 σ2 H3 (fun J1 H4 => Lc2In J1 g1 tt1 te vs1 σ2 H4 D (NxP R D (j + 1))) else NxP R D (j + 1) H3)
    (hstop : ∀ acc H, H D = some (.lst acc) → R n acc H → J.stop n H ∧ Qd H) : Lc2Goal J g tt wi1 g1 tt1 te vs vs1 σ H1 D Qd := by
  refine ⟨fun j m H => m = n - j ∧ j ≤ n ∧ NxP R D j H, ⟨n, rfl, Nat.zero_le _, [], upd_same, h0⟩, ?_⟩
  rintro j m H ⟨rfl, hj, acc, e, r⟩
  by_cases hlt : j < n
  · obtain ⟨a, b⟩ := hgo j acc H hlt e r
    exact .inr ⟨a, NxP R D (j + 1), fun H' p => ⟨n - (j + 1), by omega, rfl, hlt, p⟩, b⟩
  · obtain rfl : j = n := by omega
    exact .inl (hstop acc H e r)
theorem lc2_in (S : Nat → List V → Hp → Prop) (h0 : NxP S D 0 H4)
    (hgo : ∀ j acc H, j < n → H D = some (.lst acc) → S j acc H → J.go j H ∧ ∀ x H', J.yld j H x H' →
      g1 x (wipe σ2 vs1) H' fun σ3 H5 => wipe σ3 vs1 = wipe σ2 vs1 ∧ tt1 σ3 H5 fun b H6 => if b = true then te σ3 H6 (NxK S D j) else NxP S D (j + 1) H6)
    (hstop : ∀ acc H, H D = some (.lst acc) → S n acc H → J.stop n H ∧ Nx H) : Lc2In J g1 tt1 te vs1 σ2 H4 D Nx := by
  refine ⟨fun j m H => m = n - j ∧ j ≤ n ∧ NxP S D j H, ⟨n, rfl, Nat.zero_le _, h0⟩, ?_⟩
  rintro j m H ⟨rfl, hj, acc, e, r⟩
  by_cases hlt : j < n
  · obtain ⟨a, b⟩ := hgo j acc H hlt e r
    exact .inr ⟨a, NxP S D (j + 1), fun H' p => ⟨n - (j + 1), by omega, rfl, hlt, p⟩, b⟩
  · obtain rfl : j = n := by omega
    exact .inl (hstop acc H e r)
/-- the outer for over a list -/
theorem lc2L {a : Addr} {xs : List V} (R : Nat → List V → Hp → Prop) (h0 : R 0 [] (upd H1 D (.lst []))) (hl : ∀ j acc H, R j acc H → SqL K H a xs)
    (hs : ∀ j x acc H, xs[j]? = some x → H D = some (.lst acc) → R j acc H →
      g x (wipe σ vs) H fun σ2 H2 => wipe σ2 vs = wipe σ vs ∧ tt σ2 H2 fun b H3 => if b = true then wi1 σ2 H3 (fun J1 H4 => Lc2In J1 g1 tt1 te vs1 σ2 H4 D (NxP R D (j + 1))) else NxP R D (j + 1) H3)
    (hd : ∀ acc H, H D = some (.lst acc) → R xs.length acc H → Qd H) : Lc2Goal (Itl K a) g tt wi1 g1 tt1 te vs vs1 σ H1 D Qd := by
  refine lc2_any (n := xs.length) R h0 (fun j acc H hj e r => ⟨⟨xs, xs[j], hl _ _ _ r, List.getElem?_eq_getElem hj⟩, fun x H' y => ?_⟩) fun acc H e r => ⟨⟨xs, hl _ _ _ r, Nat.le_refl _⟩, hd acc H e r⟩
  obtain ⟨rfl, y⟩ := y
  exact hs j x acc _ (y xs (hl _ _ _ r)) e r
/-- the inner for over a range -/
theorem lc2_inR {lo : Int} {i : Nat} (S : Nat → List V → Hp → Prop) (h0 : NxP S D 0 H4)
    (hs : ∀ j acc H, j < n → H D = some (.lst acc) → S j acc H → tt1 ((wipe σ2 [i]).set i (some (.int (lo + j)))) H fun b H6 => if b = true then te ((wipe σ2 [i]).set i (some (.int (lo + j)))) H6 (NxK S D j) else NxP S D (j + 1) H6)
    (hd : ∀ acc H, H D = some (.lst acc) → S n acc H → Nx H) : Lc2In (Itr lo n) (gName i) tt1 te [i] σ2 H4 D Nx := by
  refine lc2_in (n := n) S h0 (fun j acc H hj e r => ⟨hj, fun x H' y => ?_⟩) fun acc H e r => ⟨Nat.le_refl _, hd acc H e r⟩
  obtain ⟨rfl, rfl⟩ := y
  exact ⟨wipe1, hs j acc _ hj e r⟩
end
def manyPl : Pl → Nat
  | .leaf _ _ => 0
  | .node _ ps => ps.length
def callsOf (hd : Str) (y : List Nat × Pl) : List (List Nat × Nat) := if kindPl y.2 = choiceOf hd then (List.range (manyPl y.2)).map fun i => (y.1, i) else []
/-- the calls of a hand, in order -/
def callsPl (pl : Pl) (hd : Str) : List (List Nat × Nat) := (subsP pl).flatMap (callsOf hd)
def CallAt (K : PySem.W.Frag) (H : Hp) (v : V) (c : List Nat × Nat) : Prop := ∃ a b, v = .ref a ∧ SqT K H a [.ref b, .int (c.2 : Nat)] ∧ SqT K H b (c.1.map natV)
theorem CallAt.tk {K : PySem.W.Frag} {H H' : Hp} {v : V} {c : List Nat × Nat} (h : CallAt K H v c) (t : Tk H H') : CallAt K H' v c := by
  obtain ⟨a, b, e, h1, h2⟩ := h
  exact ⟨a, b, e, t.seq h1, t.seq h2⟩
def CallsAt (K : PySem.W.Frag) (H : Hp) (us : List V) (cs : List (List Nat × Nat)) : Prop := Paired (CallAt K H) us cs
theorem CallsAt.tk {K : PySem.W.Frag} {H H' : Hp} (t : Tk H H') : ∀ {us : List V} {cs : List (List Nat × Nat)}, CallsAt K H us cs → CallsAt K H' us cs
  | _, _, .nil => .nil
  | _, _, .cons a r => .cons (a.tk t) (CallsAt.tk t r)
theorem CallsAt.snoc {K : PySem.W.Frag} {H : Hp} {v : V} {c : List Nat × Nat} (h : CallAt K H v c) : ∀ {us : List V} {cs : List (List Nat × Nat)}, CallsAt K H us cs → CallsAt K H (us ++ [v]) (cs ++ [c])
  | _, _, .nil => .cons h .nil
  | _, _, .cons a r => .cons a (CallsAt.snoc h r)
theorem CallsAt.app {K : PySem.W.Frag} {H : Hp} : ∀ {us vs : List V} {cs ds : List (List Nat × Nat)}, CallsAt K H us cs → CallsAt K H vs ds → CallsAt K H (us ++ vs) (cs ++ ds)
  | _, _, _, _, .nil, h => h
  | _, _, _, _, .cons a r, h => .cons a (CallsAt.app r h)
def isHand (hd : Str) : Prop := hd = "caller" ∨ hd = "keeper"
theorem CalledAt.at {K : PySem.W.Frag} {w : World} {mg : Str → Option Value} {p : Addr} (C : CalledAt K w mg p) {hd : Str} (h : isHand hd) : KDct K w p hd (.str (choiceOf hd)) := by
  rcases h with rfl | rfl
  · exact C.c
  · have : choiceOf "keeper" = "mine" := if_neg (by decide +kernel)
    rw [this]
    exact C.k
theorem choice_two {hd : Str} (h : isHand hd) : choiceOf hd = "yours" ∨ choiceOf hd = "mine" := by
  rcases h with rfl | rfl
  · exact .inl (if_pos rfl)
  · exact .inr (if_neg (by decide +kernel))
/-- a node of a choice is no leaf -/
theorem choice_isnode {z : Pl} {hd : Str} (hok : plOk z = true) (h : isHand hd) (e : kindPl z = choiceOf hd) : ∃ ps, z = .node (choiceOf hd) ps := by
  cases z with
  | leaf k t =>
    obtain ⟨n1, n2⟩ := leaf_no hok
    have e' : k = choiceOf hd := e
    rcases choice_two h with h | h
    · exact absurd (e'.trans h) n1
    · exact absurd (e'.trans h) n2
  | node k ps => exact ⟨ps, by rw [← show k = choiceOf hd from e]⟩
section
variable {P : Program} {w : World} {K : PySem.W.Frag} {mg : Str → Option Value} {base : Heap}
def spCallsIn (K : PySem.W.Frag) : Sp := fun vs H Q _ => ∃ p xs pl hd, vs = [.ref p, .str hd] ∧ SqT K H p xs ∧ NdsAt K H xs (nodesOf pl) ∧ plOk pl = true ∧ xs.length < 1000 ∧ isHand hd ∧
  ∀ r us H', Same H H' → H r = none → H' r = some (.tup us) → CallsAt K H' us (callsPl pl hd) → Q (.ref r) H'
theorem ok_calls_in {pC fA f : Addr} {fdA fd : FuncData} (F : Fun K "calls_in" "calls_in" s_calls_in f fd) (T : Txt mg) (CA : CalledAt K w mg pC) (C_surface_of : Cal P w K mg base 3 "surface_of" fA fdA ["nodes"] (spSurfOf K)) :
    FnOk P w K mg base CX0 4 f fd ["nodes", "hand"] (spCallsIn K) := by
  refine F.ok sc_calls_in (fun vs H Q E h => ?_) (fun cdv A outer s H vs Q E hr h => ?_)
  · obtain ⟨p, xs, pl, hd, rfl, _⟩ := h
    rfl
  · obtain ⟨p, xs, pl, hd, rfl, hS, hN, hok, hl, hh, q⟩ := h
    refine ⟨_, (pss_one (ps_ret (pe_callTy call_tuple_of (by rfl) T.tuple_ (by decide +kernel) (pa_cons (pe_lc2 (own := [("place", 2), ("start", 3), ("index", 4)]) (vs1 := [4]) (g := gTup K 2 (gCons (gName 2) (gCons (gName 3) gNil))) (g1 := gName 4) (by rfl) sc_calls_in.nd (piL (K := K) rfl (pe_call C_surface_of.G hr (by rfl) C_surface_of.m C_surface_of.k C_surface_of.b .nil pass0 (pa_cons (pv 0) pa_nil))) (blkOk_by (by kernel_rfl)) (by decide)
      (fun _ _ _ _ _ => (pgT (K := K) rfl (by rfl) (pgs_cons (pg_name (i := 2) sc_calls_in.nd rfl (.inl rfl)) (pgs_cons (pg_name (i := 3) sc_calls_in.nd rfl (.inl rfl)) pgs_nil))))
      (fun _ _ _ _ _ => (pts_one (pt_cmpR op_eq (pe_ix (ixT (K := K) rfl) (pe_ix (ixT (K := K) rfl) (pv 0) (pv 3) (fun _ _ => rfl)) pe_int (fun _ _ => rfl)) (pe_ix (ixKd (K := K) (w := w) rfl rfl) (pe_glob (v := .ref pC) rfl CA.g rfl) (pv 1) (fun _ _ => rfl)) (nomark _))))
      (fun _ _ _ _ _ => (pi_range1 (by rfl) T.range_ (pa_cons (pe_ix (ixT (K := K) rfl) (pe_ix (ixT (K := K) rfl) (pv 0) (pv 3) (fun _ _ => rfl)) pe_int (fun _ _ => rfl)) pa_nil)))
      (fun _ _ _ _ _ => (pg_name (i := 4) sc_calls_in.nd rfl (.inl rfl))) (fun _ _ _ _ _ => pts_nil) (fun _ _ _ _ _ => (pe_tup (pa_cons (pv 2) (pa_cons (pv 4) pa_nil))))) pa_nil)))), ?_⟩
    refine ⟨_, rfl, p, xs, pl, rfl, hS, hN, hok, hl, fun l us H1 s1 n1 e1 F1 => ?_⟩
    refine ⟨l, rfl, ⟨us, SqL.of e1⟩, fun D nD => ?_⟩
    have nDH : H D = none := s1.free nD
    have hul := F1.length
    have hpl := pathsK_len (ks := open2) pl
    have hx := hN.length
    have nlD : l ≠ D := ne_of_none e1 nD
    have hps := paths_subs hok
    have hlen := Paired.length hps
    refine lc2L (K := K) (a := l) (xs := us) (fun j acc H2 => Tk H1 H2 ∧ H2 l = some (.lst us) ∧ Same H H2 ∧ acc.length ≤ j * 1000 ∧ CallsAt K H2 acc (((subsP pl).take j).flatMap (callsOf hd))) ⟨Tk.new nD, by rw [upd_ne nlD]; exact e1, s1.trans (same_new nD), Nat.zero_le _, .nil⟩ (fun j acc H2 h => SqL.of h.2.1) ?_ ?_
    · rintro j x acc H2 hx2 e ⟨t2, el, s2, hal, hP⟩
      obtain ⟨a, b, ns, o, rfl, hk, ha, hb⟩ := F1.get hx2
      have hj := (List.getElem?_eq_some_iff.mp hx2).1
      obtain ⟨⟨pa, z⟩, hz, e1', e2', rest, e3'⟩ := paired_at hps hk
      obtain ⟨c, k, u, hxa, hna, hc, more, hmore⟩ := head_at hN e3'
      have hS2 := (stk s2).seq hS
      have hc2 := (stk s2).seq hc
      have hkk : k = kindPl z := kind_head hmore
      refine ⟨a, _, rfl, t2.seq ha, rfl, _, _, rfl, _, _, rfl, rfl, rfl, ?_⟩
      have stp : ((subsP pl).take (j + 1)).flatMap (callsOf hd) = ((subsP pl).take j).flatMap (callsOf hd) ++ callsOf hd (pa, z) := by
        rw [List.take_add_one, hz, List.flatMap_append]
        congr 1
        show [(pa, z)].flatMap (callsOf hd) = _
        rw [List.flatMap_cons, List.flatMap_nil, List.append_nil]
      refine ⟨_, rfl, _, rfl, p, xs, _, .ref c, rfl, rfl, hS2, atI_nat hxa, c, _, 0, .str k, rfl, rfl, hc2, rfl, _, rfl, pC, hd, _, rfl, rfl, CA.at hh, rfl, _, rfl, ?_⟩
      by_cases ek : k = choiceOf hd
      · refine iteT' (decide_eq_true (by rw [ek])) ?_
        obtain ⟨ps, rfl⟩ := choice_isnode e2' hh (hkk.symm.trans ek)
        rw [nodesOf] at hmore
        cases hmore
        have hps3 : ps.length < 1000 := by
          have h1 := congrArg List.length e3'
          rw [List.length_drop, List.length_append, nodesOf, List.length_cons] at h1
          have := nodes_ge ps
          omega
        have e4 : ns = pa := e1'
        subst e4
        have hco : callsOf hd (ns, .node (choiceOf hd) ps) = (List.range ps.length).map fun i => (ns, i) := if_pos rfl
        refine ⟨_, rfl, _, rfl, p, xs, _, .ref c, rfl, rfl, hS2, atI_nat hxa, c, _, 1, .int (ps.length : Int), rfl, rfl, hc2, rfl, ?_⟩
        refine ⟨_, rfl, by omega, by omega, ?_⟩
        refine lc2_inR (lo := 0) (n := ps.length) (i := 4) (fun i acc3 H3 => Tk H1 H3 ∧ H3 l = some (.lst us) ∧ Same H H3 ∧ acc3.length ≤ j * 1000 + i ∧ CallsAt K H3 acc3 (((subsP pl).take j).flatMap (callsOf hd) ++ (List.range i).map fun i => (ns, i))) ⟨acc, e, t2, el, s2, by omega, by rw [List.range_zero, List.map_nil, List.append_nil]; exact hP⟩ ?_ ?_
        · rintro i acc3 H3 hi e3 ⟨t3, el3, s3, hal3, hP3⟩
          refine yesT ⟨_, rfl, _, rfl, lenOk 2, fun t nt => ?_⟩
          have kn := Tk.new (o := .tup [.ref b, .int (0 + (i : Int))]) nt
          have nlt : l ≠ t := ne_of_none el3 nt
          have e4 : (upd H3 t (.tup [.ref b, .int (0 + (i : Int))])) D = some (.lst acc3) := by
            rw [upd_ne (ne_of_none e3 nt)]
            exact e3
          have kp := Tk.put (ys := acc3 ++ [V.ref t]) e4
          have hb4 := kp.seq (kn.seq (t3.seq hb))
          refine NxK.mk (small (by omega)) e4 ⟨(t3.trans kn).trans kp, ?_, fun b' o' eb => ?_, by rw [List.length_append]; show acc3.length + 1 ≤ _; omega, ?_⟩
          · rw [upd_ne nlD, upd_ne nlt]
            exact el3
          · rw [upd_ne (ne_of_none eb nDH), upd_ne (ne_of_none (s3 _ _ eb) nt)]
            exact s3 b' o' eb
          · rw [List.range_succ, List.map_append, ← List.append_assoc]
            refine CallsAt.snoc ⟨t, b, rfl, kp.seq (SqT.of (by rw [upd_same, Int.zero_add])), hb4⟩ ((hP3.tk kn).tk kp)
        · rintro acc3 H3 e3 ⟨t3, el3, s3, hal3, hP3⟩
          refine ⟨acc3, e3, t3, el3, s3, by omega, ?_⟩
          rw [stp, hco]
          exact hP3
      · refine iteF' (decide_eq_false fun z => ek (by injection z)) ⟨acc, e, t2, el, s2, by omega, ?_⟩
        rw [stp, show callsOf hd (pa, z) = [] from if_neg (by rw [← hkk]; exact ek), List.append_nil]
        exact hP
    · rintro acc H2 e ⟨t2, el, s2, hal, hP⟩
      rw [List.take_of_length_le (by omega)] at hP
      refine ⟨D, acc, rfl, .inl ⟨SqL.of e, fun r nr => ?_⟩⟩
      exact q r acc _ (s2.trans (same_new nr)) (s2.free nr) upd_same (hP.tk (Tk.new nr))
end
end Eh
set_option Elab.async false
set_option linter.all false
set_option maxRecDepth 100000
set_option maxHeartbeats 4000000
namespace Eh
open PySem PySem.Spec PyProof.Rows L2
theorem hands2_has {hd : Str} (h : isHand hd) : inV (.str hd) (hands2.map V.str) = true := by
  rcases h with rfl | rfl <;> decide +kernel
/-- a value as a call: none of a hand's, or one at a place of a choice -/
theorem handPl_cases (pl : Pl) (c : Option (Option (List V) × V)) : handPl pl c = .non ∨ ∃ (pa : List Nat) (i : Nat) (k : Str) (ps : List Pl) (q : Pl), c = some (some (pa.map natV), .int (i : Nat)) ∧ (pa, .node k ps) ∈ subsP pl ∧ ps[i]? = some q ∧ ((k = "yours" ∧ handPl pl c = .str "caller") ∨ (k = "mine" ∧ handPl pl c = .str "keeper")) := by
  match c with
  | none => exact .inl rfl
  | some (none, i) => exact .inl rfl
  | some (some zs, i) =>
    cases hw : walkV open2 pl zs with
    | none => exact .inl (handPl_none hw)
    | some y =>
      obtain ⟨o, t⟩ := y
      rw [handPl_some hw]
      cases t with
      | leaf k u => exact .inl rfl
      | node k ps =>
        rw [handAt_node]
        by_cases hi : idxV i (ps.length : Int) = true
        · rw [if_pos hi]
          obtain ⟨j, rfl, hj⟩ := idxV_nat hi
          obtain ⟨pa, rfl, hm⟩ := place_walk hw
          by_cases k1 : k = "yours"
          · rw [if_pos k1]
            exact .inr ⟨pa, j, k, ps, ps[j], rfl, hm, List.getElem?_eq_getElem hj, .inl ⟨k1, rfl⟩⟩
          · rw [if_neg k1]
            by_cases k2 : k = "mine"
            · rw [if_pos k2]
              exact .inr ⟨pa, j, k, ps, ps[j], rfl, hm, List.getElem?_eq_getElem hj, .inr ⟨k2, rfl⟩⟩
            · rw [if_neg k2]
              exact .inl rfl
        · rw [if_neg hi]
          exact .inl rfl
theorem handPl_call {pl : Pl} {pa : List Nat} {ps : List Pl} {i : Nat} {hd : Str} (hk : plOk pl = true) (hl : (nodesOf pl).length < 1000) (hh : isHand hd) (hm : (pa, .node (choiceOf hd) ps) ∈ subsP pl) (hi : i < ps.length) :
    handPl pl (some (some (pa.map natV), .int (i : Nat))) = .str hd := by
  obtain ⟨o, rest, e, e2, _⟩ := walk_place hk hl hm
  rw [handPl_some e, handAt_node]
  have h2 : ps.length < 1000 := by
    have h1 := congrArg List.length e2
    rw [List.length_drop, List.length_append, nodesOf, List.length_cons] at h1
    have := nodes_ge ps
    omega
  rw [if_pos (idxV_small hi (by omega))]
  rcases hh with rfl | rfl
  · rw [show choiceOf "caller" = "yours" from if_pos rfl, if_pos rfl]
  · rw [show choiceOf "keeper" = "mine" from if_neg (by decide +kernel), if_neg (by decide +kernel), if_pos rfl]
section
variable {P : Program} {w : World} {K : PySem.W.Frag} {mg : Str → Option Value} {base : Heap}
def spHand : Sp := fun vs H Q _ => ∃ v, vs = [v] ∧ Sorted5 H v ∧ Q (.bl (inV v (hands2.map V.str))) H
theorem ok_is_hand {f p : Addr} {fd : FuncData} (F : Fun K "is_hand" "is_hand" s_is_hand f fd) (T : Txt mg) (hh : TupAt K mg "HANDS" p hands2) : FnOk P w K mg base CX0 1 f fd ["value"] spHand := by
  obtain ⟨h1, h2⟩ := hh
  refine F.ok sc_is_hand (fun vs H Q E h => ?_) (fun cdv A outer s H vs Q E hr h => ?_)
  · obtain ⟨v, rfl, _⟩ := h
    rfl
  · obtain ⟨v, rfl, hk, q⟩ := h
    refine ⟨_, (pss_one (ps_ret (pe_cmpR (inS (K := K) rfl (hu_of hr)) (pv 0) (pe_glob (v := .ref p) rfl h1 rfl) (by rfl)))), ?_⟩
    exact ⟨_, rfl, p, hands2, rfl, h2 H, hk, q⟩
def spCheckHand (CO : Addr) : Sp := fun vs H Q E => ∃ v, vs = [v] ∧ Sorted5 H v ∧ (inV v (hands2.map V.str) = true → Q .non H) ∧ (inV v (hands2.map V.str) = false → E (.ref CO) none H)
theorem ok_check_hand {CO fH f : Addr} {fdH fd : FuncData} (F : Fun K "check_hand" "check_hand" s_check_hand f fd) (RO : ErrC K mg "InvalidOperation" CO) (C_is_hand : Cal P w K mg base 1 "is_hand" fH fdH ["value"] spHand) :
    FnOk P w K mg base (L2.CX P w) 2 f fd ["value"] (spCheckHand CO) := by
  refine F.okX sc_check_hand (fun vs H Q E h => ?_) (fun cdv A outer s H vs Q E hr h => ?_)
  · obtain ⟨v, rfl, _⟩ := h
    rfl
  · obtain ⟨v, rfl, hk, q1, q2⟩ := h
    refine ⟨_, (pss_one (ps_if (pt_not (pt_val (pe_call C_is_hand.G hr (by rfl) C_is_hand.m C_is_hand.k C_is_hand.b .nil pass0 (pa_cons (pv 0) pa_nil))))
      (pss_one (ps_raise rfl (takes_of rfl rfl rfl rfl) (pmk_own PySem.F.excBase_ValueError RO.q RO.g RO.k (raises_own RO.b RO.t) rfl))) pss_nil)), ?_⟩
    refine ⟨_, rfl, v, rfl, hk, _, rfl, ?_⟩
    cases e : inV v (hands2.map V.str) with
    | false => exact iteT (q2 e)
    | true => exact iteF (q1 e)
def spHandCan (K : PySem.W.Frag) (CC : Addr) : Sp := fun vs H Q E => ∃ p xs pl v c, vs = [.ref p, v] ∧ SqT K H p xs ∧ NdsAt K H xs (nodesOf pl) ∧ plOk pl = true ∧ xs.length < 1000 ∧ CallV K H v c ∧ (handPl pl c ≠ .non → Q (handPl pl c) H) ∧ (handPl pl c = .non → E (.ref CC) none H)
theorem ok_hand_can {CC fA f : Addr} {fdA fd : FuncData} (F : Fun K "_hand_that_can" "_hand_that_can" s__hand_that_can f fd) (RC : ErrC K mg "InvalidCall" CC) (C_hand_in : Cal P w K mg base 5 "hand_in" fA fdA ["nodes", "value"] (spHandIn K)) :
    FnOk P w K mg base (L2.CX P w) 6 f fd ["nodes", "call"] (spHandCan K CC) := by
  refine F.okX sc__hand_that_can (fun vs H Q E h => ?_) (fun cdv A outer s H vs Q E hr h => ?_)
  · obtain ⟨p, xs, pl, v, c, rfl, _⟩ := h
    rfl
  · obtain ⟨p, xs, pl, v, c, rfl, hS, hN, hok, hl, hV, q1, q2⟩ := h
    refine ⟨_, (pss_cons (ps_set (i := 2) sc__hand_that_can.nd rfl (.inl rfl) (pe_call C_hand_in.G hr (by rfl) C_hand_in.m C_hand_in.k C_hand_in.b .nil pass0 (pa_cons (pv 0) (pa_cons (pv 1) pa_nil))))
      (pss_cons (ps_if (pt_cmpR op_isN (pv 2) pe_non (nomark _))
        (pss_one (ps_raise rfl (takes_of rfl rfl rfl rfl) (pmk_own PySem.F.excBase_ValueError RC.q RC.g RC.k (raises_own RC.b RC.t) rfl))) pss_nil)
      (pss_one (ps_ret (pv 2))))), ?_⟩
    refine ⟨_, rfl, _, rfl, p, xs, pl, v, c, rfl, hS, hN, hok, hl, hV, ?_⟩
    refine ⟨_, rfl, rfl, _, rfl, ?_⟩
    by_cases e : handPl pl c = .non
    · exact iteT' (decide_eq_true e) (q2 e)
    · exact iteF' (decide_eq_false e) ⟨_, rfl, q1 e⟩
def spCalls (K : PySem.W.Frag) (C : Addr) : Sp := fun vs H Q _ => ∃ a pl hd, vs = [.ref a, .str hd] ∧ PrG K C H a (nodesOf pl) ∧ plOk pl = true ∧ (nodesOf pl).length < 1000 ∧ isHand hd ∧ ∀ r us H', Same H H' → H r = none → H' r = some (.tup us) → CallsAt K H' us (callsPl pl hd) → Q (.ref r) H'
theorem ok_calls {C CE CO fI fL fK fH fS pN fN f : Addr} {fdK fdH fdS fdN fd : FuncData} (F : Fun K "calls" "calls" s_calls f fd) (PC : PromC K mg C fI fL)
    (GK : FnOk P w K mg base (L2.CX P w) 1 fK fdK ["value"] (spCheckP K C CE)) (mK : mg "check_promise" = some (.ref fK)) (kK : PySem.W.keepIn K (.ref fK) = true) (bK : Binds K fdK ["value"] [])
    (GH : FnOk P w K mg base (L2.CX P w) 2 fH fdH ["value"] (spCheckHand CO)) (mH : mg "check_hand" = some (.ref fH)) (kH : PySem.W.keepIn K (.ref fH) = true) (bH : Binds K fdH ["value"] [])
    (C_calls_in : Cal P w K mg base 4 "calls_in" fS fdS ["nodes", "hand"] (spCallsIn K)) (PN : PropC P w K mg base C "nodes" 1 (spNodesP K C) pN fN fdN) :
    FnOk P w K mg base (L2.CX P w) 5 f fd ["promise", "hand"] (spCalls K C) := by
  refine F.okX sc_calls (fun vs H Q E h => ?_) (fun cdv A outer s H vs Q E hr h => ?_)
  · obtain ⟨a, pl, hd, rfl, _⟩ := h
    rfl
  · obtain ⟨a, pl, hd, rfl, pr, hok, hl, hh, q⟩ := h
    obtain ⟨dx, p, xs, ea, hs, hN, g⟩ := id pr
    have hr2 := hr.mono (j := 2) (by omega)
    have hr1 := hr.mono (j := 1) (by omega)
    refine ⟨_, (pss_cons (ps_expr (pe_callS GK hr1 (by rfl) mK kK bK (fun σ => passAt (takes_of rfl rfl rfl rfl) σ) (pa_cons (pv 0) pa_nil)))
      (pss_cons (ps_expr (pe_callS GH hr2 (by rfl) mH kH bH (fun σ => passAt (takes_of rfl rfl rfl rfl) σ) (pa_cons (pv 1) pa_nil)))
      (pss_one (ps_ret (pe_call C_calls_in.G hr (by rfl) C_calls_in.m C_calls_in.k C_calls_in.b .nil pass0 (pa_cons (pe_prop (pv 0) PC.cl PN.p PN.ok hr2 PN.b .nil pass0 rfl) (pa_cons (pv 1) pa_nil))))))), ?_⟩
    refine ⟨_, rfl, .ref a, rfl, .inl ⟨a, dx, _, rfl, ea, ?_⟩⟩
    refine ⟨_, rfl, .str hd, rfl, .inl rfl, fun _ => ?_, fun z => by rw [hands2_has hh] at z; cases z⟩
    refine ⟨_, rfl, a, dx, _, rfl, ea, a, dx, _, p, rfl, ea, rfl, _, rfl, ?_⟩
    exact ⟨p, xs, pl, hd, rfl, hs, hN, hok, by rw [hN.length]; exact hl, hh, q⟩
def spIsCall (K : PySem.W.Frag) (C : Addr) : Sp := fun vs H Q _ => ∃ a pl v c, vs = [.ref a, v] ∧ PrG K C H a (nodesOf pl) ∧ plOk pl = true ∧ (nodesOf pl).length < 1000 ∧ CallV K H v c ∧ Q (.bl (!decide (handPl pl c = .non))) H
theorem ok_is_call {C CE fI fL fK fS pN fN f : Addr} {fdK fdS fdN fd : FuncData} (F : Fun K "is_call" "is_call" s_is_call f fd) (PC : PromC K mg C fI fL)
    (GK : FnOk P w K mg base (L2.CX P w) 1 fK fdK ["value"] (spCheckP K C CE)) (mK : mg "check_promise" = some (.ref fK)) (kK : PySem.W.keepIn K (.ref fK) = true) (bK : Binds K fdK ["value"] [])
    (C_hand_in : Cal P w K mg base 5 "hand_in" fS fdS ["nodes", "value"] (spHandIn K)) (PN : PropC P w K mg base C "nodes" 1 (spNodesP K C) pN fN fdN) :
    FnOk P w K mg base (L2.CX P w) 6 f fd ["promise", "value"] (spIsCall K C) := by
  refine F.okX sc_is_call (fun vs H Q E h => ?_) (fun cdv A outer s H vs Q E hr h => ?_)
  · obtain ⟨a, pl, v, c, rfl, _⟩ := h
    rfl
  · obtain ⟨a, pl, v, c, rfl, pr, hok, hl, hV, q⟩ := h
    obtain ⟨dx, p, xs, ea, hs, hN, g⟩ := id pr
    have hr2 := hr.mono (j := 2) (by omega)
    have hr1 := hr.mono (j := 1) (by omega)
    refine ⟨_, (pss_cons (ps_expr (pe_callS GK hr1 (by rfl) mK kK bK (fun σ => passAt (takes_of rfl rfl rfl rfl) σ) (pa_cons (pv 0) pa_nil)))
      (pss_one (ps_ret (pe_cmpR op_notN (pe_call C_hand_in.G hr (by rfl) C_hand_in.m C_hand_in.k C_hand_in.b .nil pass0 (pa_cons (pe_prop (pv 0) PC.cl PN.p PN.ok hr2 PN.b .nil pass0 rfl) (pa_cons (pv 1) pa_nil))) pe_non (nomark _))))), ?_⟩
    refine ⟨_, rfl, .ref a, rfl, .inl ⟨a, dx, _, rfl, ea, ?_⟩⟩
    refine ⟨_, rfl, a, dx, _, rfl, ea, a, dx, _, p, rfl, ea, rfl, _, rfl, ?_⟩
    exact ⟨p, xs, pl, v, c, rfl, hs, hN, hok, by rw [hN.length]; exact hl, hV, rfl, q⟩
def spHandOf (K : PySem.W.Frag) (C CC : Addr) : Sp := fun vs H Q E => ∃ a pl v c, vs = [.ref a, v] ∧ PrG K C H a (nodesOf pl) ∧ plOk pl = true ∧ (nodesOf pl).length < 1000 ∧ CallV K H v c ∧ (handPl pl c ≠ .non → Q (handPl pl c) H) ∧ (handPl pl c = .non → E (.ref CC) none H)
theorem ok_hand_of {C CE CC fI fL fK fS pN fN f : Addr} {fdK fdS fdN fd : FuncData} (F : Fun K "hand_of" "hand_of" s_hand_of f fd) (PC : PromC K mg C fI fL)
    (GK : FnOk P w K mg base (L2.CX P w) 1 fK fdK ["value"] (spCheckP K C CE)) (mK : mg "check_promise" = some (.ref fK)) (kK : PySem.W.keepIn K (.ref fK) = true) (bK : Binds K fdK ["value"] [])
    (GS : FnOk P w K mg base (L2.CX P w) 6 fS fdS ["nodes", "call"] (spHandCan K CC)) (mS : mg "_hand_that_can" = some (.ref fS)) (kS : PySem.W.keepIn K (.ref fS) = true) (bS : Binds K fdS ["nodes", "call"] []) (PN : PropC P w K mg base C "nodes" 1 (spNodesP K C) pN fN fdN) :
    FnOk P w K mg base (L2.CX P w) 7 f fd ["promise", "call"] (spHandOf K C CC) := by
  refine F.okX sc_hand_of (fun vs H Q E h => ?_) (fun cdv A outer s H vs Q E hr h => ?_)
  · obtain ⟨a, pl, v, c, rfl, _⟩ := h
    rfl
  · obtain ⟨a, pl, v, c, rfl, pr, hok, hl, hV, q1, q2⟩ := h
    obtain ⟨dx, p, xs, ea, hs, hN, g⟩ := id pr
    have hr2 := hr.mono (j := 2) (by omega)
    have hr1 := hr.mono (j := 1) (by omega)
    refine ⟨_, (pss_cons (ps_expr (pe_callS GK hr1 (by rfl) mK kK bK (fun σ => passAt (takes_of rfl rfl rfl rfl) σ) (pa_cons (pv 0) pa_nil)))
      (pss_one (ps_ret (pe_callS GS hr (by rfl) mS kS bS (fun σ => passAt (takes_of rfl rfl rfl rfl) σ) (pa_cons (pe_prop (pv 0) PC.cl PN.p PN.ok hr2 PN.b .nil pass0 rfl) (pa_cons (pv 1) pa_nil)))))), ?_⟩
    refine ⟨_, rfl, .ref a, rfl, .inl ⟨a, dx, _, rfl, ea, ?_⟩⟩
    refine ⟨_, rfl, a, dx, _, rfl, ea, a, dx, _, p, rfl, ea, rfl, _, rfl, ?_⟩
    exact ⟨p, xs, pl, v, c, rfl, hs, hN, hok, by rw [hN.length]; exact hl, hV, q1, q2⟩
/-- the promise that comes of a call -/
def spCalled (K : PySem.W.Frag) (C CC : Addr) : Sp := fun vs H Q E => ∃ a pl v c, vs = [.ref a, v] ∧ PrG K C H a (nodesOf pl) ∧ plOk pl = true ∧ (nodesOf pl).length < 1000 ∧ CallV K H v c ∧
  (∀ (pa : List Nat) (i : Nat) (k : Str) (ps : List Pl) (q : Pl), c = some (some (pa.map natV), .int (i : Nat)) → (pa, .node k ps) ∈ subsP pl → ps[i]? = some q → (k = "yours" ∨ k = "mine") → okB (nodesOf (putP pl pa q)) = true ∧ ∀ x H', Same H H' → H x = none → PrG K C H' x (nodesOf (putP pl pa q)) → Q (.ref x) H') ∧
  (handPl pl c = .non → E (.ref CC) none H)
theorem ok_called {C CE CC fI fL fK fS fA pN fN f : Addr} {fdK fdI fdS fdA fdN fd : FuncData} (F : Fun K "called" "called" s_called f fd) (PC : PromC K mg C fI fL)
    (GK : FnOk P w K mg base (L2.CX P w) 1 fK fdK ["value"] (spCheckP K C CE)) (mK : mg "check_promise" = some (.ref fK)) (kK : PySem.W.keepIn K (.ref fK) = true) (bK : Binds K fdK ["value"] [])
    (GS : FnOk P w K mg base (L2.CX P w) 6 fS fdS ["nodes", "call"] (spHandCan K CC)) (mS : mg "_hand_that_can" = some (.ref fS)) (kS : PySem.W.keepIn K (.ref fS) = true) (bS : Binds K fdS ["nodes", "call"] [])
    (C_called_in : Cal P w K mg base 5 "called_in" fA fdA ["nodes", "call"] (spCalledIn K)) (PN : PropC P w K mg base C "nodes" 1 (spNodesP K C) pN fN fdN)
    (GI : FnOk P w K mg base (L2.CX P w) 4 fI fdI ["self", "nodes"] (spInitE K C CE)) (bI : Binds K fdI ["self", "nodes"] []) :
    FnOk P w K mg base (L2.CX P w) 7 f fd ["promise", "call"] (spCalled K C CC) := by
  refine F.okX sc_called (fun vs H Q E h => ?_) (fun cdv A outer s H vs Q E hr h => ?_)
  · obtain ⟨a, pl, v, c, rfl, _⟩ := h
    rfl
  · obtain ⟨a, pl, v, c, rfl, pr, hok, hl, hV, q1, q2⟩ := h
    obtain ⟨dx, p, xs, ea, hs, hN, g⟩ := id pr
    have hr5 := hr.mono (j := 5) (by omega)
    have hr4 := hr.mono (j := 4) (by omega)
    have hr2 := hr.mono (j := 2) (by omega)
    have hr1 := hr.mono (j := 1) (by omega)
    refine ⟨_, (pss_cons (ps_expr (pe_callS GK hr1 (by rfl) mK kK bK (fun σ => passAt (takes_of rfl rfl rfl rfl) σ) (pa_cons (pv 0) pa_nil)))
      (pss_cons (ps_expr (pe_callS GS hr (by rfl) mS kS bS (fun σ => passAt (takes_of rfl rfl rfl rfl) σ) (pa_cons (pe_prop (pv 0) PC.cl PN.p PN.ok hr2 PN.b .nil pass0 rfl) (pa_cons (pv 1) pa_nil))))
      (pss_one (ps_ret (pe_makeS PC.mkC GI hr5 (by rfl) PC.g bI (fun σ => passAt (takes_of rfl rfl rfl rfl) σ) (pa_cons (pe_call C_called_in.G hr5 (by rfl) C_called_in.m C_called_in.k C_called_in.b .nil pass0 (pa_cons (pe_prop (pv 0) PC.cl PN.p PN.ok hr2 PN.b .nil pass0 rfl) (pa_cons (pv 1) pa_nil))) pa_nil)))))), ?_⟩
    refine ⟨_, rfl, .ref a, rfl, .inl ⟨a, dx, _, rfl, ea, ?_⟩⟩
    refine ⟨_, rfl, a, dx, _, rfl, ea, a, dx, _, p, rfl, ea, rfl, _, rfl, ?_⟩
    refine ⟨p, xs, pl, v, c, rfl, hs, hN, hok, by rw [hN.length]; exact hl, hV, fun hne => ?_, q2⟩
    rcases handPl_cases pl c with h | ⟨pa, i, k, ps, q0, rfl, hm, hq, hk⟩
    · exact absurd h hne
    obtain ⟨o, rest, ew, e2, e3⟩ := walk_place hok hl hm
    obtain ⟨ob, qm⟩ := q1 pa i k ps q0 rfl hm hq (hk.imp (·.1) (·.1))
    cases hV with
    | pair ht hp hi =>
      rename_i t pp
      refine ⟨_, rfl, a, dx, _, rfl, ea, a, dx, _, p, rfl, ea, rfl, _, rfl, ?_⟩
      refine ⟨p, xs, pl, t, pp, i, _, o, k, ps, rest, rfl, hs, hN, hok, by rw [hN.length]; exact hl, ht, hp, ew, e2, q0, hq, fun r us H1 s1 hr1 N1 => ?_⟩
      rw [← e3 q0] at N1
      refine fun x dx nx nd ne => ?_
      refine makeS_steps nx nd hr1 N1 (fun n hn => ?_) (fun _ H4 s4 pr4 => qm x H4 (s1.trans s4) (s1.free nx) pr4) fun z => by rw [ob] at z; cases z
      rw [e3 q0, List.mem_append, List.mem_append] at hn
      have hd : ∀ n ∈ nodesOf (.node k ps) ++ rest, n ∈ nodesOf pl := fun n hn => List.mem_of_mem_drop (i := o) (by rw [e2]; exact hn)
      rcases hn with hn | hn | hn
      · exact g n (List.mem_of_mem_take hn)
      · refine g n (hd n (List.mem_append_left _ ?_))
        rw [nodesOf, nodesAll_split hq]
        exact List.mem_cons_of_mem _ (List.mem_append_right _ (List.mem_append_left _ hn))
      · exact g n (hd n (List.mem_append_right _ hn))
end
end Eh
set_option Elab.async false
set_option linter.all false
set_option maxRecDepth 100000
set_option maxHeartbeats 4000000
namespace Eh
open PySem PySem.Spec PyProof.Rows L2
abbrev CKey := List Nat × Nat
def ckN (c : CKey) : NestedKey := .tup [.tup (c.1.map fun (n : Nat) => NestedKey.num (n : Int)), .num (c.2 : Int)]
theorem nums_inj : ∀ {a b : List Nat}, (a.map fun (n : Nat) => NestedKey.num (n : Int)) = (b.map fun (n : Nat) => NestedKey.num (n : Int)) → a = b
  | [], [], _ => rfl
  | [], _ :: _, h => by cases h
  | _ :: _, [], h => by cases h
  | x :: a, y :: b, h => by
    injection h with h1 h2
    injection h1 with h1
    rw [nums_inj h2, Int.ofNat.inj h1]
theorem ckN_inj {a b : CKey} (h : ckN a = ckN b) : a = b := by
  unfold ckN at h
  injection h with h
  injection h with h1 h2
  injection h1 with h1
  injection h2 with h2
  injection h2 with h2
  obtain ⟨a1, a2⟩ := a
  obtain ⟨b1, b2⟩ := b
  have e2 : a2 = b2 := Int.ofNat.inj h2
  have e1 : a1 = b1 := nums_inj h1
  rw [e1, e2]
theorem depthAll_nums : ∀ ns : List Nat, NestedKey.depthAll (ns.map fun (n : Nat) => NestedKey.num (n : Int)) = 0
  | [] => by simp [NestedKey.depthAll]
  | n :: ns => by
    rw [List.map_cons, NestedKey.depthAll, depthAll_nums ns]
    simp [NestedKey.depth]
theorem ckN_depth (c : CKey) : (ckN c).depth ≤ 8 := by
  unfold ckN
  simp [NestedKey.depth, NestedKey.depthAll, depthAll_nums]
/-- an entry: the key, where its tuple stands, the value -/
abbrev CEnt := CKey × Addr × V
/-- where the keys' tuples stand -/
def KeysAt (K : PySem.W.Frag) (H : Hp) (L : List CEnt) : Prop := ∀ e ∈ L, CallAt K H (.ref e.2.1) e.1
theorem KeysAt.tk {K : PySem.W.Frag} {H H' : Hp} {L : List CEnt} (h : KeysAt K H L) (t : Tk H H') : KeysAt K H' L := fun e he => (h e he).tk t
section
variable {X : Cx} {pins : List (Addr × Obj)} {σ : L2.St} {H : Hp} {s : Shared}
theorem nested_nums {h : Heap} : ∀ {ns : List Nat} {us : List Value}, Vals (ns.map natV) us → NestedAll h (ns.map fun (n : Nat) => NestedKey.num (n : Int)) us
  | [], us, r => by
    cases r
    exact .nil
  | n :: ns, us, r => by
    cases r with
    | cons a t =>
      obtain ⟨tk, rfl⟩ := a
      exact .cons (.int _ _) (nested_nums t)
theorem ck_is (I : Inv X pins σ H s) {a : Addr} {c : CKey} (h : CallAt X.K H (.ref a) c) : (nestedKind X.prog X.w).is s.heap (ckN c) a := by
  obtain ⟨a', b, e, h1, h2⟩ := h
  cases e
  obtain ⟨its, rv, ⟨o, ho, hc, n, hd⟩, _⟩ := I.tuple h1
  obtain ⟨its2, rv2, ⟨o2, ho2, hc2, n2, hd2⟩, _⟩ := I.tuple h2
  obtain ⟨u, y, rfl, ru, ry⟩ := vals2 rv
  obtain rfl : u = Value.ref b := ru
  obtain ⟨tk, rfl⟩ := ry
  exact ⟨.tup ho hc hd (.cons (.tup ho2 hc2 hd2 (nested_nums (by simpa using rv2))) (.cons (.int _ _) .nil)), ckN_depth c⟩
end
end Eh
set_option Elab.async false
set_option linter.all false
set_option maxRecDepth 100000
set_option maxHeartbeats 4000000
namespace Eh
open PySem PySem.Spec PyProof.Rows L2
theorem At.len {K : PySem.W.Frag} {H : Hp} {v : V} {k : Str} {ps : List Pl} (h : At K H v (.node k ps)) : 2 ≤ ps.length ∧ ps.length ≤ 4 := by
  cases h with
  | node h1 h2 o a1 a2 r => exact ⟨a1, a2⟩
section
variable {P : Program} {w : World} {K : PySem.W.Frag} {mg : Str → Option Value} {base : Heap}
theorem dpl_nats {K : PySem.W.Frag} {H : Hp} : ∀ zs : List Nat, DpAll K H (zs.map natV) (zs.map fun (i : Nat) => PyData.int (i : Int))
  | [] => .nil
  | z :: zs => .cons (.int _) (dpl_nats zs)
theorem At.set {K : PySem.W.Frag} {H : Hp} {u : V} {x : Pl} (hx : At K H u x) : ∀ {us : List V} {ps : List Pl} {i : Nat}, AtAll K H us ps → i < us.length → AtAll K H (us.set i u) (ps.set i x)
  | _, _, 0, .cons h r, _ => .cons hx r
  | _, _, i + 1, .cons h r, hi => .cons h (At.set hx r (Nat.lt_of_succ_lt_succ hi))
  | _, _, i, .nil, hi => absurd hi (Nat.not_lt_zero _)
end
end Eh
set_option Elab.async false
set_option linter.all false
set_option maxRecDepth 100000
set_option maxHeartbeats 4000000
namespace Eh
open PySem PySem.Spec PyProof.Rows L2
section
variable {P : Program} {w : World} {K : PySem.W.Frag} {mg : Str → Option Value} {base : Heap}
theorem depth_ge1 : ∀ p : Pl, 1 ≤ depthOf p
  | .leaf _ _ => by rw [depthOf]; exact Nat.le_refl _
  | .node _ ps => by rw [depthOf]; omega
end
end Eh
set_option Elab.async false
set_option linter.all false
set_option maxRecDepth 100000
set_option maxHeartbeats 4000000
namespace Eh
open PySem PySem.Spec PyProof.Rows L2
theorem PrG.gr {K : PySem.W.Frag} {C a d : Addr} {H H' : Hp} {ns : List (Str × V)} (h : PrG K C H a ns) (g : Gr d H H') (D : D3 H d) : PrG K C H' a ns := by
  obtain ⟨dx, p, xs, e, hs, hN, gd⟩ := h
  obtain ⟨x, y, z, ed⟩ := D
  exact ⟨dx, p, xs, g.keep _ _ (fun z => by rw [z, ed] at e; cases e) e, (g.tk ⟨_, _, _, ed⟩).seq hs, hN.tk (g.tk ⟨_, _, _, ed⟩), gd⟩
theorem dp_pths {K : PySem.W.Frag} {H : Hp} : ∀ {us : List V} {ps : List (List Nat)}, PthsAt K H us ps → DpAll K H us (ps.map fun ns => PyData.tuple (ns.map fun (i : Nat) => PyData.int (i : Int)))
  | _, _, .nil => .nil
  | _, _, .cons h r => .cons (.tup h (dpl_nats _)) (dp_pths r)
theorem natsD_lay : ∀ ns : List Nat, PyData.canLayAll0 (ns.map fun (i : Nat) => PyData.int (i : Int)) = true ∧ PyData.depthAll (ns.map fun (i : Nat) => PyData.int (i : Int)) = 0
  | [] => ⟨rfl, rfl⟩
  | n :: ns => by
    obtain ⟨h1, h2⟩ := natsD_lay ns
    rw [List.map_cons]
    refine ⟨?_, ?_⟩
    · show (PyData.canLay0 (.int (n : Int)) && PyData.canLayAll0 _) = true
      rw [h1]
      rfl
    · show max (PyData.depth (.int (n : Int))) (PyData.depthAll _) = 0
      rw [h2]
      rfl
theorem pthsD_lay : ∀ ps : List (List Nat), PyData.canLayAll0 (ps.map fun ns => PyData.tuple (ns.map fun (i : Nat) => PyData.int (i : Int))) = true ∧ PyData.depthAll (ps.map fun ns => PyData.tuple (ns.map fun (i : Nat) => PyData.int (i : Int))) ≤ 1
  | [] => ⟨rfl, Nat.zero_le _⟩
  | ns :: ps => by
    obtain ⟨h1, h2⟩ := pthsD_lay ps
    obtain ⟨h3, h4⟩ := natsD_lay ns
    rw [List.map_cons]
    refine ⟨?_, ?_⟩
    · show (PyData.canLayAll0 (ns.map _) && PyData.canLayAll0 _) = true
      rw [h1, h3]
      rfl
    · show max (PyData.depthAll (ns.map _) + 1) (PyData.depthAll _) ≤ 1
      rw [h4]
      omega
theorem pthsD_shaped (ps : List (List Nat)) : SeqAt.shaped (.list (ps.map fun ns => PyData.tuple (ns.map fun (i : Nat) => PyData.int (i : Int)))) = true := by
  obtain ⟨h1, h2⟩ := pthsD_lay ps
  unfold SeqAt.shaped
  rw [show PyData.canLay0 (.list (ps.map fun ns => PyData.tuple (ns.map fun (i : Nat) => PyData.int (i : Int)))) = true from h1, Bool.true_and]
  refine decide_eq_true ?_
  show PyData.depthAll (ps.map fun ns => PyData.tuple (ns.map fun (i : Nat) => PyData.int (i : Int))) + 1 ≤ 64
  omega
/-- nodes within all bounds -/
theorem okB_of {p : Pl} (hk : plOk p = true) (hf : plFull p = true) (w : InW uni6 (nodesOf p)) (l : (nodesOf p).length ≤ 40) (c : countIn choiceKinds (nodesOf p) ≤ 10) (d : depthOf p ≤ 8) : okB (nodesOf p) = true := by
  have h4 := depth_tree hk hf
  have h5 := depth_ge1 p
  have h6 : (nubS (factsN (nodesOf p))).length ≤ 6 := nodup_le (us := uni6) (puts_nodup (factsN (nodesOf p))) fun z hz => facts_uni w ((puts_mem _ z).mp hz)
  unfold Eh.okB boundB
  rw [decide_eq_true l, decide_eq_true h6, decide_eq_true c, h4, decide_eq_true (show (1 : Int) ≤ ((depthOf p : Nat) : Int) by omega), decide_eq_true (show ((depthOf p : Nat) : Int) ≤ 8 by omega)]
  rfl
end Eh
set_option Elab.async false
set_option linter.all false
set_option maxRecDepth 100000
set_option maxHeartbeats 4000000
namespace Eh
open PySem PySem.Spec PyProof.Rows L2
open PySem.W (EachIs alike alikeAll dataLt dataLe rowLt)
def natsD (ns : List Nat) : List PyData := ns.map fun (n : Nat) => PyData.int (n : Int)
/-- a call as data -/
def ckD (c : CKey) : PyData := .tuple [.tuple (natsD c.1), .int (c.2 : Int)]
theorem natsD_map (ns : List Nat) : natsD ns = (ns.map fun (n : Nat) => (n : Int)).map PyData.int := by
  unfold natsD
  rw [List.map_map]
  rfl
theorem lexN_lt : ∀ a b : List Nat, HSP.lexN a b = decide ((a.map fun (n : Nat) => (n : Int)) < (b.map fun (n : Nat) => (n : Int)))
  | [], [] => by simp [HSP.lexN]
  | [], _ :: _ => by simp [HSP.lexN]
  | _ :: _, [] => by simp [HSP.lexN]
  | x :: a, y :: b => by
    rw [HSP.lexN, lexN_lt a b, List.map_cons, List.map_cons]
    by_cases h : x = y
    · simp [h, List.cons_lt_cons_iff]
    · have h' : ¬ (x : Int) = (y : Int) := by omega
      simp [h, h', List.cons_lt_cons_iff]
theorem natsD_eqv : ∀ a b : List Nat, PyData.eqvAll (natsD a) (natsD b) = decide (a = b)
  | [], [] => by simp [natsD, PyData.eqvAll]
  | [], _ :: _ => by simp [natsD, PyData.eqvAll]
  | _ :: _, [] => by simp [natsD, PyData.eqvAll]
  | x :: a, y :: b => by
    have ih := natsD_eqv a b
    show PyData.eqvAll (.int (x : Int) :: natsD a) (.int (y : Int) :: natsD b) = _
    rw [PyData.eqvAll, ih]
    by_cases h : x = y
    · simp [PyData.eqv, h]
    · have h' : ¬ (x : Int) = (y : Int) := by omega
      simp [PyData.eqv, h, h']
theorem natsD_alike : ∀ a b : List Nat, alikeAll (natsD a) (natsD b) = true := fun a b => by
  rw [natsD_map, natsD_map]
  exact PySem.W.alike_ints _ _
theorem ckD_alike (a b : CKey) : alike (ckD a) (ckD b) = true := by
  unfold ckD
  simp [alike, alikeAll, natsD_alike]
/-- a call ahead of another one -/
def ltC (a b : CKey) : Prop := HSP.lexN a.1 b.1 = true ∨ (a.1 = b.1 ∧ a.2 < b.2)
theorem ltC_ne {a b : CKey} (h : ltC a b) : a ≠ b := fun e => by
  subst e
  rcases h with h | h
  · rw [HSP.lexN_irr] at h; cases h
  · omega
theorem natsD_depth (ns : List Nat) : PyData.depthAll (natsD ns) = 0 := (natsD_lay ns).2
theorem ckD_depth (c : CKey) : (ckD c).depth ≤ 2 := by
  unfold ckD
  simp [PyData.depth, PyData.depthAll, natsD_depth]
theorem dp_call {K : PySem.W.Frag} {H : Hp} {v : V} {c : CKey} (h : CallAt K H v c) : Dp K H v (ckD c) := by
  obtain ⟨a, b, rfl, h1, h2⟩ := h
  exact .tup h1 (.cons (.tup h2 (dpl_nats _)) (.cons (.int _) .nil))
theorem dp_calls {K : PySem.W.Frag} {H : Hp} : ∀ {us : List V} {cs : List CKey}, CallsAt K H us cs → DpAll K H us (cs.map ckD)
  | _, _, .nil => .nil
  | _, _, .cons h r => .cons (dp_call h) (dp_calls r)
section
variable {X : Cx}
theorem reads_nats {h : Heap} : ∀ {ns : List Nat} {vs : List Value} {as : List Addr}, ReadsAll h vs (natsD ns) as → as = []
  | [], _, _, r => by
    have r' : ReadsAll h _ [] _ := r
    cases r'
    rfl
  | n :: ns, _, _, r => by
    have r' : ReadsAll h _ (.int (n : Int) :: natsD ns) _ := r
    cases r' with
    | cons h1 h2 =>
      cases h1
      rw [reads_nats h2]
      rfl
theorem reads_two {h : Heap} {ns : List Nat} {i : Int} {l : List Value} {as : List Addr} (r : ReadsAll h l [.tuple (natsD ns), .int i] as) : as = [] := by
  cases r with
  | cons r1 r2 =>
    cases r2 with
    | cons r3 r4 =>
      cases r3
      cases r4
      cases r1 with
      | tuple _ _ _ r5 =>
        rw [reads_nats r5]
        rfl
theorem reads_call {h : Heap} {v : Value} {c : CKey} {as : List Addr} (r : Reads h v (ckD c) as) : as = [] := by
  unfold ckD at r
  cases r with
  | tuple _ _ _ r => exact reads_two r
end
end Eh
set_option Elab.async false
set_option linter.all false
set_option maxRecDepth 100000
set_option maxHeartbeats 4000000
namespace Eh
open PySem PySem.Spec PyProof.Rows L2
theorem back_at {α β : Type} {F : α → β → Prop} : ∀ {xs : List α} {ys : List β}, Paired F xs ys → ∀ {i : Nat} {y : β}, ys[i]? = some y → ∃ x, xs[i]? = some x ∧ F x y
  | _, _, .nil, i, y, h => by simp at h
  | _, _, .cons r t, 0, y, h => by
    cases (show some _ = some y from h)
    exact ⟨_, rfl, r⟩
  | _, _, .cons r t, i + 1, y, h => back_at t (i := i) (by simpa using h)
end Eh
set_option Elab.async false
set_option linter.all false
set_option maxRecDepth 100000
set_option maxHeartbeats 4000000
set_option Elab.async false
set_option linter.all false
set_option maxRecDepth 100000
set_option maxHeartbeats 4000000
namespace Eh
open PySem PySem.Spec PyProof.Rows L2
def isCh (k : Str) : Bool := decide (k = "mine") || decide (k = "yours")
def handK (k : Str) : Str := if k = "mine" then "keeper" else "caller"
/-- a call, the hand, what comes of it -/
abbrev CRow := CKey × Str × Pl
def rowsCh (hd : Str) (pa : List Nat) (f : Pl → Pl) (i : Nat) : List Pl → List CRow
  | [] => []
  | q :: qs => ((pa, i), hd, f q) :: rowsCh hd pa f (i + 1) qs
def rowsOf (pl : Pl) (y : List Nat × Pl) : List CRow := match y.2 with
  | .leaf _ _ => []
  | .node k ps => if isCh k = true then rowsCh (handK k) y.1 (putP pl y.1) 0 ps else []
def rowsPl (pl : Pl) : List CRow := (subsP pl).flatMap (rowsOf pl)
theorem rowsCh_get {hd : Str} {pa : List Nat} {f : Pl → Pl} : ∀ {qs : List Pl} {i j : Nat} {r : CRow}, (rowsCh hd pa f i qs)[j]? = some r ↔ ∃ q, qs[j]? = some q ∧ r = ((pa, i + j), hd, f q)
  | [], i, j, r => by simp [rowsCh]
  | q :: qs, i, 0, r => by
    rw [rowsCh]
    constructor
    · intro h
      cases (show some _ = some r from h)
      exact ⟨q, rfl, rfl⟩
    · rintro ⟨q', h, rfl⟩
      cases (show some q = some q' from h)
      rfl
  | q :: qs, i, j + 1, r => by
    rw [rowsCh, List.getElem?_cons_succ, List.getElem?_cons_succ, rowsCh_get]
    constructor <;> (rintro ⟨q', h, rfl⟩; exact ⟨q', h, by rw [show i + 1 + j = i + (j + 1) by omega]⟩)
theorem rowsCh_len {hd : Str} {pa : List Nat} {f : Pl → Pl} : ∀ {qs : List Pl} {i : Nat}, (rowsCh hd pa f i qs).length = qs.length
  | [], i => rfl
  | q :: qs, i => by rw [rowsCh, List.length_cons, List.length_cons, rowsCh_len]
theorem open_ch {k : Str} (h : open2.contains k = true) : isCh k = false := by
  have h1 := has_of h
  unfold open2 at h1
  simp only [List.mem_cons, List.not_mem_nil, or_false] at h1
  rcases h1 with rfl | rfl <;> decide +kernel
theorem ch_open {k : Str} (h : isCh k = true) : open2.contains k = false := by
  cases e : open2.contains k with
  | false => rfl
  | true => rw [open_ch e] at h; cases h
/-- where a row comes from -/
theorem row_mem {pl : Pl} {r : CRow} : r ∈ rowsPl pl ↔ ∃ k ps q, (r.1.1, Pl.node k ps) ∈ subsP pl ∧ isCh k = true ∧ ps[r.1.2]? = some q ∧ r.2.1 = handK k ∧ r.2.2 = putP pl r.1.1 q := by
  unfold rowsPl
  rw [List.mem_flatMap]
  constructor
  · rintro ⟨⟨pa, z⟩, hm, hr⟩
    cases z with
    | leaf k t => cases hr
    | node k ps =>
      have hr : r ∈ (if isCh k = true then rowsCh (handK k) pa (putP pl pa) 0 ps else []) := hr
      split at hr
      · rename_i hc
        obtain ⟨j, hj⟩ := List.getElem?_of_mem hr
        obtain ⟨q, hq, rfl⟩ := rowsCh_get.mp hj
        exact ⟨k, ps, q, hm, hc, by rw [Nat.zero_add]; exact hq, rfl, rfl⟩
      · cases hr
  · rintro ⟨k, ps, q, hm, hc, hq, e1, e2⟩
    refine ⟨_, hm, ?_⟩
    show r ∈ (if isCh k = true then rowsCh (handK k) r.1.1 (putP pl r.1.1) 0 ps else [])
    rw [if_pos hc]
    have : (rowsCh (handK k) r.1.1 (putP pl r.1.1) 0 ps)[r.1.2]? = some r := rowsCh_get.mpr ⟨q, hq, by rw [Nat.zero_add, ← e1, ← e2]⟩
    exact List.mem_of_getElem? this
/-- in order -/
theorem rowsCh_srt {hd : Str} {pa : List Nat} {f : Pl → Pl} : ∀ {qs : List Pl} {i : Nat}, ((rowsCh hd pa f i qs).map (·.1)).Pairwise ltC
  | [], i => List.Pairwise.nil
  | q :: qs, i => by
    rw [rowsCh, List.map_cons]
    refine List.pairwise_cons.mpr ⟨fun c hc => ?_, rowsCh_srt⟩
    obtain ⟨r, hr, rfl⟩ := List.mem_map.mp hc
    obtain ⟨j, hj⟩ := List.getElem?_of_mem hr
    obtain ⟨q', _, rfl⟩ := rowsCh_get.mp hj
    exact .inr ⟨rfl, by show i < i + 1 + j; omega⟩
theorem rowsOf_place {pl : Pl} {y : List Nat × Pl} {r : CRow} (h : r ∈ rowsOf pl y) : r.1.1 = y.1 := by
  obtain ⟨pa, z⟩ := y
  cases z with
  | leaf k t => cases h
  | node k ps =>
    have h : r ∈ (if isCh k = true then rowsCh (handK k) pa (putP pl pa) 0 ps else []) := h
    split at h
    · obtain ⟨j, hj⟩ := List.getElem?_of_mem h
      obtain ⟨q, _, rfl⟩ := rowsCh_get.mp hj
      rfl
    · cases h
theorem rows_srt (pl : Pl) : ((rowsPl pl).map (·.1)).Pairwise ltC := by
  have go : ∀ l : List (List Nat × Pl), (l.map (·.1)).Pairwise (fun a b => HSP.lexN a b = true) → ((l.flatMap (rowsOf pl)).map (·.1)).Pairwise ltC := by
    intro l
    induction l with
    | nil => intro _; exact List.Pairwise.nil
    | cons y l ih =>
      intro h
      rw [List.map_cons, List.pairwise_cons] at h
      rw [List.flatMap_cons, List.map_append]
      refine List.pairwise_append.mpr ⟨?_, ih h.2, fun a ha b hb => ?_⟩
      · obtain ⟨pa, z⟩ := y
        cases z with
        | leaf k t => exact List.Pairwise.nil
        | node k ps =>
          show ((if isCh k = true then rowsCh (handK k) pa (putP pl pa) 0 ps else []).map (·.1)).Pairwise ltC
          split
          · exact rowsCh_srt
          · exact List.Pairwise.nil
      · obtain ⟨r, hr, rfl⟩ := List.mem_map.mp ha
        obtain ⟨r2, hr2, rfl⟩ := List.mem_map.mp hb
        obtain ⟨y2, hy2, hr2⟩ := List.mem_flatMap.mp hr2
        rw [show ltC r.1 r2.1 = (HSP.lexN r.1.1 r2.1.1 = true ∨ (r.1.1 = r2.1.1 ∧ r.1.2 < r2.1.2)) from rfl, rowsOf_place hr, rowsOf_place hr2]
        exact .inl (h.1 _ (List.mem_map_of_mem hy2))
  exact go _ (subs_srt pl)
theorem rows_nodup (pl : Pl) : ((rowsPl pl).map (·.1)).Nodup := (rows_srt pl).imp fun h => ltC_ne h
theorem subs_okk {pl : Pl} (hk : plOk pl = true) {y : List Nat × Pl} (h : y ∈ subsP pl) : plOk y.2 = true := by
  obtain ⟨j, hj⟩ := List.getElem?_of_mem h
  obtain ⟨x, _, h2⟩ := back_at (paths_subs hk) hj
  exact h2.2.1
/-- the calls of a hand are those of its rows -/
theorem hand_choice {k : Str} {hd : Str} (hc : isCh k = true) (hh : isHand hd) : (handK k = hd) ↔ (k = choiceOf hd) := by
  have hk : k = "mine" ∨ k = "yours" := by
    unfold isCh at hc
    simpa using hc
  rcases hk with rfl | rfl <;> rcases hh with rfl | rfl <;> decide +kernel
theorem isCh_choice {hd : Str} (hh : isHand hd) : isCh (choiceOf hd) = true := by
  rcases hh with rfl | rfl <;> decide +kernel
theorem rowsCh_fst {hd : Str} {pa : List Nat} {f : Pl → Pl} : ∀ {qs : List Pl} {i : Nat}, (rowsCh hd pa f i qs).map (·.1) = (List.range' i qs.length).map fun j => (pa, j)
  | [], i => rfl
  | q :: qs, i => by
    rw [rowsCh, List.map_cons, rowsCh_fst, List.length_cons, List.range'_succ, List.map_cons]
theorem calls_rows {pl : Pl} (hk : plOk pl = true) {hd : Str} (hh : isHand hd) : callsPl pl hd = ((rowsPl pl).filter fun r => decide (r.2.1 = hd)).map (·.1) := by
  have go : ∀ l : List (List Nat × Pl), (∀ y ∈ l, plOk y.2 = true) → l.flatMap (callsOf hd) = ((l.flatMap (rowsOf pl)).filter fun r => decide (r.2.1 = hd)).map (·.1) := by
    intro l
    induction l with
    | nil => intro _; rfl
    | cons y l ih =>
      intro h
      rw [List.flatMap_cons, List.flatMap_cons, List.filter_append, List.map_append, ih fun y hy => h y (List.mem_cons_of_mem _ hy)]
      congr 1
      obtain ⟨pa, z⟩ := y
      have hz := h _ List.mem_cons_self
      cases z with
      | leaf k t =>
        obtain ⟨n1, n2⟩ := leaf_no hz
        have : ¬ k = choiceOf hd := fun e => by
          rcases choice_two hh with h2 | h2
          · exact n1 (e.trans h2)
          · exact n2 (e.trans h2)
        rw [show callsOf hd (pa, Pl.leaf k t) = [] from if_neg this]
        rfl
      | node k ps =>
        show (if k = choiceOf hd then (List.range ps.length).map (fun i => (pa, i)) else []) = ((if isCh k = true then rowsCh (handK k) pa (putP pl pa) 0 ps else []).filter fun r => decide (r.2.1 = hd)).map (·.1)
        have all : ∀ r ∈ rowsCh (handK k) pa (putP pl pa) 0 ps, r.2.1 = handK k := fun r hr => by
          obtain ⟨j, hj⟩ := List.getElem?_of_mem hr
          obtain ⟨q, _, rfl⟩ := rowsCh_get.mp hj
          rfl
        by_cases e : k = choiceOf hd
        · have hc : isCh k = true := by rw [e]; exact isCh_choice hh
          rw [if_pos e, if_pos hc, List.filter_eq_self.mpr fun r hr => decide_eq_true ((all r hr).trans ((hand_choice hc hh).mpr e)), rowsCh_fst, List.range_eq_range']
        · rw [if_neg e]
          split
          · rename_i hc
            rw [List.filter_eq_nil_iff.mpr fun r hr => by
              rw [all r hr]
              simpa using fun z => e ((hand_choice hc hh).mp z)]
            rfl
          · rfl
  exact go _ fun y hy => subs_okk hk hy
end Eh
set_option Elab.async false
set_option linter.all false
set_option maxRecDepth 100000
set_option maxHeartbeats 8000000
namespace Eh
open PySem PySem.Spec PyProof.Rows L2
/-- a row as the dict has it: the pair of the hand and of what comes of the call -/
def RowAt (K : PySem.W.Frag) (H : Hp) (e : CEnt) (r : CRow) : Prop := e.1 = r.1 ∧ ∃ t v, e.2.2 = .ref t ∧ SqT K H t [.str r.2.1, v] ∧ At K H v r.2.2
theorem RowAt.tk {K : PySem.W.Frag} {H H' : Hp} {e : CEnt} {r : CRow} (h : RowAt K H e r) (t : Tk H H') : RowAt K H' e r := by
  obtain ⟨h1, a, v, h2, h3, h4⟩ := h
  exact ⟨h1, a, v, h2, t.seq h3, h4.tk t⟩
theorem subs_lenle : ∀ {pa : List Nat} {pl q : Pl}, (pa, q) ∈ subsP pl → (nodesOf q).length ≤ (nodesOf pl).length
  | [], .leaf k t, q, h => by
    rw [subsP] at h
    cases (List.mem_singleton.mp h)
    exact Nat.le_refl _
  | i :: r, .leaf k t, q, h => by
    rw [subsP] at h
    cases (Prod.mk.inj (List.mem_singleton.mp h)).1
  | pa, .node k ps, q, h => by
    rcases mem_node.mp h with ⟨_, rfl⟩ | ⟨_, j, r', p, _, hp, hq⟩
    · exact Nat.le_refl _
    · have := subs_lenle hq
      have := nodesOf_get hp
      rw [nodesOf, List.length_cons]
      omega
end Eh
set_option Elab.async false
set_option linter.all false
set_option maxRecDepth 100000
set_option maxHeartbeats 8000000
namespace Eh
open PySem PySem.Spec PyProof.Rows L2
section
variable {P : Program} {w : World} {A : Around} {E : Value → Shared → Prop} {s : Shared}
def NoCls (P : Program) (w : World) (n : Nat) (s : Shared) (v : Value) : Prop := ∀ (A : Around) (E : Value → Shared → Prop) (Q : Bool → Shared → Prop), Q false s → wpAny (model P w) A (ofAClassStatement n v) Q E s
def ByVal (P : Program) (w : World) (n : Nat) (s : Shared) (v : Value) : Prop := ∀ (A : Around) (E : Value → Shared → Prop) (Q : Bool → Shared → Prop), Q true s → wpAny (model P w) A (hashByValue n v) Q E s
theorem NoCls.int (n : Nat) (i : Int) (t : Tok) : NoCls P w n s (.int i t) := fun A E Q q => by
  rw [show ofAClassStatement n (.int i t) = pure false from by cases n <;> rfl]
  exact wpAny_pure q
theorem ByVal.int (n : Nat) (i : Int) (t : Tok) : ByVal P w n s (.int i t) := fun A E Q q => by
  rw [show hashByValue n (.int i t) = pure true from by cases n <;> rfl]
  exact wpAny_pure q
theorem NoCls.tup {n : Nat} {b : Addr} {o : Obj} {vs : Array Value} {m : Nat} (ho : s.heap.get? b = some o) (hc : o.cls = .type "tuple") (hd : o.data = .seq vs m) (all : ∀ v ∈ vs.toList, NoCls P w n s v) : NoCls P w (n + 1) s (.ref b) := fun A E Q q => by
  have hT : s.TypeIs (.ref b) "tuple" := ⟨o, ho, hc⟩
  unfold ofAClassStatement
  refine wpAny_bind (wpAny_typeOf hT ?_)
  dsimp only
  simp only [show (("tuple" : String) == "tuple") = true from by decide, if_true, Bool.not_true, Bool.false_eq_true, if_false]
  try refine wpAny_bind (wpAny_pure ?_)
  try simp only [Bool.not_true, Bool.false_eq_true, if_false]
  show wpAny _ _ (seqItems? (.ref b) >>= _) _ _ s
  refine wpAny_bind (wpAny_seqItems ho hd (wpAny_bind ?_))
  show wpAny _ _ (forIn vs _ _) _ _ s
  rw [← Array.forIn_toList]
  refine wpAny_forIn_list _ (fun left r s2 => r.1 = none ∧ s2 = s ∧ ∀ v ∈ left, NoCls P w n s v) _ (fun v left r s2 h => ?_) (fun r s2 h => ?_) _ _ ⟨rfl, rfl, all⟩
  · obtain ⟨_, rfl, h⟩ := h
    refine wpAny_bind (h v List.mem_cons_self _ _ _ ?_); simp only [Bool.false_eq_true, if_false]
    exact wpAny_pure ⟨rfl, rfl, fun u hu => h u (List.mem_cons_of_mem _ hu)⟩
  · obtain ⟨r1, r2⟩ := r
    obtain ⟨hr, rfl, _⟩ := h
    obtain rfl : r1 = none := hr
    exact wpAny_pure q
theorem ByVal.tup {n : Nat} {b : Addr} {o : Obj} {vs : Array Value} {m : Nat} (ho : s.heap.get? b = some o) (hc : o.cls = .type "tuple") (hd : o.data = .seq vs m) (all : ∀ v ∈ vs.toList, ByVal P w n s v) : ByVal P w (n + 1) s (.ref b) := fun A E Q q => by
  have hT : s.TypeIs (.ref b) "tuple" := ⟨o, ho, hc⟩
  unfold hashByValue
  refine wpAny_bind (wpAny_specialOf hT F.slot_tuple_hash.lookup ?_)
  show wpAny _ _ (seqItems? (.ref b) >>= _) _ _ s
  refine wpAny_bind (wpAny_seqItems ho hd (wpAny_bind ?_))
  show wpAny _ _ (forIn vs _ _) _ _ s
  rw [← Array.forIn_toList]
  refine wpAny_forIn_list _ (fun left r s2 => r.1 = none ∧ s2 = s ∧ ∀ v ∈ left, ByVal P w n s v) _ (fun v left r s2 h => ?_) (fun r s2 h => ?_) _ _ ⟨rfl, rfl, all⟩
  · obtain ⟨_, rfl, h⟩ := h
    refine wpAny_bind (h v List.mem_cons_self _ _ _ ?_); simp only [Bool.not_true, Bool.false_eq_true, if_false]
    exact wpAny_pure ⟨rfl, rfl, fun u hu => h u (List.mem_cons_of_mem _ hu)⟩
  · obtain ⟨r1, r2⟩ := r
    obtain ⟨hr, rfl, _⟩ := h
    obtain rfl : r1 = none := hr
    exact wpAny_pure q
theorem nums_items {h : Heap} : ∀ {ns : List Nat} {us : List Value}, NestedAll h (ns.map fun (n : Nat) => NestedKey.num (n : Int)) us → ∀ v ∈ us, (∃ i t, v = Value.int i t) ∨ ∃ b, v = .bool b
  | [], us, r, v, hv => by
    cases r
    cases hv
  | n :: ns, us, r, v, hv => by
    cases r with
    | cons a t =>
      rcases List.mem_cons.mp hv with rfl | hv
      · cases a with
        | bool e => exact .inr ⟨_, rfl⟩
        | int i t => exact .inl ⟨_, _, rfl⟩
      · exact nums_items t v hv
/-- calls as keys -/
def callKind (P : Program) (w : World) : HeapKind P w CKey where
  is := fun h c a => (nestedKind P w).is h (ckN c) a
  hash := fun c => (nestedKind P w).hash (ckN c)
  draws := fun c => (nestedKind P w).draws (ckN c)
  room := (nestedKind P w).room
  inj := fun hx hy => ckN_inj ((nestedKind P w).inj hx hy)
  keeps := (nestedKind P w).keeps
  pyHash := (nestedKind P w).pyHash
  eqBool := fun {A E s x y a b Q} hu hx hy q => (nestedKind P w).eqBool hu hx hy (by
    rw [show decide (ckN x = ckN y) = decide (x = y) from by
      by_cases e : x = y
      · rw [decide_eq_true e, decide_eq_true (congrArg ckN e)]
      · rw [decide_eq_false e, decide_eq_false fun z => e (ckN_inj z)]]
    exact q)
  quiet := (nestedKind P w).quiet
theorem call_items {h : Heap} {c : CKey} {a : Addr} (x : (callKind P w).is h c a) : ∃ o vs n, h.get? a = some o ∧ o.cls = .type "tuple" ∧ o.data = .seq vs n ∧ ∀ v ∈ vs.toList, ((∃ i t, v = Value.int i t) ∨ ∃ b, v = .bool b) ∨
    ∃ b o2 vs2 n2, v = .ref b ∧ h.get? b = some o2 ∧ o2.cls = .type "tuple" ∧ o2.data = .seq vs2 n2 ∧ ∀ u ∈ vs2.toList, (∃ i t, u = Value.int i t) ∨ ∃ b, u = .bool b := by
  obtain ⟨y, _⟩ := (show NestedIs h (ckN c) (.ref a) ∧ _ from x)
  unfold ckN at y
  cases y with
  | tup h1 h2 h3 h4 =>
    refine ⟨_, _, _, h1, h2, h3, fun v hv => ?_⟩
    generalize hz : Array.toList _ = zs at h4 hv
    cases h4 with
    | cons k1 k2 =>
      cases k2 with
      | cons k3 k4 =>
        cases k4
        rcases List.mem_cons.mp hv with rfl | hv
        · cases k1 with
          | tup m1 m2 m3 m4 => exact .inr ⟨_, _, _, _, rfl, m1, m2, m3, nums_items m4⟩
        · rw [List.mem_singleton.mp hv]
          cases k3 with
          | bool e => exact .inl (.inr ⟨_, rfl⟩)
          | int i t => exact .inl (.inl ⟨_, _, rfl⟩)
theorem NoCls.bool (n : Nat) (b : Bool) : NoCls P w n s (.bool b) := fun A E Q q => by
  rw [show ofAClassStatement n (.bool b) = pure false from by cases n <;> rfl]
  exact wpAny_pure q
theorem ByVal.bool (n : Nat) (b : Bool) : ByVal P w n s (.bool b) := fun A E Q q => by
  rw [show hashByValue n (.bool b) = pure true from by cases n <;> rfl]
  exact wpAny_pure q
theorem call_side : SetSide (callKind P w) where
  st := ⟨fun hk x => (nestedKind_stays (prog := P) (w := w)).stays hk x, fun x => (nestedKind_stays (prog := P) (w := w)).tuple x⟩
  cls := fun {A E s k a Q} x q => by
    obtain ⟨o, vs, n, h1, h2, h3, h4⟩ := call_items x
    refine NoCls.tup (n := 7) h1 h2 h3 (fun v hv => ?_) A E Q q
    rcases h4 v hv with (⟨i, t, rfl⟩ | ⟨b, rfl⟩) | ⟨b, o2, vs2, n2, rfl, g1, g2, g3, g4⟩
    · exact .int _ _ _
    · exact .bool _ _
    · refine .tup g1 g2 g3 fun u hu => ?_
      rcases g4 u hu with ⟨i, t, rfl⟩ | ⟨b, rfl⟩
      · exact .int _ _ _
      · exact .bool _ _
  byv := fun {A E s k a Q} x q => by
    obtain ⟨o, vs, n, h1, h2, h3, h4⟩ := call_items x
    refine ByVal.tup (n := 7) h1 h2 h3 (fun v hv => ?_) A E Q q
    rcases h4 v hv with (⟨i, t, rfl⟩ | ⟨b, rfl⟩) | ⟨b, o2, vs2, n2, rfl, g1, g2, g3, g4⟩
    · exact .int _ _ _
    · exact .bool _ _
    · refine .tup g1 g2 g3 fun u hu => ?_
      rcases g4 u hu with ⟨i, t, rfl⟩ | ⟨b, rfl⟩
      · exact .int _ _ _
      · exact .bool _ _
end
end Eh
set_option Elab.async false
set_option linter.all false
set_option maxRecDepth 100000
set_option maxHeartbeats 8000000
namespace Eh
open PySem PySem.Spec PyProof.Rows L2
open PySem.W (EachIs alike alikeAll dataLt dataLe rowLt)
theorem lexN_total : ∀ a b : List Nat, a ≠ b → HSP.lexN a b = true ∨ HSP.lexN b a = true
  | [], [], h => absurd rfl h
  | [], _ :: _, _ => .inl rfl
  | _ :: _, [], _ => .inr rfl
  | x :: a, y :: b, h => by
    rw [HSP.lexN, HSP.lexN]
    by_cases e : x = y
    · subst e
      rw [if_pos rfl, if_pos rfl]
      exact lexN_total a b fun z => h (by rw [z])
    · rw [if_neg e, if_neg (Ne.symm e)]
      rcases Nat.lt_or_gt_of_ne e with z | z
      · exact .inl (decide_eq_true z)
      · exact .inr (decide_eq_true z)
def leC (a b : CKey) : Bool := HSP.lexN a.1 b.1 || (decide (a.1 = b.1) && decide (a.2 ≤ b.2))
theorem leC_data (a b : CKey) : (!dataLt (ckD b) (ckD a)) = leC a b := by
  unfold ckD leC
  rw [PySem.W.dataLt_pair (by simp [alike, natsD_alike]) (by simp [alike]), PySem.W.dataLt_int]
  show (!(if PyData.eqvAll (natsD b.1) (natsD a.1) = true then _ else _)) = _
  rw [natsD_eqv]
  by_cases e : a.1 = b.1
  · rw [e, HSP.lexN_irr, decide_eq_true (show b.1 = b.1 from rfl), if_pos rfl, Bool.false_or, Bool.true_and]
    show (!(if decide ((b.2 : Int) = (a.2 : Int)) = true then false else decide ((b.2 : Int) < (a.2 : Int)))) = _
    by_cases l : a.2 ≤ b.2
    · rw [decide_eq_true l]
      have : ¬ (b.2 : Int) < (a.2 : Int) := by omega
      rw [decide_eq_false this]
      simp
    · rw [decide_eq_false l]
      have h1 : (b.2 : Int) < (a.2 : Int) := by omega
      have h2 : ¬ (b.2 : Int) = (a.2 : Int) := by omega
      rw [decide_eq_false h2, decide_eq_true h1]
      rfl
  · rw [decide_eq_false e, decide_eq_false (Ne.symm e), Bool.false_and, Bool.or_false, if_neg (by decide), PySem.W.dataLt_tuple, natsD_map, natsD_map]
    have := PySem.W.dataLt_ints (b.1.map fun (n : Nat) => (n : Int)) (a.1.map fun (n : Nat) => (n : Int))
    unfold PySem.W.rowLt at this
    rw [this, ← lexN_lt]
    rcases lexN_total a.1 b.1 e with z | z
    · rw [z, HSP.lexN_asym _ _ z]; rfl
    · rw [z, HSP.lexN_asym _ _ z]; rfl
theorem leC_anti {a b : CKey} (h1 : leC a b = true) (h2 : leC b a = true) : a = b := by
  unfold leC at h1 h2
  rw [Bool.or_eq_true, Bool.and_eq_true, decide_eq_true_eq, decide_eq_true_eq] at h1 h2
  rcases h1 with h1 | ⟨h1, k1⟩
  · rcases h2 with h2 | ⟨h2, k2⟩
    · rw [HSP.lexN_asym _ _ h1] at h2; cases h2
    · rw [h2, HSP.lexN_irr] at h1; cases h1
  · rcases h2 with h2 | ⟨h2, k2⟩
    · rw [h1, HSP.lexN_irr] at h2; cases h2
    · exact Prod.ext h1 (by omega)
theorem leC_total (a b : CKey) : (leC a b || leC b a) = true := by
  unfold leC
  by_cases e : a.1 = b.1
  · rw [e, HSP.lexN_irr]
    simp only [decide_true, Bool.false_or, Bool.true_and, Bool.or_eq_true, decide_eq_true_eq]
    omega
  · rcases lexN_total a.1 b.1 e with z | z
    · rw [z]; rfl
    · rw [z]; simp
theorem leC_trans (a b c : CKey) (h1 : leC a b = true) (h2 : leC b c = true) : leC a c = true := by
  unfold leC at h1 h2 ⊢
  rw [Bool.or_eq_true, Bool.and_eq_true, decide_eq_true_eq, decide_eq_true_eq] at h1 h2 ⊢
  rcases h1 with h1 | ⟨h1, k1⟩
  · rcases h2 with h2 | ⟨h2, k2⟩
    · by_cases e : a.1 = c.1
      · rw [e] at h1
        rw [HSP.lexN_asym _ _ h1] at h2
        cases h2
      · rcases lexN_total a.1 c.1 e with z | z
        · exact .inl z
        · rw [HSP.lexN_tr a.1 b.1 c.1 (HSP.lexN_asym _ _ h1) (HSP.lexN_asym _ _ h2)] at z
          cases z
    · rw [← h2]; exact .inl h1
  · rcases h2 with h2 | ⟨h2, k2⟩
    · rw [h1]; exact .inl h2
    · exact .inr ⟨h1.trans h2, Nat.le_trans k1 k2⟩
def sortedC (cs : List CKey) : Prop := cs.Pairwise fun a b => leC a b = true
theorem sortedC_eq {as bs : List CKey} (ha : sortedC as) (hb : sortedC bs) (pm : as.Perm bs) : as = bs := List.Perm.eq_of_pairwise (fun a b _ _ h1 h2 => leC_anti h1 h2) ha hb pm
theorem dataLe_pairs : dataLe false (fun (p : V × CKey) => ckD p.2) = fun p q => leC p.2 q.2 := by
  funext p q
  exact leC_data p.2 q.2
/-- pairs sorted -/
theorem sort_pairs (ps : List (V × CKey)) : ∃ qs : List (V × CKey), ps.mergeSort (dataLe false fun (p : V × CKey) => ckD p.2) = qs ∧ qs.Perm ps ∧ sortedC (qs.map (·.2)) := by
  refine ⟨_, rfl, List.mergeSort_perm _ _, ?_⟩
  have h := List.pairwise_mergeSort (le := fun (p q : V × CKey) => leC p.2 q.2) (fun a b c => leC_trans a.2 b.2 c.2) (fun a b => leC_total a.2 b.2) ps
  rw [dataLe_pairs]
  unfold sortedC
  rw [List.pairwise_map]
  exact h
def PairsAt (K : PySem.W.Frag) (H : Hp) (ps : List (V × CKey)) : Prop := ∀ p ∈ ps, CallAt K H p.1 p.2
theorem PairsAt.calls {K : PySem.W.Frag} {H : Hp} : ∀ {ps : List (V × CKey)}, PairsAt K H ps → CallsAt K H (ps.map (·.1)) (ps.map (·.2))
  | [], _ => .nil
  | p :: ps, h => .cons (h p List.mem_cons_self) (PairsAt.calls fun q hq => h q (List.mem_cons_of_mem _ hq))
theorem calls_pairs {K : PySem.W.Frag} {H : Hp} : ∀ {us : List V} {cs : List CKey}, CallsAt K H us cs → PairsAt K H (us.zip cs) ∧ (us.zip cs).map (·.1) = us ∧ (us.zip cs).map (·.2) = cs
  | _, _, .nil => ⟨fun _ h => (nomatch h), rfl, rfl⟩
  | _, _, .cons h t => by
    obtain ⟨a, b, c⟩ := calls_pairs t
    refine ⟨fun p hp => ?_, ?_, ?_⟩
    · rcases List.mem_cons.mp hp with rfl | hp
      · exact h
      · exact a p hp
    · rw [List.zip_cons_cons, List.map_cons, b]
    · rw [List.zip_cons_cons, List.map_cons, c]
theorem each_pairs {X : Cx} {pins : List (Addr × Obj)} {σ : L2.St} {H : Hp} {s : Shared} (I : Inv X pins σ H s) : ∀ {ps : List (V × CKey)} {vs : List Value}, PairsAt X.K H ps → Vals (ps.map (·.1)) vs → EachIs (fun (v : Value) (p : V × CKey) => RelV p.1 v ∧ ∃ as, Reads s.heap v (ckD p.2) as) vs ps
  | [], vs, _, r => by
    cases r
    exact .nil
  | p :: ps, vs, h, r => by
    cases r with
    | cons ru rr =>
      obtain ⟨as, hr⟩ := Dp.reads I _ _ _ (dp_call (h p List.mem_cons_self)) ru
      exact .cons ⟨ru, as, hr⟩ (each_pairs I (fun q hq => h q (List.mem_cons_of_mem _ hq)) rr)
theorem pairs_vals : ∀ {ps : List (V × CKey)} {vs : List Value}, EachIs (fun (v : Value) (p : V × CKey) => RelV p.1 v) vs ps → Vals (ps.map (·.1)) vs
  | _, _, .nil => .nil
  | _, _, .cons a t => .cons a (pairs_vals t)
theorem call_depth2 {u : Nat} (c : CKey) (h : u + 62 < cLine) : u + 2 + (ckD c).depth < cLine := by
  have := ckD_depth c
  omega
section
variable {X : Cx} {K : PySem.W.Frag}
/-- sorted(xs), xs a list of calls -/
def rSortLC (K : PySem.W.Frag) : List V → Hp → VK → Prop := fun vs H Q => ∃ (l : Addr) (us : List V) (cs : List CKey), vs = [.ref l] ∧ SqL K H l us ∧ CallsAt K H us cs ∧ cs.length < 1000000 ∧
  ∀ p us' cs', H p = none → CallsAt K H us' cs' → cs'.Perm cs → sortedC cs' → Q (.ref p) (upd H p (.lst us'))
theorem sortLC (hK : X.K = K) (hu : X.A.units + 64 < cLine) : CallR X (.builtin "sorted") (rSortLC K) := by
  subst hK
  intro pins s σ H vs us0 Q I r h
  obtain ⟨l, us, cs, rfl, hl, hc, hz, q⟩ := h
  rw [Vals.ref1 r]
  obtain ⟨its, rv, pl, _⟩ := I.list hl
  obtain ⟨pp, e1, e2⟩ := calls_pairs hc
  have rv : Vals ((us.zip cs).map (·.1)) its := by rw [e1]; exact rv
  have hf := each_pairs I pp rv
  have zl : (us.zip cs).length = cs.length := by rw [← congrArg List.length e2, List.length_map]
  obtain ⟨qs, eq, pm, srt⟩ := sort_pairs (us.zip cs)
  have small : (us.zip cs).length ≤ sizeLine := by rw [zl, sizeLine_eq]; omega
  refine PySem.W.sorted_data (s := s) (vs := its) (bs := us.zip cs) (enc := fun (p : V × CKey) => ckD p.2) (R := fun (v : Value) (p : V × CKey) => RelV p.1 v) pl.isList (hf.mono fun _ _ h => h.1) (hf.mono fun _ _ h => h.2) (PySem.W.AllAlike.of fun b b' => ckD_alike _ _) (PySem.W.Sortable.tuples fun b => ⟨_, _, rfl⟩) small (fun b _ => call_depth2 b.2 (by omega)) fun out h1 h2 => ?_
  rw [eq] at h2
  have rv2 := pairs_vals h2
  have pq : PairsAt X.K H qs := fun p hp => pp p (pm.mem_iff.mp hp)
  obtain ⟨e', he'⟩ := sortedAll_at s.heap its (List.toArray out)
  have hn : H (s.heap.objs.size + 1) = none := I.hok.fresh (Nat.le_succ _)
  have ql : (qs.map (·.1)).length ≤ sizeLine := by rw [List.length_map, pm.length_eq]; exact small
  refine ⟨.ref (s.heap.objs.size + 1), upd H (s.heap.objs.size + 1) (.lst (qs.map (·.1))), I.laid (t' := s.toks) (fun b o e => sortedAll_old e) (Nat.le_succ _) ⟨ql, out, e', rv2, he'⟩, rfl, q _ _ _ hn pq.calls ?_ srt⟩
  have := pm.map (·.2)
  rw [e2] at this
  exact this
/-- the set of calls at a: the calls, and where they stand -/
def ScO (P : Program) (w : World) (a : Addr) (L : List (CKey × Addr)) : HO := .ext fun h => ∃ es ep t, HSet (callKind P w) h a L es ep t
theorem sc_ok {P : Program} {w : World} {H : Hp} {h : Heap} {a : Addr} {L : List (CKey × Addr)} {es : Array (Int × Value)} {ep : Nat} {t : SetTable} (R : HSet (callKind P w) h a L es ep t) : ObjOk P w H h a (ScO P w a L) := by
  obtain ⟨o, ho, _⟩ := R.obj
  refine ⟨⟨es, ep, t, R⟩, ⟨o, ho⟩, fun h1 h2 p k => ?_⟩
  obtain ⟨es, ep, t, R⟩ := p
  exact ⟨es, ep, t, R.keep fun o e => k o e⟩
def StandC (K : PySem.W.Frag) (H : Hp) (L : List (CKey × Addr)) : Prop := ∀ e ∈ L, CallAt K H (.ref e.2) e.1
theorem stand_c {pins : List (Addr × Obj)} {σ : L2.St} {H : Hp} {s : Shared} (I : Inv X pins σ H s) {L : List (CKey × Addr)} (h : StandC X.K H L) : Stand (callKind X.prog X.w) s.heap L := fun e he => ck_is I (h e he)
theorem calls_ents {K : PySem.W.Frag} {H : Hp} : ∀ {us : List V} {cs : List CKey}, CallsAt K H us cs → ∃ L : List (CKey × Addr), us = L.map (fun e => V.ref e.2) ∧ cs = L.map (·.1) ∧ StandC K H L
  | _, _, .nil => ⟨[], rfl, rfl, fun _ h => (nomatch h)⟩
  | _, _, .cons h t => by
    obtain ⟨L, rfl, rfl, k⟩ := calls_ents t
    obtain ⟨a, b, rfl, _⟩ := id h
    refine ⟨(_, a) :: L, rfl, rfl, fun e he => ?_⟩
    rcases List.mem_cons.mp he with rfl | he
    · exact h
    · exact k e he
/-- set(xs), xs a list of calls -/
def rSetC2 (K : PySem.W.Frag) (P : Program) (w : World) : List V → Hp → VK → Prop := fun vs H Q => ∃ (l : Addr) (us : List V) (cs : List CKey), vs = [.ref l] ∧ SqL K H l us ∧ CallsAt K H us cs ∧ cs.length < 64 ∧
  ∀ a L, H a = none → StandC K H L → (L.map (·.1)).Nodup → (∀ c, c ∈ L.map (·.1) ↔ c ∈ cs) → Q (.ref a) (upd H a (ScO P w a L))
theorem setC2 {P : Program} {w : World} (hK : X.K = K) (hP : X.prog = P) (hw : X.w = w) (hc : X.calm = true) (hu : X.A.units + 64 < cLine) : CallR X (.type "set") (rSetC2 K P w) := by
  subst hK hP hw
  intro pins s σ H vs us0 Q I r h
  obtain ⟨l, us, cs, rfl, hl, hcs, few, q⟩ := h
  rw [Vals.ref1 r]
  obtain ⟨its, rv, pl, _⟩ := I.list hl
  obtain ⟨L0, rfl, rfl, k0⟩ := calls_ents hcs
  have hn : H s.heap.objs.size = none := I.hok.fresh (Nat.le_refl _)
  have ei : its = L0.map fun e => Value.ref e.2 := by
    rw [show (L0.map fun e => V.ref e.2) = (L0.map (·.2)).map V.ref from by rw [List.map_map]; rfl] at rv
    have : ∀ {as : List Addr} {vs : List Value}, Vals (as.map V.ref) vs → vs = as.map Value.ref := by
      intro as
      induction as with
      | nil => intro vs h; cases h; rfl
      | cons a as ih => intro vs h; cases h with | cons x t => rw [List.map_cons, ← ih t]; exact congrArg (· :: _) x
    rw [this rv, List.map_map]
    rfl
  refine set_of_list (P := X.prog) (w := X.w) call_side L0 (I.ok.hd hc) pl.isList (by simpa using ei) (stand_c I k0) (by rw [List.length_map] at few; exact few) (show X.A.in1.in1.in1.units + 8 < cLine from by show X.A.units + 1 + 1 + 1 + 8 < cLine; omega) fun h' tk L es ep t R g kp => ?_
  refine ⟨.ref s.heap.objs.size, upd H s.heap.objs.size (ScO X.prog X.w s.heap.objs.size L), I.laid (t' := tk) kp (Nat.le_refl _) (sc_ok R), rfl, q _ L hn (fun e he => k0 e (List.mem_of_mem_take (g.sub e he))) R.one fun c => ?_⟩
  have all := g.all
  have sub := g.sub
  rw [List.take_length] at all sub
  constructor
  · intro hm
    obtain ⟨e, he, rfl⟩ := List.mem_map.mp hm
    exact List.mem_map_of_mem (sub e he)
  · intro hm
    obtain ⟨e, he, rfl⟩ := List.mem_map.mp hm
    exact all e he
theorem perm_back {α β : Type} (f : α → β) {L : List α} {vs : List β} (h : (L.map f).Perm vs) : ∃ L' : List α, L'.Perm L ∧ vs = L'.map f := by
  generalize hm : L.map f = us at h
  induction h generalizing L with
  | nil => exact ⟨[], by rw [List.map_eq_nil_iff.mp hm], rfl⟩
  | cons x _ ih =>
    cases L with
    | nil => cases hm
    | cons e L =>
      injection hm with e1 e2
      obtain ⟨L', p, rfl⟩ := ih e2
      exact ⟨e :: L', p.cons e, by rw [List.map_cons, e1]⟩
  | swap x y l =>
    match L, hm with
    | e1 :: e2 :: L, hm =>
      injection hm with h1 h2
      injection h2 with h2 h3
      exact ⟨e2 :: e1 :: L, List.Perm.swap .., by rw [List.map_cons, List.map_cons, h1, h2, h3]⟩
  | trans _ _ ih1 ih2 =>
    obtain ⟨L1, p1, rfl⟩ := ih1 hm
    obtain ⟨L2, p2, rfl⟩ := ih2 rfl
    exact ⟨L2, p2.trans p1, rfl⟩
/-- sorted(set of calls) -/
def rSortSC (K : PySem.W.Frag) (P : Program) (w : World) : List V → Hp → VK → Prop := fun vs H Q => ∃ (a : Addr) (L : List (CKey × Addr)), vs = [.ref a] ∧ H a = some (ScO P w a L) ∧ StandC K H L ∧
  ∀ p us' cs', H p = none → CallsAt K H us' cs' → cs'.Perm (L.map (·.1)) → sortedC cs' → Q (.ref p) (upd H p (.lst us'))
theorem sortSC {P : Program} {w : World} (hK : X.K = K) (hP : X.prog = P) (hw : X.w = w) (hc : X.calm = true) (hu : X.A.units + 64 < cLine) : CallR X (.builtin "sorted") (rSortSC K P w) := by
  subst hK hP hw
  intro pins s σ H vs us0 Q I r h
  obtain ⟨a, L, rfl, ha, hk, q⟩ := h
  rw [Vals.ref1 r]
  obtain ⟨⟨es, ep, t, R⟩, _⟩ := (show ObjOk X.prog X.w H s.heap a (ScO X.prog X.w a L) from I.hok a _ ha)
  obtain ⟨o, ho, hex, hd⟩ := R.obj
  have sz := size_of R.row
  have few := R.fw
  refine Calls.call_function_entry PyProof.Rows.kind_sorted PyProof.Rows.plain_sorted PyProof.Rows.entry_sorted (PyProof.Rows.args_sorted1 _) ?_
  unfold Builtin.«sorted»
  refine wpAny_bind (m := checkCount "sorted" 1 1 _) (wpAny_pure (wpAny_bind (collect_set (A := X.A.in1) (I.ok.hd hc) ⟨o, ho, hex.1, hd⟩ R.fit (by unfold scanBound; omega) R.tab.ris R.ld fun s1 its kp hz g1 o1 pm => ?_)))
  rw [R.row, show (eRows (callKind X.prog X.w) L).map (·.2) = L.map fun e => Value.ref e.2 from by unfold eRows; rw [List.map_map]; rfl] at pm
  obtain ⟨L1, pm1, rfl⟩ := perm_back _ pm.symm
  obtain ⟨ps, hps⟩ : ∃ ps : List (V × CKey), ps = L1.map fun e => (V.ref e.2, e.1) := ⟨_, rfl⟩
  have pp : PairsAt X.K H ps := fun p hp => by
    rw [hps] at hp
    obtain ⟨e, he, rfl⟩ := List.mem_map.mp hp
    exact hk e (pm1.mem_iff.mp he)
  have p2 : ps.map (·.2) = L1.map (·.1) := by rw [hps, List.map_map]; rfl
  have rv : Vals (ps.map (·.1)) (L1.map fun e => Value.ref e.2) := by
    rw [hps, List.map_map]
    have : ∀ l : List (CKey × Addr), Vals (l.map ((·.1) ∘ fun e => (V.ref e.2, e.1))) (l.map fun e => Value.ref e.2) := fun l => by
      induction l with
      | nil => exact .nil
      | cons e l ih => exact .cons rfl ih
    exact this L1
  have zl : ps.length = L.length := by rw [hps, List.length_map, pm1.length_eq]
  have il : (L1.map fun e => Value.ref e.2).length ≤ sizeLine := by rw [List.length_map, pm1.length_eq, sizeLine_eq]; omega
  have hf := each_pairs I pp rv
  refine wpAny_bind (wpAny_newList ?_ il)
  generalize (L1.map fun e => Value.ref e.2) = its at rv hf il ⊢
  have hoL : (s1.heap.push (seqObj "list" its.toArray 0)).get? s1.heap.objs.size = some (seqObj "list" its.toArray 0) := Heap.get?_push_size _ rfl
  have kp2 : ∀ b o, s.heap.get? b = some o → (s1.heap.push (seqObj "list" its.toArray 0)).get? b = some o := fun b o e => Heap.get?_push_of_some _ (kp b o e)
  have each1 : EachIs (fun (v : Value) (p : V × CKey) => RelV p.1 v) its ps := hf.mono fun _ _ h => h.1
  have each2 : EachIs (fun (v : Value) (p : V × CKey) => ∃ as, Reads (s1.heap.push (seqObj "list" its.toArray 0)) v (ckD p.2) as ∧ s1.heap.objs.size ∉ as) its ps := hf.mono fun _ _ h => by
    obtain ⟨_, as, hr⟩ := h
    obtain rfl := reads_call hr
    exact ⟨[], PyProof.Rows.Reads.keeps kp2 hr, List.not_mem_nil⟩
  obtain ⟨qs, eq, pmq, srt⟩ := sort_pairs ps
  refine wpAny_bind (wpAny_holding (PySem.W.list_sort_data (s := { s1 with heap := s1.heap.push (seqObj "list" its.toArray 0) }) (R := fun (v : Value) (p : V × CKey) => RelV p.1 v) (enc := fun (p : V × CKey) => ckD p.2) hoL each1 each2 (PySem.W.AllAlike.of fun b b' => ckD_alike _ _) (PySem.W.Sortable.tuples fun b => ⟨_, _, rfl⟩) (by rw [zl, sizeLine_eq]; omega) (fun b _ => ?_) fun out h1 h2 => ?_))
  · have := ckD_depth b.2
    show X.A.units + 1 + 1 + (ckD b.2).depth < cLine
    omega
  · rw [eq] at h2
    have rv2 := pairs_vals h2
    have pq : PairsAt X.K H qs := fun p hp => pp p (pmq.mem_iff.mp hp)
    obtain ⟨e', he'⟩ := PyProof.Rows.sortedHeap_at (vs := its) (out := out.toArray) hoL
    have hn : H s1.heap.objs.size = none := I.hok.fresh hz
    have old : ∀ b u, s.heap.get? b = some u → (PyProof.Rows.sortedHeap (s1.heap.push (seqObj "list" its.toArray 0)) s1.heap.objs.size its out.toArray).get? b = some u := fun b u e => by
      have hb : b < s1.heap.objs.size := Heap.lt_size (kp b u e)
      rw [PyProof.Rows.sortedHeap_old (Nat.ne_of_lt hb) (by rw [size_push']; exact Nat.lt_succ_of_lt hb)]
      exact kp2 b u e
    have ql : (qs.map (·.1)).length ≤ sizeLine := by rw [List.length_map, pmq.length_eq, zl, sizeLine_eq]; omega
    have J : Inv X pins σ (upd H s1.heap.objs.size (.lst (qs.map (·.1)))) { s with heap := PyProof.Rows.sortedHeap (s1.heap.push (seqObj "list" its.toArray 0)) s1.heap.objs.size its out.toArray, gens := s1.gens, drawn := s1.drawn, toks := s1.toks } :=
      I.call (ch := []) (Un.laid old hz hn) (I.hok.laid old hz ⟨ql, out, e', rv2, he'⟩) (by rw [g1]; exact I.bare) (fun _ z => nomatch z)
    have es1 : ({ s1 with heap := PyProof.Rows.sortedHeap (s1.heap.push (seqObj "list" its.toArray 0)) s1.heap.objs.size its out.toArray } : Shared) = { s with heap := PyProof.Rows.sortedHeap (s1.heap.push (seqObj "list" its.toArray 0)) s1.heap.objs.size its out.toArray, gens := s1.gens, drawn := s1.drawn, toks := s1.toks } := by
      cases s1
      cases s
      cases o1
      rfl
    refine wpAny_pure ?_
    rw [es1]
    refine ⟨_, rfl, .ref s1.heap.objs.size, _, J, rfl, q _ _ _ hn pq.calls ?_ srt⟩
    have := pmq.map (·.2)
    rw [p2] at this
    exact this.trans (pm1.map (·.1))
end
end Eh
set_option Elab.async false
set_option linter.all false
set_option maxRecDepth 100000
set_option maxHeartbeats 8000000
namespace Eh
open PySem PySem.Spec PyProof.Rows L2
/-- a place that is a choice stays one behind a call at another place -/
theorem sub_stay : ∀ {pa : List Nat} {pl : Pl} {k : Str} {ps : List Pl} {pb : List Nat} {k2 : Str} {qs : List Pl} {x : Pl}, (pa, Pl.node k ps) ∈ subsP pl → isCh k = true → (pb, Pl.node k2 qs) ∈ subsP pl → isCh k2 = true → pa ≠ pb → (pb, Pl.node k2 qs) ∈ subsP (putP pl pa x)
  | pa, .leaf k0 t, k, ps, pb, k2, qs, x, h, _, _, _, _ => by
    rw [subsP] at h
    cases (Prod.mk.inj (List.mem_singleton.mp h)).2
  | pa, .node k0 ps0, k, ps, pb, k2, qs, x, h, hc, h2, hc2, ne => by
    rcases mem_node.mp h with ⟨rfl, e⟩ | ⟨ho, i, r, p, rfl, hp, hr⟩
    · injection e with e1 e2
      subst e1
      rcases mem_node.mp h2 with ⟨rfl, _⟩ | ⟨ho, _⟩
      · exact absurd rfl ne
      · rw [ch_open hc] at ho; cases ho
    · rcases mem_node.mp h2 with ⟨rfl, e⟩ | ⟨_, j, r2, p2, rfl, hp2, hr2⟩
      · injection e with e1 e2
        subst e1
        rw [ch_open hc2] at ho; cases ho
      · rw [putP_node hp]
        by_cases eij : i = j
        · subst eij
          rw [hp] at hp2
          cases hp2
          exact mem_node.mpr (.inr ⟨ho, i, r2, _, rfl, set_get hp, sub_stay hr hc hr2 hc2 fun z => ne (by rw [z])⟩)
        · exact mem_node.mpr (.inr ⟨ho, j, r2, p2, rfl, by rw [List.getElem?_set_ne eij]; exact hp2, hr2⟩)
theorem put_comm : ∀ {pa : List Nat} {pl : Pl} {k : Str} {ps : List Pl} {pb : List Nat} {k2 : Str} {qs : List Pl} {x y : Pl}, (pa, Pl.node k ps) ∈ subsP pl → isCh k = true → (pb, Pl.node k2 qs) ∈ subsP pl → isCh k2 = true → pa ≠ pb → putP (putP pl pa x) pb y = putP (putP pl pb y) pa x
  | pa, .leaf k0 t, k, ps, pb, k2, qs, x, y, h, _, _, _, _ => by
    rw [subsP] at h
    cases (Prod.mk.inj (List.mem_singleton.mp h)).2
  | pa, .node k0 ps0, k, ps, pb, k2, qs, x, y, h, hc, h2, hc2, ne => by
    rcases mem_node.mp h with ⟨rfl, e⟩ | ⟨ho, i, r, p, rfl, hp, hr⟩
    · injection e with e1 e2
      subst e1
      rcases mem_node.mp h2 with ⟨rfl, _⟩ | ⟨ho, _⟩
      · exact absurd rfl ne
      · rw [ch_open hc] at ho; cases ho
    · rcases mem_node.mp h2 with ⟨rfl, e⟩ | ⟨_, j, r2, p2, rfl, hp2, hr2⟩
      · injection e with e1 e2
        subst e1
        rw [ch_open hc2] at ho; cases ho
      · rw [putP_node hp, putP_node hp2]
        by_cases eij : i = j
        · subst eij
          rw [hp] at hp2
          cases hp2
          rw [putP_node (set_get hp), putP_node (set_get hp), List.set_set, List.set_set, put_comm hr hc hr2 hc2 fun z => ne (by rw [z])]
        · rw [putP_node (show (ps0.set i (putP p r x))[j]? = some p2 from by rw [List.getElem?_set_ne eij]; exact hp2), putP_node (show (ps0.set j (putP p2 r2 y))[i]? = some p from by rw [List.getElem?_set_ne (Ne.symm eij)]; exact hp), List.set_comm _ _ eij]
theorem put_there : ∀ {pa : List Nat} {pl q x : Pl}, (pa, q) ∈ subsP pl → (pa, x) ∈ subsP (putP pl pa x)
  | [], pl, q, x, _ => by rw [putP_nil]; exact subs_nil x
  | i :: r, .leaf k0 t, q, x, h => by
    rw [subsP] at h
    cases (Prod.mk.inj (List.mem_singleton.mp h)).1
  | i :: r, .node k0 ps0, q, x, h => by
    rcases mem_node.mp h with ⟨e, _⟩ | ⟨ho, j, r2, p, e, hp, hr⟩
    · cases e
    · injection e with e1 e2
      subst e1 e2
      rw [putP_node hp]
      exact mem_node.mpr (.inr ⟨ho, i, r, _, rfl, set_get hp, put_there hr⟩)
theorem plsOk_set : ∀ {ps : List Pl} {i : Nat} {x : Pl}, plsOk ps = true → plOk x = true → plsOk (ps.set i x) = true
  | [], i, x, _, _ => rfl
  | p :: ps, 0, x, h, hx => by
    rw [plsOk, Bool.and_eq_true] at h
    show plsOk (x :: ps) = true
    rw [plsOk, hx, h.2]
    rfl
  | p :: ps, i + 1, x, h, hx => by
    rw [plsOk, Bool.and_eq_true] at h
    show plsOk (p :: ps.set i x) = true
    rw [plsOk, h.1, plsOk_set h.2 hx]
    rfl
theorem put_okP : ∀ {pa : List Nat} {pl x : Pl}, plOk pl = true → plOk x = true → plOk (putP pl pa x) = true
  | [], pl, x, _, hx => by rw [putP_nil]; exact hx
  | i :: r, .leaf k t, x, h, _ => by rw [putP]; exact h
  | i :: r, .node k ps, x, h, hx => by
    rw [putP]
    split
    · rename_i q hq
      rw [plOk, Bool.and_eq_true] at h ⊢
      exact ⟨h.1, plsOk_set h.2 (put_okP (plsOk_get h.2 hq) hx)⟩
    · exact h
theorem node_two {k : Str} {ps : List Pl} (hk : plOk (.node k ps) = true) (g : GoodN (nodesOf (.node k ps))) : 2 ≤ ps.length := by
  have h := g (k, .int (ps.length : Int)) (by rw [nodesOf]; exact List.mem_cons_self)
  rw [plOk, Bool.and_eq_true] at hk
  have hn := hk.1
  have h : nodeAB k (.int (ps.length : Int)) = true := h
  unfold nodeAB at h
  have hin := has_of hn
  unfold nodeKinds at hin
  simp only [List.mem_cons, List.not_mem_nil, or_false] at hin
  have f1 : factKinds.contains k = false := by rcases hin with rfl | rfl | rfl | rfl <;> decide +kernel
  have f2 : sureKinds.contains k = false := by rcases hin with rfl | rfl | rfl | rfl <;> decide +kernel
  rw [f1, f2, hn] at h
  simp only [Bool.false_eq_true, if_false, Bool.true_and] at h
  unfold fewV at h
  simp only [Bool.and_eq_true, decide_eq_true_eq] at h
  omega
theorem leaf_none {ws : List Str} (hw : ∀ k, ws.contains k = true → nodeKinds.contains k = true) {k : Str} {t : V} (h : plOk (.leaf k t) = true) : countIn ws (nodesOf (.leaf k t)) = 0 := by
  rw [plOk, Bool.not_eq_true'] at h
  rw [nodesOf, countIn_one, if_neg fun z => by rw [hw k z] at h; cases h]
mutual
theorem inner_two : ∀ {p : Pl}, plOk p = true → GoodN (nodesOf p) → 2 * countIn nodeKinds (nodesOf p) + 1 ≤ (nodesOf p).length
  | .leaf k t, h, _ => by
    rw [leaf_none (fun _ z => z) h, nodesOf]
    exact Nat.le_refl _
  | .node k ps, h, g => by
    have h2 := node_two h g
    rw [plOk, Bool.and_eq_true] at h
    rw [nodesOf] at g ⊢
    have := inners_two h.2 fun n hn => g n (List.mem_cons_of_mem _ hn)
    rw [show (k, V.int (ps.length : Int)) :: nodesAll ps = [(k, V.int (ps.length : Int))] ++ nodesAll ps from rfl, countIn_app, countIn_one, if_pos h.1, List.length_append, List.length_singleton]
    omega
theorem inners_two : ∀ {ps : List Pl}, plsOk ps = true → GoodN (nodesAll ps) → 2 * countIn nodeKinds (nodesAll ps) + ps.length ≤ (nodesAll ps).length
  | [], _, _ => Nat.le_refl _
  | p :: ps, h, g => by
    rw [plsOk, Bool.and_eq_true] at h
    rw [nodesAll] at g ⊢
    have a := inner_two h.1 fun n hn => g n (List.mem_append_left _ hn)
    have b := inners_two h.2 fun n hn => g n (List.mem_append_right _ hn)
    rw [countIn_app, List.length_append, List.length_cons]
    omega
end
mutual
theorem full_of : ∀ {p : Pl}, plOk p = true → GoodN (nodesOf p) → plFull p = true
  | .leaf k t, _, _ => by rw [plFull]
  | .node k ps, h, g => by
    have h2 := node_two h g
    rw [plOk, Bool.and_eq_true] at h
    rw [nodesOf] at g
    rw [plFull, fulls_of h.2 fun n hn => g n (List.mem_cons_of_mem _ hn)]
    cases ps with
    | nil => simp at h2
    | cons p ps => rfl
theorem fulls_of : ∀ {ps : List Pl}, plsOk ps = true → GoodN (nodesAll ps) → plsFull ps = true
  | [], _, _ => by rw [plsFull]
  | p :: ps, h, g => by
    rw [plsOk, Bool.and_eq_true] at h
    rw [nodesAll] at g
    rw [plsFull, full_of h.1 fun n hn => g n (List.mem_append_left _ hn), fulls_of h.2 fun n hn => g n (List.mem_append_right _ hn)]
    rfl
end
/-- a tree that fits -/
structure Fit (pl : Pl) : Prop where
  ok : plOk pl = true
  w : InW uni6 (nodesOf pl)
  l : (nodesOf pl).length ≤ 11
  good : GoodN (nodesOf pl)
theorem Drawn.fit {pl : Pl} (d : Drawn pl) : Fit pl := ⟨d.ok, d.w, d.l, d.good⟩
theorem Fit.inner {pl : Pl} (f : Fit pl) : countIn nodeKinds (nodesOf pl) ≤ 5 := by
  have := inner_two f.ok f.good
  have := f.l
  omega
theorem Fit.few {pl : Pl} (f : Fit pl) : countIn choiceKinds (nodesOf pl) ≤ 5 := Nat.le_trans (countIn_mono (fun k h => choice_inner (k := k) h) (nodesOf pl)) f.inner
theorem Fit.okB {pl : Pl} (f : Fit pl) : okB (nodesOf pl) = true := by
  have h1 := f.inner
  have h2 := f.few
  have h3 := depth_inner f.ok
  have h4 := f.l
  exact okB_of f.ok (full_of f.ok f.good) f.w (by omega) (by omega) (by omega)
theorem Fit.lt {pl : Pl} (f : Fit pl) : (nodesOf pl).length < 1000 := by have := f.l; omega
theorem Fit.nok {pl : Pl} (f : Fit pl) : ∀ n ∈ nodesOf pl, NOk n := nok_of f.good f.w
theorem put_in2 {pl : Pl} {pa : List Nat} {k : Str} {ps : List Pl} {i : Nat} {q : Pl} (hk : plOk pl = true) (hl : (nodesOf pl).length < 1000) (hm : (pa, .node k ps) ∈ subsP pl) (hq : ps[i]? = some q) :
    (∀ n ∈ nodesOf (putP pl pa q), n ∈ nodesOf pl) ∧ (nodesOf (putP pl pa q)).length ≤ (nodesOf pl).length ∧ (isCh k = true → countIn choiceKinds (nodesOf (putP pl pa q)) < countIn choiceKinds (nodesOf pl)) := by
  obtain ⟨o, rest, _, e2, e3⟩ := walk_place hk hl hm
  have e4 : nodesOf (.node k ps) = (k, .int (ps.length : Int)) :: (nodesAll (ps.take i) ++ (nodesOf q ++ nodesAll (ps.drop (i + 1)))) := by
    rw [nodesOf, nodesAll_split hq]
  have e5 : nodesOf pl = (nodesOf pl).take o ++ (nodesOf (.node k ps) ++ rest) := by rw [← e2, List.take_append_drop]
  rw [e3 q]
  refine ⟨fun n hn => ?_, ?_, fun hc => ?_⟩
  · rw [e5, e4]
    rw [List.mem_append, List.mem_append] at hn
    rcases hn with hn | hn | hn
    · exact List.mem_append_left _ hn
    · exact List.mem_append_right _ (List.mem_append_left _ (List.mem_cons_of_mem _ (List.mem_append_right _ (List.mem_append_left _ hn))))
    · exact List.mem_append_right _ (List.mem_append_right _ hn)
  · have h1 := congrArg List.length e5
    rw [e4] at h1
    simp only [List.length_append, List.length_cons] at h1 ⊢
    omega
  · have h1 := congrArg (countIn choiceKinds) e5
    have hck : choiceKinds.contains k = true := by
      unfold isCh at hc
      rw [Bool.or_eq_true, decide_eq_true_eq, decide_eq_true_eq] at hc
      rcases hc with rfl | rfl <;> decide +kernel
    rw [e4, show (k, V.int (ps.length : Int)) :: (nodesAll (ps.take i) ++ (nodesOf q ++ nodesAll (ps.drop (i + 1)))) = [(k, V.int (ps.length : Int))] ++ (nodesAll (ps.take i) ++ (nodesOf q ++ nodesAll (ps.drop (i + 1)))) from rfl] at h1
    simp only [countIn_app, countIn_one, hck, if_true] at h1 ⊢
    omega
theorem Fit.part {pl : Pl} {pa : List Nat} {q : Pl} (f : Fit pl) (h : (pa, q) ∈ subsP pl) : Fit q := by
  obtain ⟨o, rest, _, e2, _⟩ := walk_place f.ok f.lt h
  have hin : ∀ n ∈ nodesOf q, n ∈ nodesOf pl := fun n hn => List.mem_of_mem_drop (i := o) (by rw [e2]; exact List.mem_append_left _ hn)
  exact ⟨subs_okk f.ok h, fun k z hk => f.w k z (hin _ hk), Nat.le_trans (subs_lenle h) f.l, fun n hn => f.good n (hin n hn)⟩
theorem Fit.kid {k : Str} {ps : List Pl} {i : Nat} {q : Pl} (f : Fit (.node k ps)) (h : ps[i]? = some q) : Fit q := by
  have e : nodesOf (.node k ps) = (k, .int (ps.length : Int)) :: (nodesAll (ps.take i) ++ (nodesOf q ++ nodesAll (ps.drop (i + 1)))) := by rw [nodesOf, nodesAll_split h]
  have hin : ∀ n ∈ nodesOf q, n ∈ nodesOf (.node k ps) := fun n hn => by
    rw [e]
    exact List.mem_cons_of_mem _ (List.mem_append_right _ (List.mem_append_left _ hn))
  have hok := f.ok
  rw [plOk, Bool.and_eq_true] at hok
  refine ⟨plsOk_get hok.2 h, fun k z hk => f.w k z (hin _ hk), ?_, fun n hn => f.good n (hin n hn)⟩
  have hl := f.l
  rw [e] at hl
  simp only [List.length_append, List.length_cons] at hl
  omega
theorem Fit.put {pl : Pl} {pa : List Nat} {k : Str} {ps : List Pl} {i : Nat} {q : Pl} (f : Fit pl) (hm : (pa, .node k ps) ∈ subsP pl) (hq : ps[i]? = some q) : Fit (putP pl pa q) := by
  obtain ⟨hin, hl, _⟩ := put_in2 f.ok f.lt hm hq
  exact ⟨put_okP f.ok ((f.part hm).kid hq).ok, fun k z hk => f.w k z (hin _ hk), Nat.le_trans hl f.l, fun n hn => f.good n (hin n hn)⟩
/-- a call of a tree, with the choice that it is made at -/
structure CallOf (pl : Pl) (c : CKey) (k : Str) (ps : List Pl) (q : Pl) : Prop where
  m : (c.1, Pl.node k ps) ∈ subsP pl
  ch : isCh k = true
  q : ps[c.2]? = some q
theorem CallOf.stay {pl : Pl} {c c2 : CKey} {k k2 : Str} {ps qs : List Pl} {q q2 : Pl} (h : CallOf pl c k ps q) (h2 : CallOf pl c2 k2 qs q2) (ne : c.1 ≠ c2.1) : CallOf (putP pl c.1 q) c2 k2 qs q2 := ⟨sub_stay h.m h.ch h2.m h2.ch ne, h2.ch, h2.q⟩
theorem CallOf.comm {pl : Pl} {c c2 : CKey} {k k2 : Str} {ps qs : List Pl} {q q2 : Pl} (h : CallOf pl c k ps q) (h2 : CallOf pl c2 k2 qs q2) (ne : c.1 ≠ c2.1) : putP (putP pl c.1 q) c2.1 q2 = putP (putP pl c2.1 q2) c.1 q := put_comm h.m h.ch h2.m h2.ch ne
/-- all calls, as the law lists them -/
def allC (pl : Pl) : List CKey := callsPl pl "keeper" ++ callsPl pl "caller"
theorem hand_two (k : Str) : handK k = "keeper" ∨ handK k = "caller" := by
  unfold handK
  split
  · exact .inl rfl
  · exact .inr rfl
theorem mem_allC {pl : Pl} (hk : plOk pl = true) {c : CKey} : c ∈ allC pl ↔ ∃ k ps q, CallOf pl c k ps q := by
  unfold allC
  rw [List.mem_append, calls_rows hk (.inr rfl), calls_rows hk (.inl rfl)]
  constructor
  · intro h
    have : ∃ r ∈ rowsPl pl, r.1 = c := by
      rcases h with h | h <;> (obtain ⟨r, hr, e⟩ := List.mem_map.mp h; exact ⟨r, (List.mem_filter.mp hr).1, e⟩)
    obtain ⟨r, hr, rfl⟩ := this
    obtain ⟨k, ps, q, hm, hc, hq, _, _⟩ := row_mem.mp hr
    exact ⟨k, ps, q, hm, hc, hq⟩
  · rintro ⟨k, ps, q, hm, hc, hq⟩
    have hr : ((c, handK k, putP pl c.1 q) : CRow) ∈ rowsPl pl := row_mem.mpr ⟨k, ps, q, hm, hc, hq, rfl, rfl⟩
    rcases hand_two k with e | e
    · exact .inl (List.mem_map.mpr ⟨_, List.mem_filter.mpr ⟨hr, decide_eq_true e⟩, rfl⟩)
    · exact .inr (List.mem_map.mpr ⟨_, List.mem_filter.mpr ⟨hr, decide_eq_true e⟩, rfl⟩)
theorem allC_nodup {pl : Pl} (hk : plOk pl = true) : (allC pl).Nodup := by
  unfold allC
  rw [calls_rows hk (.inr rfl), calls_rows hk (.inl rfl), ← List.map_append]
  have nd := rows_nodup pl
  refine List.Perm.nodup_iff (List.Perm.map _ ?_) |>.mpr nd
  have e : (rowsPl pl).filter (fun r => decide (r.2.1 = ("caller" : Str))) = (rowsPl pl).filter (fun r => !decide (r.2.1 = ("keeper" : Str))) := by
    refine List.filter_congr fun r hr => ?_
    obtain ⟨k, _, _, _, _, _, e, _⟩ := row_mem.mp hr
    rw [e]
    rcases hand_two k with z | z <;> rw [z] <;> decide
  rw [e]
  exact List.filter_append_perm _ _
/-- so many calls -/
theorem rowsOf_len (pl : Pl) (y : List Nat × Pl) : (rowsOf pl y).length ≤ match y.2 with
    | .leaf _ _ => 0
    | .node k ps => if isCh k = true then ps.length else 0 := by
  obtain ⟨pa, z⟩ := y
  cases z with
  | leaf k t => exact Nat.le_refl _
  | node k ps =>
    show (if isCh k = true then rowsCh (handK k) pa (putP pl pa) 0 ps else []).length ≤ if isCh k = true then ps.length else 0
    split
    · rw [rowsCh_len]; exact Nat.le_refl _
    · exact Nat.le_refl _
def wide (y : List Nat × Pl) : Nat := match y.2 with
  | .leaf _ _ => 0
  | .node k ps => if isCh k = true then ps.length else 0
theorem flat_len {α β : Type} (f : α → List β) (g : α → Nat) (h : ∀ x, (f x).length ≤ g x) : ∀ l : List α, (l.flatMap f).length ≤ (l.map g).sum
  | [] => Nat.le_refl _
  | x :: l => by
    rw [List.flatMap_cons, List.length_append, List.map_cons, List.sum_cons]
    have := h x
    have := flat_len f g h l
    omega
theorem wide_lift (i : Nat) (l : List (List Nat × Pl)) : ((l.map fun y => (i :: y.1, y.2)).map wide) = l.map wide := by
  rw [List.map_map]
  rfl
mutual
theorem wide_le : ∀ p : Pl, ((subsP p).map wide).sum + 1 ≤ (nodesOf p).length
  | .leaf k t => by
    rw [subsP, nodesOf]
    exact Nat.le_refl _
  | .node k ps => by
    have ha := wides_le ps 0
    have hn := nodes_ge ps
    rw [subsP, nodesOf, List.map_cons, List.sum_cons, List.length_cons]
    by_cases ho : open2.contains k = true
    · rw [if_pos ho]
      have : wide ([], Pl.node k ps) = 0 := by
        show (if isCh k = true then ps.length else 0) = 0
        rw [open_ch ho]
        rfl
      rw [this]
      omega
    · rw [if_neg ho]
      have : wide ([], Pl.node k ps) ≤ ps.length := by
        show (if isCh k = true then ps.length else 0) ≤ ps.length
        split <;> omega
      show wide ([], Pl.node k ps) + 0 + 1 ≤ _
      omega
theorem wides_le : ∀ (ps : List Pl) (i : Nat), ((subsAll i ps).map wide).sum ≤ (nodesAll ps).length
  | [], i => by rw [subsAll, nodesAll]; exact Nat.le_refl _
  | p :: ps, i => by
    have a := wide_le p
    have b := wides_le ps (i + 1)
    rw [subsAll, nodesAll, List.map_append, List.sum_append, List.length_append, wide_lift]
    omega
end
theorem allC_few {pl : Pl} (f : Fit pl) : (allC pl).length ≤ 10 := by
  have h1 : (rowsPl pl).length ≤ ((subsP pl).map wide).sum := flat_len _ _ (rowsOf_len pl) _
  have h2 := wide_le pl
  have h3 := f.l
  have h4 : ((allC pl)).length ≤ (rowsPl pl).length := by
    have : ∀ c ∈ allC pl, c ∈ (rowsPl pl).map (·.1) := fun c hc => by
      obtain ⟨k, ps, q, h⟩ := (mem_allC f.ok).mp hc
      exact List.mem_map.mpr ⟨(c, handK k, putP pl c.1 q), row_mem.mpr ⟨k, ps, q, h.m, h.ch, h.q, rfl, rfl⟩, rfl⟩
    have := (allC_nodup f.ok).length_le_of_subset this
    rw [List.length_map] at this
    exact this
  omega
mutual
/-- where no call is left, no choice is -/
theorem none_left : ∀ {p : Pl}, plOk p = true → (∀ pa k ps, (pa, Pl.node k ps) ∈ subsP p → isCh k = false) → countIn choiceKinds (nodesOf p) = 0
  | .leaf k t, h, _ => leaf_none (fun k z => choice_inner z) h
  | .node k ps, h, no => by
    have hc := no [] k ps (subs_nil _)
    rw [plOk, Bool.and_eq_true] at h
    have ho : open2.contains k = true := by
      have hin := has_of h.1
      unfold nodeKinds at hin
      simp only [List.mem_cons, List.not_mem_nil, or_false] at hin
      rcases hin with rfl | rfl | rfl | rfl
      · decide +kernel
      · decide +kernel
      · exact absurd hc (by decide +kernel)
      · exact absurd hc (by decide +kernel)
    have hcc : choiceKinds.contains k = false := by
      have hin := has_of ho
      unfold open2 at hin
      simp only [List.mem_cons, List.not_mem_nil, or_false] at hin
      rcases hin with rfl | rfl <;> decide +kernel
    rw [nodesOf, show (k, V.int (ps.length : Int)) :: nodesAll ps = [(k, V.int (ps.length : Int))] ++ nodesAll ps from rfl, countIn_app, countIn_one, hcc]
    rw [nones_left h.2 fun i p hp pa k2 qs hm => no (i :: pa) k2 qs (mem_node.mpr (.inr ⟨ho, i, pa, p, rfl, hp, hm⟩))]
    rfl
theorem nones_left : ∀ {ps : List Pl}, plsOk ps = true → (∀ (i : Nat) p, ps[i]? = some p → ∀ pa k qs, (pa, Pl.node k qs) ∈ subsP p → isCh k = false) → countIn choiceKinds (nodesAll ps) = 0
  | [], _, _ => rfl
  | p :: ps, h, no => by
    rw [plsOk, Bool.and_eq_true] at h
    rw [nodesAll, countIn_app, none_left h.1 (no 0 p rfl), nones_left h.2 fun i q hq => no (i + 1) q hq]
end
theorem no_calls {pl : Pl} (f : Fit pl) (h : allC pl = []) : countIn choiceKinds (nodesOf pl) = 0 := by
  refine none_left f.ok fun pa k ps hm => ?_
  cases hc : isCh k with
  | false => rfl
  | true =>
    have h2 := node_two (f.part hm).ok (f.part hm).good
    obtain ⟨q, hq⟩ : ∃ q, ps[0]? = some q := ⟨_, List.getElem?_eq_getElem (by omega)⟩
    have : ((pa, 0) : CKey) ∈ allC pl := (mem_allC f.ok).mpr ⟨k, ps, q, hm, hc, hq⟩
    rw [h] at this
    cases this
end Eh
set_option Elab.async false
set_option linter.all false
set_option maxRecDepth 100000
set_option maxHeartbeats 8000000
namespace Eh
open PySem PySem.Spec PyProof.Rows L2
section
variable {K : PySem.W.Frag}
theorem natV_in2 : ∀ {a b : List Nat}, a.map natV = b.map natV → a = b
  | [], [], _ => rfl
  | [], _ :: _, h => by cases h
  | _ :: _, [], h => by cases h
  | x :: a, y :: b, h => by
    rw [List.map_cons, List.map_cons] at h
    injection h with h1 h2
    have e : (x : Int) = (y : Int) := by injection h1
    rw [natV_in2 h2, Int.ofNat.inj e]
theorem call_hand {pl : Pl} {c : CKey} {k : Str} {ps : List Pl} {q : Pl} (f : Fit pl) (h : CallOf pl c k ps q) : handPl pl (some (some (c.1.map natV), .int (c.2 : Nat))) = .str (handK k) := by
  have hk2 : k = "mine" ∨ k = "yours" := by
    have := h.ch
    unfold isCh at this
    simpa using this
  have hh : isHand (handK k) := by
    rcases hk2 with rfl | rfl
    · exact .inr (if_pos rfl)
    · exact .inl (if_neg (by decide +kernel))
  have hm := h.m
  rw [(hand_choice h.ch hh).mp rfl] at hm
  exact handPl_call f.ok f.lt hh hm (List.getElem?_eq_some_iff.mp h.q).1
theorem call_v2 {H : Hp} {v : V} {c : CKey} (h : CallAt K H v c) : CallV K H v (some (some (c.1.map natV), .int (c.2 : Nat))) := by
  obtain ⟨a, b, rfl, h1, h2⟩ := h
  exact .pair h1 (.tup h2 fun z m => by
    obtain ⟨n, _, rfl⟩ := List.mem_map.mp m
    exact .inl ⟨_, rfl⟩) (.inl ⟨_, rfl⟩)
theorem path_v {H : Hp} {b : Addr} {pa : List Nat} (h : SqT K H b (pa.map natV)) : PathV K H (.ref b) (some (pa.map natV)) := .tup h fun z m => by
  obtain ⟨n, _, rfl⟩ := List.mem_map.mp m
  exact .inl ⟨_, rfl⟩
theorem path_one {pl y z : Pl} {pa : List Nat} (h : (pa, y) ∈ subsP pl) (h2 : (pa, z) ∈ subsP pl) : y = z := by
  obtain ⟨i, hi⟩ := List.getElem?_of_mem h
  obtain ⟨j, hj⟩ := List.getElem?_of_mem h2
  have nd := subs_nodup pl
  have e1 : ((subsP pl).map (·.1))[i]? = some pa := by rw [List.getElem?_map, hi]; rfl
  have e2 : ((subsP pl).map (·.1))[j]? = some pa := by rw [List.getElem?_map, hj]; rfl
  obtain ⟨li, gi⟩ := List.getElem?_eq_some_iff.mp e1
  obtain ⟨lj, gj⟩ := List.getElem?_eq_some_iff.mp e2
  have : i = j := (List.getElem_inj (h₀ := li) (h₁ := lj) nd).mp (gi.trans gj.symm)
  subst this
  rw [hi] at hj
  exact (Prod.mk.inj (Option.some.inj hj)).2
variable {C CC CI CE a b y : Addr} {H : Hp} {pl : Pl} {v : V} {c : CKey} {k : Str} {ps : List Pl} {q : Pl} {Q : VK} {E : XK}
theorem called_res (pr : PrG K C H a (nodesOf pl)) (f : Fit pl) (hv : CallAt K H v c) (co : CallOf pl c k ps q) (qq : ∀ x H', Same H H' → H x = none → PrG K C H' x (nodesOf (putP pl c.1 q)) → Q (.ref x) H') : spCalled K C CC [.ref a, v] H Q E := by
  refine ⟨a, pl, v, _, rfl, pr, f.ok, f.lt, call_v2 hv, fun pa i k2 ps2 q2 ec hm hq _ => ?_, fun e => ?_⟩
  · have ec := Option.some.inj ec
    have p1 : c.1 = pa := natV_in2 (Option.some.inj (Prod.mk.inj ec).1)
    have p2 : c.2 = i := by
      have z := (Prod.mk.inj ec).2
      injection z with z
      exact Int.ofNat.inj z
    subst p1 p2
    have same := path_one co.m hm
    injection same with s1 s2
    subst s1 s2
    have e0 := co.q.symm.trans hq
    cases e0
    exact ⟨(f.put co.m co.q).okB, qq⟩
  · rw [call_hand f co] at e
    cases e
theorem iscall_res (pr : PrG K C H a (nodesOf pl)) (f : Fit pl) (hv : CallAt K H v c) (co : CallOf pl c k ps q) (qq : Q (.bl true) H) : spIsCall K C [.ref a, v] H Q E := by
  refine ⟨a, pl, v, _, rfl, pr, f.ok, f.lt, call_v2 hv, ?_⟩
  rw [call_hand f co, decide_eq_false fun z : V.str (handK k) = .non => nomatch z]
  exact qq
theorem handof_res (pr : PrG K C H a (nodesOf pl)) (f : Fit pl) (hv : CallAt K H v c) (co : CallOf pl c k ps q) (qq : Q (.str (handK k)) H) : spHandOf K C CC [.ref a, v] H Q E := by
  refine ⟨a, pl, v, _, rfl, pr, f.ok, f.lt, call_v2 hv, fun _ => ?_, fun e => ?_⟩
  · rw [call_hand f co]
    exact qq
  · rw [call_hand f co] at e
    cases e
theorem part_res {pa : List Nat} {z : Pl} (pr : PrG K C H a (nodesOf pl)) (f : Fit pl) (hp : SqT K H b (pa.map natV)) (hm : (pa, z) ∈ subsP pl) (ok : okB (nodesOf z) = true) (qq : ∀ x H', Same H H' → H x = none → PrG K C H' x (nodesOf z) → Q (.ref x) H') : spPartAt K C CI [.ref a, .ref b] H Q E := by
  obtain ⟨o, rest, hw, _, _⟩ := walk_place f.ok f.lt hm
  refine ⟨a, pl, .ref b, _, rfl, pr, f.ok, f.lt, path_v hp, fun zs o2 q2 e1 e2 => ?_, fun e => ?_⟩
  · rw [← Option.some.inj e1, hw] at e2
    cases e2
    exact ⟨ok, qq⟩
  · rw [startV_some hw] at e
    cases e
theorem replaced_res {pa : List Nat} {z x : Pl} (pr : PrG K C H a (nodesOf pl)) (f : Fit pl) (hp : SqT K H b (pa.map natV)) (hm : (pa, z) ∈ subsP pl) (pr2 : PrG K C H y (nodesOf x)) (fx : Fit x) (ok : okB (nodesOf (putP pl pa x)) = true) (qq : ∀ u H', Same H H' → H u = none → PrG K C H' u (nodesOf (putP pl pa x)) → Q (.ref u) H') : spReplaced K C CE CI [.ref a, .ref b, .ref y] H Q E := by
  obtain ⟨o, rest, hw, e3, e4⟩ := walk_place f.ok f.lt hm
  refine ⟨a, y, pl, nodesOf x, .ref b, _, rfl, pr, f.ok, f.lt, pr2, fx.lt, path_v hp, fun zs o2 q2 r2 e1 e2 e5 => ?_, fun e => ?_⟩
  · rw [← Option.some.inj e1, hw] at e2
    cases e2
    have er : r2 = rest := List.append_cancel_left (e5.symm.trans e3)
    subst er
    rw [← e4 x]
    exact ⟨fun _ => qq, fun z => by rw [ok] at z; cases z⟩
  · rw [startV_some hw] at e
    cases e
theorem eqP_same {ns : List (Str × V)} (pa : PrG K C H a ns) (pb : PrG K C H b ns) (qq : Q (.bl true) H) : rEqOwn C (spEqA K C) E0 (.ref a) (.ref b) H Q := by
  obtain ⟨dx, _, _, ha, _⟩ := id pa
  obtain ⟨dy, _, _, hb, _⟩ := id pb
  exact ⟨a, b, dx, dy, _, _, rfl, rfl, ha, hb, .inl ⟨a, b, ns, ns, rfl, pa, pb, _, rfl, by rw [decide_eq_true rfl]; exact qq⟩⟩
theorem neP_same {ns : List (Str × V)} (pa : PrG K C H a ns) (pb : PrG K C H b ns) (qq : Q (.bl false) H) : rNeOwn C (spEqA K C) E0 (.ref a) (.ref b) H Q := by
  obtain ⟨dx, _, _, ha, _⟩ := id pa
  obtain ⟨dy, _, _, hb, _⟩ := id pb
  exact ⟨a, b, dx, dy, _, _, rfl, rfl, ha, hb, .inl ⟨a, b, ns, ns, rfl, pa, pb, _, rfl, by rw [decide_eq_true rfl]; exact qq⟩⟩
end
theorem pairedApp2 {α β : Type} {F : α → β → Prop} {a : List α} {b : List β} {c : List α} {d : List β} (h : Paired F a b) (k : Paired F c d) : Paired F (a ++ c) (b ++ d) := by
  induction h with
  | nil => exact k
  | cons x t ih => exact .cons x ih
section
variable {P : Program} {w : World} {K : PySem.W.Frag} {mg : Str → Option Value} {base : Heap}
def spAllC (K : PySem.W.Frag) (C : Addr) : Sp := fun vs H Q _ => ∃ a pl, vs = [.ref a] ∧ PrG K C H a (nodesOf pl) ∧ Fit pl ∧ ∀ r us H', Same H H' → H r = none → H' r = some (.lst us) → CallsAt K H' us (allC pl) → Q (.ref r) H'
theorem ok_allC {C fCs f : Addr} {fdCs fd : FuncData} (F : Fun K "_law_all_calls" "_law_all_calls" s__law_all_calls f fd) (T : Txt mg)
    (GCs : FnOk P w K mg base (L2.CX P w) 5 fCs fdCs ["promise", "hand"] (spCalls K C)) (mCs : mg "calls" = some (.ref fCs)) (kCs : PySem.W.keepIn K (.ref fCs) = true) (bCs : Binds K fdCs ["promise", "hand"] []) : FnOk P w K mg base CX0 6 f fd ["made"] (spAllC K C) := by
  refine F.ok sc__law_all_calls (fun vs H Q E h => ?_) (fun cdv A outer s H vs Q E hr h => ?_)
  · obtain ⟨a, pl, rfl, _⟩ := h
    rfl
  · obtain ⟨a, pl, rfl, pr, f, q⟩ := h
    refine ⟨_, (pss_one (ps_ret (pe_op op_cat (pe_callTy (lstOf (K := K) rfl) (by rfl) T.list_ (by decide +kernel) (pa_cons (pe_call (E := E0) GCs hr (by rfl) mCs kCs bCs .nil passL (pa_cons (pv 0) (pa_cons pe_str pa_nil))) pa_nil)) (pe_callTy (lstOf (K := K) rfl) (by rfl) T.list_ (by decide +kernel) (pa_cons (pe_call (E := E0) GCs hr (by rfl) mCs kCs bCs .nil passL (pa_cons (pv 0) (pa_cons pe_str pa_nil))) pa_nil))))), ?_⟩
    refine ⟨_, rfl, a, pl, "keeper", rfl, pr, f.ok, f.lt, .inr rfl, fun r1 us1 H1 s1 n1 e1 c1 => ⟨r1, us1, rfl, .inr (SqT.of e1), fun l1 nl1 => ?_⟩⟩
    have z1 : Same H1 (upd H1 l1 (.lst us1)) := same_new nl1
    have f1 : upd H1 l1 (.lst us1) l1 = some (.lst us1) := upd_same
    have c1 := c1.tk (stk z1)
    have s1 := s1.trans z1
    generalize upd H1 l1 (.lst us1) = H2 at f1 c1 s1 ⊢
    refine ⟨_, rfl, a, pl, "caller", rfl, pr.sm s1, f.ok, f.lt, .inl rfl, fun r2 us2 H3 s3 n3 e3 c2 => ⟨r2, us2, rfl, .inr (SqT.of e3), fun l2 nl2 => ?_⟩⟩
    have z2 : Same H3 (upd H3 l2 (.lst us2)) := same_new nl2
    have f2 : upd H3 l2 (.lst us2) l2 = some (.lst us2) := upd_same
    have c2 := c2.tk (stk z2)
    have s3 := s3.trans z2
    have f1 := s3 _ _ f1
    have c1 := c1.tk (stk s3)
    generalize upd H3 l2 (.lst us2) = H4 at f2 c2 s3 f1 c1 ⊢
    have hc : CallsAt K H4 (us1 ++ us2) (allC pl) := pairedApp2 c1 c2
    have hl : (us1 ++ us2).length ≤ 10 := by rw [Paired.length hc]; exact allC_few f
    refine ⟨l1, l2, us1, us2, rfl, rfl, f1, f2, (by first | exact small (n := (us1 ++ us2).length) (by omega) | exact Nat.le_of_lt (small (n := (us1 ++ us2).length) (by omega)) | (have h3 := hl; rw [List.length_append] at h3; exact Nat.le_of_lt (small (n := us1.length + us2.length) (by omega)))), fun l3 nl3 => ?_⟩
    have s5 := s1.trans (s3.trans (same_new (o := .lst (us1 ++ us2)) nl3))
    exact q _ _ _ s5 ((s1.trans s3).free nl3) upd_same (hc.tk (stk (same_new nl3)))
theorem prs_at2 {C : Addr} {H : Hp} : ∀ {us : List V} {ps : List Pl} {i : Nat} {q : Pl}, PrsAt K C H us ps → ps[i]? = some q → ∃ y, us[i]? = some (.ref y) ∧ PrOk K C H y (nodesOf q)
  | _, _, i, q, .nil, h => by simp at h
  | _, _, 0, q, .cons a t, h => by
    cases (show some _ = some q from h)
    exact ⟨_, rfl, a⟩
  | _, _, i + 1, q, .cons (vs := vs) (ps := ps) a t, h => prs_at2 (us := vs) (ps := ps) (i := i) t (show ps[i]? = some q from h)
/-- two calls at different places -/
def spPairR (K : PySem.W.Frag) (C : Addr) : Sp := fun vs H Q _ => ∃ a v u pl c1 c2 k1 k2 ps1 ps2 q1 q2, vs = [.ref a, v, u] ∧ PrG K C H a (nodesOf pl) ∧ Fit pl ∧ CallAt K H v c1 ∧ CallAt K H u c2 ∧ CallOf pl c1 k1 ps1 q1 ∧ CallOf pl c2 k2 ps2 q2 ∧ c1.1 ≠ c2.1 ∧ ∀ H', Same H H' → Q (.bl true) H'
theorem ok_pair {C CC CE CI fI fL fCd fIc fHo fPa fRe pP fP gE f : Addr} {fdCd fdIc fdHo fdPa fdRe fdP fdE fd : FuncData} (F : Fun K "_law_pair_right" "_law_pair_right" s__law_pair_right f fd) (T : Txt mg) (PC : PromC K mg C fI fL)
    (GCd : FnOk P w K mg base (L2.CX P w) 7 fCd fdCd ["promise", "call"] (spCalled K C CC)) (mCd : mg "called" = some (.ref fCd)) (kCd : PySem.W.keepIn K (.ref fCd) = true) (bCd : Binds K fdCd ["promise", "call"] [])
    (GIc : FnOk P w K mg base (L2.CX P w) 6 fIc fdIc ["promise", "value"] (spIsCall K C)) (mIc : mg "is_call" = some (.ref fIc)) (kIc : PySem.W.keepIn K (.ref fIc) = true) (bIc : Binds K fdIc ["promise", "value"] [])
    (GHo : FnOk P w K mg base (L2.CX P w) 7 fHo fdHo ["promise", "call"] (spHandOf K C CC)) (mHo : mg "hand_of" = some (.ref fHo)) (kHo : PySem.W.keepIn K (.ref fHo) = true) (bHo : Binds K fdHo ["promise", "call"] [])
    (GPa : FnOk P w K mg base (L2.CX P w) 6 fPa fdPa ["promise", "place"] (spPartAt K C CI)) (mPa : mg "part_at" = some (.ref fPa)) (kPa : PySem.W.keepIn K (.ref fPa) = true) (bPa : Binds K fdPa ["promise", "place"] [])
    (GRe : FnOk P w K mg base (L2.CX P w) 6 fRe fdRe ["promise", "place", "other"] (spReplaced K C CE CI)) (mRe : mg "replaced" = some (.ref fRe)) (kRe : PySem.W.keepIn K (.ref fRe) = true) (bRe : Binds K fdRe ["promise", "place", "other"] [])
    (DE : DunC P w K mg base C "__eq__" 1 ["self", "value"] (spEqA K C) gE fdE) (IC : IsC K C) (hNe : PySem.W.findIn K (.ref C) "__ne__" = some (some (.builtin "object.__ne__")))
    (PP : PropC P w K mg base C "parts" 6 (spPartsP K C) pP fP fdP) : FnOk P w K mg base CX0 9 f fd ["made", "one", "other"] (spPairR K C) := by
  refine F.ok sc__law_pair_right (fun vs H Q E h => ?_) (fun cdv A outer s H vs Q E hr h => ?_)
  · obtain ⟨a, v, u, pl, c1, c2, k1, k2, ps1, ps2, q1, q2, rfl, _⟩ := h
    rfl
  · obtain ⟨a, v, u, pl, c1, c2, k1, k2, ps1, ps2, q1, q2, rfl, pr, f, hv, hu, o1, o2, ne, q⟩ := h
    have hr7 := hr.mono (j := 7) (by omega)
    have hr6 := hr.mono (j := 6) (by omega)
    have hr2 := hr.mono (j := 2) (by omega)
    have hr1 := hr.mono (j := 1) (by omega)
    refine ⟨_, (pss_cons (ps_par (i := 3) (j := 4) (by rfl) sc__law_pair_right.nd rfl rfl (by decide) (by rfl) (by rfl) (pa_cons (pe_call (E := E0) GCd hr7 (by rfl) mCd kCd bCd .nil passL (pa_cons (pv 0) (pa_cons (pv 1) pa_nil))) (pa_cons (pe_call (E := E0) GCd hr7 (by rfl) mCd kCd bCd .nil passL (pa_cons (pv 0) (pa_cons (pv 2) pa_nil))) pa_nil)) (by rfl))
  (pss_cons (ps_if (PW.pt (pw_or (pt_not (pt_val (pe_call (E := E0) GIc hr6 (by rfl) mIc kIc bIc .nil passL (pa_cons (pv 3) (pa_cons (pv 2) pa_nil))))) (pw_or1 (pt_not (pt_val (pe_call (E := E0) GIc hr6 (by rfl) mIc kIc bIc .nil passL (pa_cons (pv 4) (pa_cons (pv 1) pa_nil))))))))
  (pss_one (ps_ret pe_bl))
  pss_nil)
  (pss_cons (ps_if (PW.pt (pw_or (pt_cmpR op_ne (pe_call (E := E0) GHo hr7 (by rfl) mHo kHo bHo .nil passL (pa_cons (pv 3) (pa_cons (pv 2) pa_nil))) (pe_call (E := E0) GHo hr7 (by rfl) mHo kHo bHo .nil passL (pa_cons (pv 0) (pa_cons (pv 2) pa_nil))) (nomark _)) (pw_or1 (pt_cmpR op_ne (pe_call (E := E0) GHo hr7 (by rfl) mHo kHo bHo .nil passL (pa_cons (pv 4) (pa_cons (pv 1) pa_nil))) (pe_call (E := E0) GHo hr7 (by rfl) mHo kHo bHo .nil passL (pa_cons (pv 0) (pa_cons (pv 1) pa_nil))) (nomark _)))))
  (pss_one (ps_ret pe_bl))
  pss_nil)
  (pss_cons (ps_if (PW.pt (pw_or (pt_cmpR (neOwn DE.ok hr2 IC.mro hNe DE.s DE.f DE.b pass0) (pe_call (E := E0) GPa hr6 (by rfl) mPa kPa bPa .nil passL (pa_cons (pv 3) (pa_cons (pe_ix (ixT (K := K) rfl) (pv 2) pe_int (fun _ _ => rfl)) pa_nil))) (pe_call (E := E0) GPa hr6 (by rfl) mPa kPa bPa .nil passL (pa_cons (pv 0) (pa_cons (pe_ix (ixT (K := K) rfl) (pv 2) pe_int (fun _ _ => rfl)) pa_nil))) (nomark _)) (pw_or1 (pt_cmpR (neOwn DE.ok hr2 IC.mro hNe DE.s DE.f DE.b pass0) (pe_call (E := E0) GCd hr7 (by rfl) mCd kCd bCd .nil passL (pa_cons (pv 3) (pa_cons (pv 2) pa_nil))) (pe_call (E := E0) GCd hr7 (by rfl) mCd kCd bCd .nil passL (pa_cons (pv 4) (pa_cons (pv 1) pa_nil))) (nomark _)))))
  (pss_one (ps_ret pe_bl))
  pss_nil)
  (pss_cons (ps_set (i := 5) sc__law_pair_right.nd rfl (.inl rfl) (pe_ix (ixT (K := K) rfl) (pe_prop (pe_call (E := E0) GPa hr6 (by rfl) mPa kPa bPa .nil passL (pa_cons (pv 0) (pa_cons (pe_ix (ixT (K := K) rfl) (pv 1) pe_int (fun _ _ => rfl)) pa_nil))) PC.cl PP.p PP.ok hr7 PP.b .nil pass0 rfl) (pe_ix (ixT (K := K) rfl) (pv 1) pe_int (fun _ _ => rfl)) (fun _ _ => rfl)))
  (pss_one (ps_ret (pe_and (pe_cmpR (eqOwn DE.ok hr1 DE.s DE.f DE.b pass0) (pe_call (E := E0) GPa hr6 (by rfl) mPa kPa bPa .nil passL (pa_cons (pv 3) (pa_cons (pe_ix (ixT (K := K) rfl) (pv 1) pe_int (fun _ _ => rfl)) pa_nil))) (pv 5) (nomark _)) (pe_one (pe_cmpR (eqOwn DE.ok hr1 DE.s DE.f DE.b pass0) (pe_call (E := E0) GRe hr6 (by rfl) mRe kRe bRe .nil passL (pa_cons (pv 0) (pa_cons (pe_ix (ixT (K := K) rfl) (pv 1) pe_int (fun _ _ => rfl)) (pa_cons (pv 5) pa_nil)))) (pv 3) (nomark _))))))))))), ?_⟩
    refine ⟨_, rfl, _, rfl, ?_⟩
    dsimp only [tNil]
    refine called_res pr f hv o1 fun x1 H1 s1 n1 p1 => ?_
    refine ⟨_, rfl, _, rfl, ?_⟩
    dsimp only [tNil]
    refine called_res (pr.sm s1) f (hu.tk (stk s1)) o2 fun x2 H2 s2 n2 p2 => ?_
    have p1 := p1.sm s2
    have pr := pr.sm (s1.trans s2)
    have hv := hv.tk (stk (s1.trans s2))
    have hu := hu.tk (stk (s1.trans s2))
    have s04 := s1.trans s2
    refine ⟨_, _, rfl, ?_⟩
    clear s1 s2 n1 n2
    have f1 := f.put o1.m o1.q
    have f2 := f.put o2.m o2.q
    have o12 := o1.stay o2 ne
    have o21 := o2.stay o1 (Ne.symm ne)
    refine ⟨_, rfl, _, rfl, ?_⟩
    dsimp only [tNil]
    refine iscall_res p1 f1 hu o12 ?_
    refine ⟨_, rfl, iteF' rfl ?_⟩
    refine ⟨_, rfl, _, rfl, ?_⟩
    dsimp only [tNil]
    refine iscall_res p2 f2 hv o21 ?_
    refine ⟨_, rfl, iteF' rfl ?_⟩
    refine ⟨_, rfl, _, rfl, ?_⟩
    dsimp only [tNil]
    refine handof_res p1 f1 hu o12 ?_
    refine ⟨_, rfl, _, rfl, ?_⟩
    dsimp only [tNil]
    refine handof_res pr f hu o2 ?_
    refine ⟨rfl, _, rfl, iteF' (by rw [decide_eq_true rfl]; rfl) ?_⟩
    refine ⟨_, rfl, _, rfl, ?_⟩
    dsimp only [tNil]
    refine handof_res p2 f2 hv o21 ?_
    refine ⟨_, rfl, _, rfl, ?_⟩
    dsimp only [tNil]
    refine handof_res pr f hv o1 ?_
    refine ⟨rfl, _, rfl, iteF' (by rw [decide_eq_true rfl]; rfl) ?_⟩
    obtain ⟨ta, tb, rfl, gv1, gv2⟩ := id hv
    obtain ⟨ua, ub, rfl, gu1, gu2⟩ := id hu
    have fn2 : Fit (.node k2 ps2) := f.part o2.m
    have fn1 : Fit (.node k1 ps1) := f.part o1.m
    refine ⟨_, rfl, _, rfl, ua, _, 0, .ref ub, rfl, rfl, gu1, rfl, ?_⟩
    dsimp only [tNil]
    refine part_res p1 f1 gu2 o12.m fn2.okB fun y1 H5 s5 n5 r1 => ?_
    refine ⟨_, rfl, _, rfl, ua, _, 0, .ref ub, rfl, rfl, (stk s5).seq gu1, rfl, ?_⟩
    dsimp only [tNil]
    refine part_res (pr.sm s5) f ((stk s5).seq gu2) o2.m fn2.okB fun y2 H6 s6 n6 r2 => ?_
    refine neP_same (r1.sm s6) r2 ⟨_, rfl, iteF ?_⟩
    have s46 := s5.trans s6
    refine ⟨_, rfl, _, rfl, ?_⟩
    dsimp only [tNil]
    refine called_res (p1.sm s46) f1 (hu.tk (stk s46)) o12 fun y3 H7 s7 n7 r3 => ?_
    have s47 := s46.trans s7
    refine ⟨_, rfl, _, rfl, ?_⟩
    dsimp only [tNil]
    refine called_res (p2.sm s47) f2 (hv.tk (stk s47)) o21 fun y4 H8 s8 n8 r4 => ?_
    rw [← o1.comm o2 ne] at r4
    refine neP_same (r3.sm s8) r4 ⟨_, rfl, iteF ?_⟩
    have s48 := s47.trans s8
    have s08 := s04.trans s48
    have p1 := p1.sm s48
    have pr := pr.sm s48
    have gv1 := (stk s48).seq gv1
    have gv2 := (stk s48).seq gv2
    clear s5 s6 s7 s8 n5 n6 n7 n8 r1 r2 r3 r4 s46 s47 s48 hv hu gu1 gu2 p2
    refine ⟨_, rfl, _, rfl, ta, _, 0, .ref tb, rfl, rfl, gv1, rfl, ?_⟩
    dsimp only [tNil]
    refine part_res pr f gv2 o1.m fn1.okB fun y5 H9 s9 n9 r5 => ?_
    obtain ⟨dx5, _, _, e5, _⟩ := id r5
    have ro : PrOk K C H9 y5 (nodesOf (.node k1 ps1)) := by
      obtain ⟨dx, p, zs, ex, hs, hN, hG⟩ := r5
      exact ⟨dx, p, zs, ex, hs, hN, fn1.nok⟩
    refine ⟨y5, dx5, _, rfl, e5, y5, .node k1 ps1, rfl, ro, fn1.ok, by have := fn1.l; omega, fun t5 us5 H10 s10 n10 e10 hp10 => ?_⟩
    have hps : PrsAt K C H10 us5 ps1 := by
      rw [partsPl] at hp10
      exact hp10
    obtain ⟨y6, hy6, pk6⟩ := prs_at2 hps o1.q
    have s810 := s9.trans s10
    refine ⟨_, rfl, ta, _, 1, .int (c1.2 : Nat), rfl, rfl, (stk s810).seq gv1, rfl, t5, us5, (c1.2 : Int), .ref y6, rfl, rfl, SqT.of e10, atI_nat hy6, ?_⟩
    have fq := fn1.kid o1.q
    have pg6 : PrG K C H10 y6 (nodesOf q1) := by
      obtain ⟨dx, p, zs, ex, hs, hN, ho⟩ := pk6
      exact ⟨dx, p, zs, ex, hs, hN, fun n hn => (ho n hn).1⟩
    refine ⟨_, rfl, _, rfl, ta, _, 0, .ref tb, rfl, rfl, (stk s810).seq gv1, rfl, ?_⟩
    dsimp only [tNil]
    refine part_res (p1.sm s810) f1 ((stk s810).seq gv2) (put_there o1.m) fq.okB fun y7 H11 s11 n11 r7 => ?_
    refine ⟨_, rfl, ?_⟩
    refine eqP_same r7 (pg6.sm s11) ?_
    refine ⟨_, rfl, iteT ?_⟩
    have s811 := s810.trans s11
    refine ⟨_, rfl, _, rfl, ta, _, 0, .ref tb, rfl, rfl, (stk s811).seq gv1, rfl, _, rfl, ?_⟩
    dsimp only [tNil]
    refine replaced_res (pr.sm s811) f ((stk s811).seq gv2) o1.m (pg6.sm s11) fq f1.okB fun y8 H12 s12 n12 r8 => ?_
    refine ⟨_, rfl, ?_⟩
    exact eqP_same r8 (p1.sm (s811.trans s12)) (q _ (s08.trans (s811.trans s12)))
end
end Eh
set_option Elab.async false
set_option linter.all false
set_option maxRecDepth 100000
set_option maxHeartbeats 8000000
namespace Eh
open PySem PySem.Spec PyProof.Rows L2
def callsD (cs : List CKey) : PyData := .list (cs.map ckD)
theorem callsD_lay : ∀ cs : List CKey, PyData.canLayAll0 (cs.map ckD) = true ∧ PyData.depthAll (cs.map ckD) ≤ 2
  | [] => ⟨rfl, Nat.zero_le _⟩
  | c :: cs => by
    obtain ⟨h1, h2⟩ := callsD_lay cs
    obtain ⟨h3, _⟩ := natsD_lay c.1
    rw [List.map_cons]
    refine ⟨?_, ?_⟩
    · show ((PyData.canLayAll0 (c.1.map _) && (true && true)) && PyData.canLayAll0 _) = true
      rw [h1, h3]
      rfl
    · show max (ckD c).depth (PyData.depthAll _) ≤ 2
      have := ckD_depth c
      omega
theorem callsD_shaped (cs : List CKey) : SeqAt.shaped (callsD cs) = true := by
  obtain ⟨h1, h2⟩ := callsD_lay cs
  unfold SeqAt.shaped
  rw [show PyData.canLay0 (callsD cs) = true from h1, Bool.true_and]
  refine decide_eq_true ?_
  show PyData.depthAll (cs.map ckD) + 1 ≤ 64
  omega
theorem callsD_nil (cs : List CKey) : PyData.eqv (callsD cs) (callsD []) = decide (cs = []) := by
  cases cs with
  | nil => decide +kernel
  | cons c cs =>
    rw [decide_eq_false fun z => nomatch z]
    show PyData.eqvAll (ckD c :: cs.map ckD) [] = false
    simp [PyData.eqvAll]
def pathD2 (pa : List Nat) : PyData := .tuple (natsD pa)
theorem pathD2_shaped (pa : List Nat) : SeqAt.shaped (pathD2 pa) = true := by
  obtain ⟨h1, h2⟩ := natsD_lay pa
  unfold SeqAt.shaped
  rw [show PyData.canLay0 (pathD2 pa) = true from h1, Bool.true_and]
  refine decide_eq_true ?_
  show PyData.depthAll (natsD pa) + 1 ≤ 64
  rw [natsD_depth]
  decide
theorem pathD2_eqv (a b : List Nat) : PyData.eqv (pathD2 a) (pathD2 b) = decide (a = b) := natsD_eqv a b
/-- two places compared -/
theorem ne_paths {K : PySem.W.Frag} {H : Hp} {a b : Addr} {pa pb : List Nat} {Q : VK} (ha : SqT K H a (pa.map natV)) (hb : SqT K H b (pb.map natV)) (q : Q (.bl (!decide (pa = pb))) H) : rNeD K (.ref a) (.ref b) H Q :=
  ⟨pathD2 pa, pathD2 pb, .tup ha (dpl_nats _), .tup hb (dpl_nats _), pathD2_shaped _, pathD2_shaped _, by rw [pathD2_eqv]; exact q⟩
theorem none_inK {pl : Pl} (f : Fit pl) (h : countIn choiceKinds (nodesOf pl) = 0) : (inK ["mine", "yours"] pl).length = 0 := by
  unfold inK
  rw [List.length_map, List.length_eq_zero_iff, List.filter_eq_nil_iff]
  intro y hy hc
  obtain ⟨pa, z⟩ := y
  have fz := f.part hy
  have hc : choiceKinds.contains (kindPl z) = true := hc
  have hz : 1 ≤ countIn choiceKinds (nodesOf z) := by
    cases z with
    | leaf k t =>
      have hc : choiceKinds.contains k = true := hc
      have := fz.ok
      rw [plOk, choice_inner hc] at this
      cases this
    | node k ps =>
      have hc : choiceKinds.contains k = true := hc
      rw [nodesOf, show (k, V.int (ps.length : Int)) :: nodesAll ps = [(k, V.int (ps.length : Int))] ++ nodesAll ps from rfl, countIn_app, countIn_one, if_pos hc]
      omega
  obtain ⟨o, rest, _, e2, _⟩ := walk_place f.ok f.lt hy
  have e5 : nodesOf pl = (nodesOf pl).take o ++ (nodesOf z ++ rest) := by rw [← e2, List.take_append_drop]
  have := congrArg (countIn choiceKinds) e5
  rw [countIn_app, countIn_app] at this
  omega
theorem makeSf {K : PySem.W.Frag} {C CS x dx b : Addr} {H : Hp} {pl : Pl} {R : VK} {E : XK} (nx : H x = none) (nd : H dx = none) (pr : PrG K C H b (nodesOf pl)) (hok : plOk pl = true) (hl : (nodesOf pl).length < 1000)
    (q : ∀ H', Same H H' → SfAt K C CS H' x b pl → R .non H') : spSInit K C CS [.ref x, .ref b] (upd (upd H dx (.own x)) x (.ins CS dx [])) R E := by
  have u3 : Same H (upd (upd H dx (.own x)) x (.ins CS dx [])) := fun b' o' eb => by
    rw [upd_ne (ne_of_none eb nx), upd_ne (ne_of_none eb nd)]
    exact eb
  exact ⟨x, dx, b, pl, rfl, upd_same, pr.sm u3, hok, hl, fun H' bt sf => q H' (fun b' o' eb => bt b' o' (ne_of_none eb nx) (u3 _ _ eb)) sf⟩
section
variable {P : Program} {w : World} {K : PySem.W.Frag} {mg : Str → Option Value} {base : Heap}
def spRowR (K : PySem.W.Frag) (C : Addr) : Sp := fun vs H Q _ => ∃ d a pl, vs = [.ref d, .ref a] ∧ D3 H d ∧ PrG K C H a (nodesOf pl) ∧ Fit pl ∧ ∀ H', Gr d H H' → Q (.bl true) H'
theorem pr_ok {C a : Addr} {H : Hp} {pl : Pl} (pr : PrG K C H a (nodesOf pl)) (f : Fit pl) : PrOk K C H a (nodesOf pl) := by
  obtain ⟨dx, p, zs, ex, hs, hN, hG⟩ := pr
  exact ⟨dx, p, zs, ex, hs, hN, f.nok⟩
theorem gr_sm {d : Addr} {H0 H H' : Hp} (g : Gr d H0 H) (s : Same H H') : Gr d H0 H' := by
  obtain ⟨x, b, c, e⟩ := g.dice
  exact ⟨⟨x, b, c, s _ _ e⟩, fun p o n e => s _ _ (g.keep p o n e)⟩
theorem ok_row {C CS CC fI fL fAc fP fCd fIc fS pC gC fO f : Addr} {fdAc fdP fdCd fdIc fdS fdC fdO fd : FuncData} (F : Fun K "_law_row_right" "_law_row_right" s__law_row_right f fd) (T : Txt mg) (PC : PromC K mg C fI fL) (SC : SurC K mg CS fS)
    (C__law_all_calls : Cal P w K mg base 6 "_law_all_calls" fAc fdAc ["made"] (spAllC K C)) (C__law_pick : Cal P w K mg base 2 "_law_pick" fP fdP ["dice", "items"] (spPick K))
    (GCd : FnOk P w K mg base (L2.CX P w) 7 fCd fdCd ["promise", "call"] (spCalled K C CC)) (mCd : mg "called" = some (.ref fCd)) (kCd : PySem.W.keepIn K (.ref fCd) = true) (bCd : Binds K fdCd ["promise", "call"] [])
    (GIc : FnOk P w K mg base (L2.CX P w) 6 fIc fdIc ["promise", "value"] (spIsCall K C)) (mIc : mg "is_call" = some (.ref fIc)) (kIc : PySem.W.keepIn K (.ref fIc) = true) (bIc : Binds K fdIc ["promise", "value"] [])
    (GS : FnOk P w K mg base (L2.CX P w) 5 fS fdS ["self", "promise"] (spSInit K C CS)) (bS : Binds K fdS ["self", "promise"] [])
    (MO : Meth K CS "is_over" fO) (GO : FnOk P w K mg base CX0 5 fO fdO ["self"] (spSOver K C CS)) (bO : Binds K fdO ["self"] [])
    (PCh : PropC P w K mg base C "choices" 2 (spChoicesP K C) pC gC fdC) : FnOk P w K mg base CX0 8 f fd ["dice", "made"] (spRowR K C) := by
  refine F.ok sc__law_row_right (fun vs H Q E h => ?_) (fun cdv A outer s H vs Q E hr h => ?_)
  · obtain ⟨d, a, pl, rfl, _⟩ := h
    rfl
  · obtain ⟨d, a, pl, rfl, D, pr, f, q⟩ := h
    have hr6 := hr.mono (j := 6) (by omega)
    have hr5 := hr.mono (j := 5) (by omega)
    have hr3 := hr.mono (j := 3) (by omega)
    have hr2 := hr.mono (j := 2) (by omega)
    refine ⟨_, (pss_cons (ps_for PassesOwn.never (by rfl) (pi_range1 (by rfl) T.range_ (pa_cons (pe_prop (pv 1) PC.cl PCh.p PCh.ok hr3 PCh.b .nil pass0 rfl) pa_nil)) (pg_name (i := 2) sc__law_row_right.nd rfl (.inl rfl))
  (pss_cons (ps_set (i := 3) sc__law_row_right.nd rfl (.inl rfl) (pe_call C__law_all_calls.G hr6 (by rfl) C__law_all_calls.m C__law_all_calls.k C__law_all_calls.b .nil pass0 (pa_cons (pv 1) pa_nil)))
  (pss_one (ps_if (pt_cmpR (neD (K := K) rfl (hu64e hr)) (pv 3) (pe_lst pa_nil) (nomark _))
  (pss_cons (ps_set (i := 4) sc__law_row_right.nd rfl (.inr rfl) (pe_call C__law_pick.G hr2 (by rfl) C__law_pick.m C__law_pick.k C__law_pick.b .nil pass0 (pa_cons (pv 0) (pa_cons (pv 3) pa_nil))))
  (pss_cons (ps_set (i := 5) sc__law_row_right.nd rfl (.inr rfl) (pe_call (E := E0) GCd hr (by rfl) mCd kCd bCd .nil passL (pa_cons (pv 1) (pa_cons (pv 4) pa_nil))))
  (pss_cons (ps_setLc (i := 6) (own := [("one", 7)]) (g := gName 7) (by rfl) sc__law_row_right.nd rfl rfl (sw_true rfl rfl rfl (by decide +kernel)) (piL (K := K) rfl (pv 3)) (blkOk_by (by kernel_rfl)) (fun _ _ _ _ _ => (pg_name (i := 7) sc__law_row_right.nd rfl (.inl rfl))) (fun _ _ _ _ _ => (pts_one (PW.pt (pw_and (pt_cmpR (neD (K := K) rfl (hu64e hr)) (pe_ix (ixT (K := K) rfl) (pv 7) pe_int (fun _ _ => rfl)) (pe_ix (ixT (K := K) rfl) (pv 4) pe_int (fun _ _ => rfl)) (nomark _)) (pw_and1 (pt_not (pt_val (pe_call (E := E0) GIc hr6 (by rfl) mIc kIc bIc .nil passL (pa_cons (pv 5) (pa_cons (pv 7) pa_nil)))))))))) (fun _ _ _ _ _ => (pv 7)))
  (pss_cons (ps_if (PW.pt (pw_or (pt_cmpR (neD (K := K) rfl (hu64e hr)) (pv 6) (pe_lst pa_nil) (nomark _)) (pw_or1 (pt_cmpR op_ge (pe_prop (pv 5) PC.cl PCh.p PCh.ok hr3 PCh.b .nil pass0 rfl) (pe_prop (pv 1) PC.cl PCh.p PCh.ok hr3 PCh.b .nil pass0 rfl) (nomark _)))))
  (pss_one (ps_ret pe_bl))
  pss_nil)
  (pss_one (ps_set (i := 1) sc__law_row_right.nd rfl (.inl rfl) (pv 5)))))))
  pss_nil))))
  (pss_one (ps_ret (pe_and (pe_cmpR op_eq (pe_prop (pv 1) PC.cl PCh.p PCh.ok hr3 PCh.b .nil pass0 rfl) pe_int (nomark _)) (pe_one (pe_meth0 (pe_make (E := E0) SC.mkC GS hr6 (by rfl) SC.g bS .nil passL (pa_cons (pv 1) pa_nil)) SC.cl MO GO hr5 bO .nil pass0)))))), ?_⟩
    obtain ⟨dx, _, _, ea, _⟩ := id pr
    refine ⟨_, rfl, a, dx, _, rfl, ea, a, nodesOf pl, rfl, pr_ok pr f, f.lt, fun H1 s1 => ?_⟩
    have hfew := f.few
    refine ⟨_, rfl, by omega, by omega, ?_⟩
    refine for_range (lo := 0) (n := countIn choiceKinds (nodesOf pl)) (fun i σ H2 => ∃ a2 pl2 x2 x3 x4 x5 x6 x7, σ = [some (.ref d), some (.ref a2), x2, x3, x4, x5, x6, x7] ∧ Gr d H H2 ∧ PrG K C H2 a2 (nodesOf pl2) ∧ Fit pl2 ∧ countIn choiceKinds (nodesOf pl2) ≤ countIn choiceKinds (nodesOf pl) - i) ⟨a, pl, _, _, _, _, _, _, rfl, gr_sm (Gr.refl D) s1, pr.sm s1, f, by omega⟩ ?_ ?_
    · rintro i σ H2 hi ⟨a2, pl2, x2, x3, x4, x5, x6, x7, rfl, g2, p2, f2, c2⟩
      refine ⟨_, rfl, a2, pl2, rfl, p2, f2, fun r us H3 s3 n3 e3 cs3 => ?_⟩
      have g3 := gr_sm g2 s3
      have p3 := p2.sm s3
      refine ⟨_, rfl, Nat.zero_le _, fun l1 nl1 => ?_⟩
      have s4 : Same H3 (upd H3 l1 (.lst [])) := same_new nl1
      have e4 : upd H3 l1 (.lst []) l1 = some (.lst []) := upd_same
      have g4 := gr_sm g3 s4
      have p4 := p3.sm s4
      have er := s4 _ _ e3
      have cs4 := cs3.tk (stk s4)
      generalize upd H3 l1 (.lst []) = H4 at e4 g4 p4 er cs4 ⊢
      clear s3 n3 e3 cs3 g3 p3 nl1 s4 g2 p2
      have hl10 := allC_few f2
      have hul : us.length = (allC pl2).length := Paired.length cs4
      refine ⟨callsD (allC pl2), callsD [], .lst (SqL.of er) (dp_calls cs4), .lst (SqL.of e4) .nil, callsD_shaped _, callsD_shaped _, ?_⟩
      rw [callsD_nil]
      refine ⟨_, rfl, ?_⟩
      by_cases hnil : allC pl2 = []
      · rw [decide_eq_true hnil]
        refine iteF ?_
        have z := no_calls f2 hnil
        exact ⟨a2, pl2, _, _, _, _, _, _, rfl, g4, p4, f2, by omega⟩
      rw [decide_eq_false hnil]
      refine iteT ?_
      have hpos : 0 < us.length := by
        rw [hul]
        exact List.length_pos_iff.mpr hnil
      have ne_d : r ≠ d := fun z => by
        obtain ⟨_, _, _, ed⟩ := g4.dice
        rw [z, ed] at er
        have el : us = [.int _, .int _, .int _] := (HO.lst.inj (Option.some.inj er)).symm
        cases hc : allC pl2 with
        | nil => exact hnil hc
        | cons c cs =>
          rw [el, hc] at cs4
          cases cs4 with
          | cons a t =>
            obtain ⟨_, _, e, _⟩ := a
            cases e
      refine ⟨_, rfl, _, rfl, d, r, us, rfl, g4.dice, SqL.of er, ne_d, hpos, by omega, fun x H5 hx D5 same5 => ?_⟩
      have g45 : Gr d H4 H5 := ⟨D5, fun b o n e => by rw [same5 b n]; exact e⟩
      have g5 := g4.trans g45
      have p5 := p4.gr g45 g4.dice
      have er5 := g45.keep _ _ ne_d er
      have cs5 := cs4.tk (g45.tk g4.dice)
      obtain ⟨jx, hjx⟩ := List.getElem?_of_mem hx
      obtain ⟨cx, hcx, hvx⟩ := paired_at cs5 hjx
      obtain ⟨kx, psx, qx, ox⟩ := (mem_allC f2.ok).mp (List.mem_of_getElem? hcx)
      clear g4 p4 er cs4 same5 e4
      obtain ⟨tx, bx, rfl, gx1, gx2⟩ := id hvx
      refine ⟨_, rfl, _, rfl, ?_⟩
      dsimp only [tNil]
      refine called_res p5 f2 hvx ox fun y H6 s6 n6 r6 => ?_
      have f3 := f2.put ox.m ox.q
      have lt3 := (put_in2 f2.ok f2.lt ox.m ox.q).2.2 ox.ch
      have g6 := gr_sm g5 s6
      have p6 := p5.sm s6
      have er6 := s6 _ _ er5
      have cs6 := cs5.tk (stk s6)
      have gx1 := (stk s6).seq gx1
      have gx2 := (stk s6).seq gx2
      clear g5 p5 er5 cs5 s6 n6
      refine ⟨_, rfl, r, rfl, ⟨_, SqL.of er6⟩, fun D1 nD1 => ?_⟩
      refine lcL (K := K) (a := r) (xs := us) (fun j acc H' => Same H6 H' ∧ acc = []) ⟨same_new nD1, rfl⟩ (fun j acc H' h => SqL.of (h.1 _ _ er6)) ?_ ?_
      · rintro j z acc H7 hzj hla eac ⟨s7, rfl⟩
        obtain ⟨cj, hcj, hvj0⟩ := paired_at cs6 hzj
        have hvj := hvj0.tk (stk s7)
        obtain ⟨kj, psj, qj, oj⟩ := (mem_allC f2.ok).mp (List.mem_of_getElem? hcj)
        obtain ⟨tj, bj, rfl, gj1, gj2⟩ := id hvj
        refine ⟨_, rfl, tj, _, 0, .ref bj, rfl, rfl, gj1, rfl, _, rfl, tx, _, 0, .ref bx, rfl, rfl, (stk s7).seq gx1, rfl, ?_⟩
        refine ne_paths gj2 ((stk s7).seq gx2) ?_
        refine ⟨_, rfl, ?_⟩
        by_cases same : cj.1 = cx.1
        · rw [decide_eq_true same]
          exact iteF (iteF ⟨[], Nat.zero_le _, eac, s7, rfl⟩)
        · rw [decide_eq_false same]
          refine iteT ?_
          refine ⟨_, rfl, _, rfl, ?_⟩
          dsimp only [tNil]
          refine iscall_res (r6.sm s7) f3 hvj (ox.stay oj (Ne.symm same)) ?_
          exact ⟨_, rfl, iteF' rfl ⟨[], Nat.zero_le _, eac, s7, rfl⟩⟩
      · rintro acc H7 hla eac ⟨s7, rfl⟩
        refine ⟨_, rfl, Nat.zero_le _, fun l2 nl2 => ?_⟩
        have s8 : Same H7 (upd H7 l2 (.lst [])) := same_new nl2
        refine ⟨.list [], .list [], .lst (SqL.of (s8 _ _ eac)) .nil, .lst (SqL.of upd_same) .nil, by decide +kernel, by decide +kernel, _, rfl, ?_⟩
        refine iteF' (by decide +kernel) ?_
        have s78 := s7.trans s8
        have r8 := r6.sm s78
        have p8 := p6.sm s78
        have g8 := gr_sm g6 s78
        generalize upd H7 l2 (.lst []) = H8 at r8 p8 g8 ⊢
        obtain ⟨dy, _, _, ey, _⟩ := id r8
        refine ⟨_, rfl, y, dy, _, rfl, ey, y, _, rfl, pr_ok r8 f3, f3.lt, fun H9 s9 => ?_⟩
        have p9 := p8.sm s9
        obtain ⟨dz, _, _, ez, _⟩ := id p9
        refine ⟨_, rfl, a2, dz, _, rfl, ez, a2, _, rfl, pr_ok p9 f2, f2.lt, fun H10 s10 => ?_⟩
        refine ⟨_, _, rfl, rfl, _, rfl, iteF' (decide_eq_false (by omega)) ?_⟩
        refine ⟨_, rfl, ?_⟩
        have s810 := s9.trans s10
        exact ⟨y, _, _, _, _, _, _, _, rfl, gr_sm g8 s810, r8.sm s810, f3, by omega⟩
    · rintro σ H2 ⟨a2, pl2, x2, x3, x4, x5, x6, x7, rfl, g2, p2, f2, c2⟩
      have z : countIn choiceKinds (nodesOf pl2) = 0 := by omega
      obtain ⟨dx2, _, _, ea2, _⟩ := id p2
      refine ⟨_, rfl, a2, dx2, _, rfl, ea2, a2, nodesOf pl2, rfl, pr_ok p2 f2, f2.lt, fun H3 s3 => ?_⟩
      rw [z]
      refine ⟨by rfl, _, rfl, iteT' (by decide) ?_⟩
      refine ⟨_, rfl, fun x dx nx nd ne => makeSf nx nd (p2.sm s3) f2.ok f2.lt fun H4 s4 sf => ⟨rfl, ?_⟩⟩
      obtain ⟨dxs, tp, ups, exs, hjunk⟩ := id sf
      refine ⟨x, dxs, _, rfl, exs, rfl, x, a2, pl2, rfl, sf, f2.ok, f2.lt, fun H5 s5 => ?_⟩
      rw [none_inK f2 z]
      exact q _ (gr_sm (gr_sm (gr_sm g2 s3) s4) s5)
end
end Eh
set_option Elab.async false
set_option linter.all false
set_option maxRecDepth 100000
set_option maxHeartbeats 16000000
namespace Eh
open PySem PySem.Spec PyProof.Rows L2
def rNotInT (K : PySem.W.Frag) : R2 := fun x y H Q => ∃ d ds, Dp K H x d ∧ Dp K H y (.tuple ds) ∧ SeqAt.shaped d = true ∧ SeqAt.shaped (.tuple ds) = true ∧ Q (.bl (!ds.any fun z => PyData.eqv z d)) H
theorem notInT {X : Cx} {K : PySem.W.Frag} (hK : X.K = K) (hu : X.A.units + 65 < cLine) : OpR X (compareOp .NotIn) (rNotInT K) := by
  subst hK
  intro pins s σ H x y v u Q I rx ry h
  obtain ⟨d, ds, hd, he, sd, se, q⟩ := h
  obtain ⟨as, r1⟩ := Dp.reads I d x v hd rx
  obtain ⟨bs, r2⟩ := Dp.reads I (.tuple ds) y u he ry
  exact SeqAt.notIn_tuple_reads r2 r1 (SeqAt.canLay_of_shaped se) (SeqAt.canLay_of_shaped sd) (room_in_shaped sd hu) ⟨.bl _, H, I, rfl, q⟩
theorem StandC.tk {K : PySem.W.Frag} {H H' : Hp} {L : List (CKey × Addr)} (h : StandC K H L) (t : Tk H H') : StandC K H' L := fun e he => (h e he).tk t
/-- a place among the places -/
theorem path_in {K : PySem.W.Frag} {H : Hp} {b r : Addr} {pa : List Nat} {us : List V} {ps : List (List Nat)} {Q : VK} (hb : SqT K H b (pa.map natV)) (hr : SqT K H r us) (hp : PthsAt K H us ps) (hm : pa ∈ ps) (q : Q (.bl false) H) : rNotInT K (.ref b) (.ref r) H Q := by
  have hs : SeqAt.shaped (.tuple (ps.map fun ns => PyData.tuple (ns.map fun (i : Nat) => PyData.int (i : Int)))) = true := pthsD_shaped ps
  refine ⟨pathD2 pa, _, .tup hb (dpl_nats _), .tup hr (dp_pths hp), pathD2_shaped pa, hs, ?_⟩
  have : ((ps.map fun ns => PyData.tuple (ns.map fun (i : Nat) => PyData.int (i : Int))).any fun z => PyData.eqv z (pathD2 pa)) = true := by
    rw [List.any_eq_true]
    exact ⟨pathD2 pa, List.mem_map.mpr ⟨pa, hm, rfl⟩, by rw [pathD2_eqv]; exact decide_eq_true rfl⟩
  rw [this]
  exact q
/-- a pair of calls at different places -/
def PairAt (K : PySem.W.Frag) (H : Hp) (pl : Pl) (z : V) : Prop := ∃ t u v cu cv, z = .ref t ∧ SqT K H t [u, v] ∧ CallAt K H u cu ∧ CallAt K H v cv ∧ cu ∈ allC pl ∧ cv ∈ allC pl ∧ cu.1 ≠ cv.1
theorem PairAt.tk {K : PySem.W.Frag} {H H' : Hp} {pl : Pl} {z : V} (h : PairAt K H pl z) (t : Tk H H') : PairAt K H' pl z := by
  obtain ⟨a, u, v, cu, cv, e, h1, h2, h3, h4⟩ := h
  exact ⟨a, u, v, cu, cv, e, t.seq h1, h2.tk t, h3.tk t, h4⟩
theorem some_mem {ys xs : List V} (h : SomeOf ys xs) : ∀ y ∈ ys, y ∈ xs := fun y hy => by
  obtain ⟨rest, pm⟩ := h
  exact pm.mem_iff.mp (List.mem_append_left _ hy)
section
variable {P : Program} {w : World} {K : PySem.W.Frag} {mg : Str → Option Value} {base : Heap}
def spRight13 : Sp := fun vs H Q _ => ∃ d, vs = [.ref d] ∧ D3 H d ∧ ∀ H', Gr d H H' → Q (.bl true) H'
theorem ok_right13 {C CE fI fL fP fM fAc fSf fSo fPr fRr f : Addr} {fdP fdM fdAc fdSf fdSo fdPr fdRr fd : FuncData} (F : Fun K "_law_right" "_law_right" s__law_right f fd) (T : Txt mg) (PC : PromC K mg C fI fL)
    (C__law_promise : Cal P w K mg base 26 "_law_promise" fP fdP ["dice"] (spPromise K)) (C__law_all_calls : Cal P w K mg base 6 "_law_all_calls" fAc fdAc ["made"] (spAllC K C)) (C__law_some : Cal P w K mg base 2 "_law_some" fSo fdSo ["dice", "items", "size"] (spSome K))
    (GM : FnOk P w K mg base (L2.CX P w) 17 fM fdM ["plain"] (spMadeE K C CE 11)) (mM : mg "_law_made" = some (.ref fM)) (kM : PySem.W.keepIn K (.ref fM) = true) (bM : Binds K fdM ["plain"] [])
    (GSf : FnOk P w K mg base (L2.CX P w) 4 fSf fdSf ["promise"] (spSurface K C CE)) (mSf : mg "surface" = some (.ref fSf)) (kSf : PySem.W.keepIn K (.ref fSf) = true) (bSf : Binds K fdSf ["promise"] [])
    (C__law_pair_right : Cal P w K mg base 9 "_law_pair_right" fPr fdPr ["made", "one", "other"] (spPairR K C)) (C__law_row_right : Cal P w K mg base 8 "_law_row_right" fRr fdRr ["dice", "made"] (spRowR K C)) : FnOk P w K mg base CX0 27 f fd ["dice"] spRight13 := by
  refine F.ok sc__law_right (fun vs H Q E h => ?_) (fun cdv A outer s H vs Q E hr h => ?_)
  · obtain ⟨d, rfl, _⟩ := h
    rfl
  · obtain ⟨d, rfl, D, q⟩ := h
    have hr17 := hr.mono (j := 17) (by omega)
    have hr9 := hr.mono (j := 9) (by omega)
    have hr8 := hr.mono (j := 8) (by omega)
    have hr6 := hr.mono (j := 6) (by omega)
    have hr4 := hr.mono (j := 4) (by omega)
    have hr2 := hr.mono (j := 2) (by omega)
    refine ⟨_, (pss_cons (ps_set (i := 1) sc__law_right.nd rfl (.inl rfl) (pe_call C__law_promise.G hr (by rfl) C__law_promise.m C__law_promise.k C__law_promise.b .nil pass0 (pa_cons (pv 0) pa_nil)))
  (pss_cons (ps_set (i := 2) sc__law_right.nd rfl (.inr rfl) (pe_call (E := E0) GM hr17 (by rfl) mM kM bM .nil passL (pa_cons (pv 1) pa_nil)))
  (pss_cons (ps_set (i := 3) sc__law_right.nd rfl (.inl rfl) (pe_call C__law_all_calls.G hr6 (by rfl) C__law_all_calls.m C__law_all_calls.k C__law_all_calls.b .nil pass0 (pa_cons (pv 2) pa_nil)))
  (pss_cons (ps_if (PW.pt (pw_or (pt_cmpR (neD (K := K) rfl (hu64e hr)) (pe_callB (sortSC (K := K) (P := P) (w := w) rfl rfl rfl (by rfl) (hu64e hr)) (by rfl) T.sorted_ (by decide +kernel) (pa_cons (pe_callTy (setC2 (K := K) (P := P) (w := w) rfl rfl rfl (by rfl) (hu64e hr)) (by rfl) T.set_ (by decide +kernel) (pa_cons (pv 3) pa_nil)) pa_nil)) (pe_callB (sortLC (K := K) rfl (hu64e hr)) (by rfl) T.sorted_ (by decide +kernel) (pa_cons (pv 3) pa_nil)) (nomark _)) (pw_or1 (pt_cmpR (neD (K := K) rfl (hu64e hr)) (pe_lc (own := [("call", 7)]) (g := gName 7) (by rfl) sc__law_right.nd (piL (K := K) rfl (pv 3)) (blkOk_by (by kernel_rfl)) (fun _ _ _ _ _ => (pg_name (i := 7) sc__law_right.nd rfl (.inl rfl))) (fun _ _ _ _ _ => (pts_one (pt_cmpR (notInT (K := K) rfl (hu65e hr)) (pe_ix (ixT (K := K) rfl) (pv 7) pe_int (fun _ _ => rfl)) (pe_call (E := E0) GSf hr4 (by rfl) mSf kSf bSf .nil passL (pa_cons (pv 2) pa_nil)) (by rfl)))) (fun _ _ _ _ _ => (pv 7))) (pe_lst pa_nil) (nomark _)))))
  (pss_one (ps_ret pe_bl))
  pss_nil)
  (pss_cons (ps_set (i := 4) sc__law_right.nd rfl (.inl rfl) (pe_lst pa_nil))
  (pss_cons (ps_for PassesOwn.never (by rfl) (piL (K := K) rfl (pv 3)) (pg_name (i := 5) sc__law_right.nd rfl (.inr rfl))
  (pss_one (ps_set (i := 4) sc__law_right.nd rfl (.inl rfl) (pe_op op_cat (pv 4) (pe_lc (own := [("other", 6)]) (g := gName 6) (by rfl) sc__law_right.nd (piL (K := K) rfl (pv 3)) (blkOk_by (by kernel_rfl)) (fun _ _ _ _ _ => (pg_name (i := 6) sc__law_right.nd rfl (.inl rfl))) (fun _ _ _ _ _ => (pts_one (pt_cmpR (neD (K := K) rfl (hu64e hr)) (pe_ix (ixT (K := K) rfl) (pv 5) pe_int (fun _ _ => rfl)) (pe_ix (ixT (K := K) rfl) (pv 6) pe_int (fun _ _ => rfl)) (nomark _)))) (fun _ _ _ _ _ => (pe_tup (pa_cons (pv 5) (pa_cons (pv 6) pa_nil)))))))))
  (pss_cons (ps_for PassesOwn.never (by rfl) (piL (K := K) rfl (pe_call C__law_some.G hr2 (by rfl) C__law_some.m C__law_some.k C__law_some.b .nil pass0 (pa_cons (pv 0) (pa_cons (pv 4) (pa_cons pe_int pa_nil))))) (pgT (K := K) rfl (by rfl) (pgs_cons (pg_name (i := 5) sc__law_right.nd rfl (.inr rfl)) (pgs_cons (pg_name (i := 6) sc__law_right.nd rfl (.inl rfl)) pgs_nil)))
  (pss_one (ps_if (pt_not (pt_val (pe_call C__law_pair_right.G hr9 (by rfl) C__law_pair_right.m C__law_pair_right.k C__law_pair_right.b .nil pass0 (pa_cons (pv 2) (pa_cons (pv 5) (pa_cons (pv 6) pa_nil))))))
  (pss_one (ps_ret pe_bl))
  pss_nil)))
  (pss_one (ps_ret (pe_call C__law_row_right.G hr8 (by rfl) C__law_row_right.m C__law_row_right.k C__law_row_right.b .nil pass0 (pa_cons (pv 0) (pa_cons (pv 2) pa_nil)))))))))))), ?_⟩
    refine ⟨_, rfl, d, rfl, D, fun v pl ws H1 g1 A1 hw3 hwu hwi hl11 hc4 => ?_⟩
    have dp := Drawn.of A1 hwu hwi hl11
    have f := dp.fit
    clear hw3 hwu hwi hl11 hc4 ws
    refine ⟨_, rfl, v, pl, rfl, A1, dp.good, f.l, by decide, fun _ a H2 s2 n2 pr2 => ?_, fun eo => by rw [dp.okB] at eo; cases eo⟩
    have g2 := gr_sm g1 s2
    refine ⟨_, rfl, a, pl, rfl, pr2, f, fun r us H3 s3 n3 e3 cs3 => ?_⟩
    have g3 := gr_sm g2 s3
    have p3 := pr2.sm s3
    have few := allC_few f
    have hul : us.length = (allC pl).length := Paired.length cs3
    clear A1 g1 s2 n2 pr2 g2 s3 n3 dp
    refine ⟨_, rfl, r, us, allC pl, rfl, SqL.of e3, cs3, by omega, fun sa L nsa stL ndL mem => ?_⟩
    have z1 : Same H3 (upd H3 sa (ScO P w sa L)) := same_new nsa
    refine ⟨sa, L, rfl, upd_same, stL.tk (stk z1), fun pa1 us1 cc1 np1 cs1 pm1 srt1 => ?_⟩
    have z2 : Same (upd H3 sa (ScO P w sa L)) (upd (upd H3 sa (ScO P w sa L)) pa1 (.lst us1)) := same_new np1
    have z12 := z1.trans z2
    have e4 : upd (upd H3 sa (ScO P w sa L)) pa1 (.lst us1) pa1 = some (.lst us1) := upd_same
    have cs1 := cs1.tk (stk z2)
    have cs4 := cs3.tk (stk z12)
    have er4 := z12 _ _ e3
    have g4 := gr_sm g3 z12
    have p4 := p3.sm z12
    generalize upd (upd H3 sa (ScO P w sa L)) pa1 (.lst us1) = H4 at e4 cs1 cs4 er4 g4 p4 ⊢
    clear z1 z2 z12 nsa stL np1 e3 cs3 g3 p3
    refine ⟨_, rfl, r, us, allC pl, rfl, SqL.of er4, cs4, by omega, fun pa2 us2 cc2 np2 cs2 pm2 srt2 => ?_⟩
    have z3 : Same H4 (upd H4 pa2 (.lst us2)) := same_new np2
    have e5 : upd H4 pa2 (.lst us2) pa2 = some (.lst us2) := upd_same
    have pmL : (L.map (·.1)).Perm (allC pl) := (List.perm_ext_iff_of_nodup ndL (allC_nodup f.ok)).mpr mem
    have same : cc1 = cc2 := sortedC_eq srt1 srt2 (pm1.trans (pmL.trans pm2.symm))
    subst same
    have cs1 := cs1.tk (stk z3)
    have cs2 := cs2.tk (stk z3)
    have e4 := z3 _ _ e4
    have cs5 := cs4.tk (stk z3)
    have er5 := z3 _ _ er4
    have g5 := gr_sm g4 z3
    have p5 := p4.sm z3
    generalize upd H4 pa2 (.lst us2) = H5 at e4 e5 cs1 cs2 cs5 er5 g5 p5 ⊢
    clear z3 np2 cs4 er4 g4 p4 srt1 srt2 pm1 pm2 pmL mem ndL
    have shp := callsD_shaped cc1
    refine ⟨callsD cc1, callsD cc1, .lst (SqL.of e4) (dp_calls cs1), .lst (SqL.of e5) (dp_calls cs2), shp, shp, ?_⟩
    rw [eqv_self shp]
    refine ⟨_, rfl, iteF ?_⟩
    clear e4 e5 cs1 cs2 shp
    refine ⟨_, rfl, r, rfl, ⟨_, SqL.of er5⟩, fun D1 nD1 => ?_⟩
    refine lcL (K := K) (a := r) (xs := us) (fun j acc H' => Same H5 H' ∧ acc = []) ⟨same_new nD1, rfl⟩ (fun j acc H' h => SqL.of (h.1 _ _ er5)) ?_ ?_
    · rintro j z acc H7 hzj hla eac ⟨s7, rfl⟩
      obtain ⟨cj, hcj, hvj0⟩ := paired_at cs5 hzj
      have hvj := hvj0.tk (stk s7)
      obtain ⟨kj, psj, qj, oj⟩ := (mem_allC f.ok).mp (List.mem_of_getElem? hcj)
      obtain ⟨tj, bj, rfl, gj1, gj2⟩ := id hvj
      refine ⟨_, rfl, tj, _, 0, .ref bj, rfl, rfl, gj1, rfl, ?_⟩
      refine ⟨_, rfl, .ref a, rfl, .inl ⟨a, pl, rfl, p5.sm s7, f.ok, f.lt, fun rs uss H8 s8 n8 e8 hp8 => ?_⟩⟩
      refine path_in ((stk s8).seq gj2) (SqT.of e8) hp8 (List.mem_map.mpr ⟨_, oj.m, rfl⟩) ?_
      exact ⟨_, rfl, iteF ⟨[], Nat.zero_le _, s8 _ _ eac, s7.trans s8, rfl⟩⟩
    · rintro acc H7 hla eac ⟨s7, rfl⟩
      refine ⟨Nat.zero_le _, fun l2 nl2 => ?_⟩
      have s8 : Same H7 (upd H7 l2 (.lst [])) := same_new nl2
      refine ⟨.list [], .list [], .lst (SqL.of (s8 _ _ eac)) .nil, .lst (SqL.of upd_same) .nil, by decide +kernel, by decide +kernel, _, rfl, ?_⟩
      refine iteF' (by decide +kernel) ?_
      have s78 := s7.trans s8
      have p8 := p5.sm s78
      have g8 := gr_sm g5 s78
      have cs8 := cs5.tk (stk s78)
      have er8 := s78 _ _ er5
      generalize upd H7 l2 (.lst []) = H8 at p8 g8 cs8 er8 ⊢
      clear s7 s8 s78 hla eac p5 g5 cs5 er5 nD1
      -- pairs
      refine ⟨Nat.zero_le _, fun l3 nl3 => ?_⟩
      have z9 : Same H8 (upd H8 l3 (.lst [])) := same_new nl3
      have e9 : upd H8 l3 (.lst []) l3 = some (.lst []) := upd_same
      have p9 := p8.sm z9
      have g9 := gr_sm g8 z9
      have cs9 := cs8.tk (stk z9)
      have er9 := z9 _ _ er8
      generalize upd H8 l3 (.lst []) = H9 at p9 g9 cs9 er9 e9 ⊢
      clear z9 nl3 p8 g8 cs8 er8
      refine ⟨_, rfl, r, rfl, ⟨_, SqL.of er9⟩, for_list (K := K) (a := r) (xs := us) (fun i σ H' => ∃ lp zs x5 x6, σ = [some (.ref d), some v, some (.ref a), some (.ref r), some (.ref lp), x5, x6, none] ∧ Same H9 H' ∧ H' lp = some (.lst zs) ∧ (∀ z ∈ zs, PairAt K H' pl z) ∧ zs.length ≤ 10 * i) ?_ (fun i σ H' _ h => ?_) ?_ ?_⟩
      · exact ⟨l3, [], _, _, rfl, Same.refl _, e9, fun z hz => (nomatch hz), Nat.zero_le _⟩
      · obtain ⟨lp, zs, x5, x6, rfl, sx, _⟩ := h
        exact SqL.of (sx _ _ er9)
      · rintro i x σ H10 hx ⟨lp, zs, x5, x6, rfl, s10, ep, hz, hzl⟩
        obtain ⟨cx, hcx, hvx0⟩ := paired_at cs9 hx
        have hvx := hvx0.tk (stk s10)
        have hi := (List.getElem?_eq_some_iff.mp hx).1
        obtain ⟨tx, bx, rfl, gx1, gx2⟩ := id hvx
        refine ⟨_, rfl, _, rfl, r, rfl, ⟨_, SqL.of (s10 _ _ er9)⟩, fun D2 nD2 => ?_⟩
        refine lcL (K := K) (a := r) (xs := us) (fun j acc H' => Same H10 H' ∧ (∀ z ∈ acc, PairAt K H' pl z)) ⟨same_new nD2, fun z hz => (nomatch hz)⟩ (fun j acc H' h => SqL.of (h.1 _ _ (s10 _ _ er9))) ?_ ?_
        · rintro j z acc H11 hzj hla eac ⟨s11, hacc⟩
          obtain ⟨cj, hcj, hvj0⟩ := paired_at cs9 hzj
          have hjl := (List.getElem?_eq_some_iff.mp hzj).1
          have hvj := hvj0.tk (stk (s10.trans s11))
          obtain ⟨tj, bj, rfl, gj1, gj2⟩ := id hvj
          refine ⟨_, rfl, tx, _, 0, .ref bx, rfl, rfl, (stk s11).seq gx1, rfl, _, rfl, tj, _, 0, .ref bj, rfl, rfl, gj1, rfl, ?_⟩
          refine ne_paths ((stk s11).seq gx2) gj2 ?_
          refine ⟨_, rfl, ?_⟩
          by_cases same : cx.1 = cj.1
          · rw [decide_eq_true same]
            exact iteF ⟨acc, by omega, eac, s11, hacc⟩
          · rw [decide_eq_false same]
            refine iteT ?_
            refine ⟨_, rfl, _, rfl, lenOk 2, fun tp ntp => ?_⟩
            have s12 : Same H11 (upd H11 tp (.tup [.ref tx, .ref tj])) := same_new ntp
            have e12 : upd H11 tp (.tup [.ref tx, .ref tj]) tp = some (.tup [.ref tx, .ref tj]) := upd_same
            generalize upd H11 tp (.tup [.ref tx, .ref tj]) = H12 at s12 e12 ⊢
            have s13 := s11.trans s12
            have pnew : PairAt K H12 pl (.ref tp) := ⟨tp, _, _, cx, cj, rfl, SqT.of e12, hvx.tk (stk s13), hvj.tk (stk s12), List.mem_of_getElem? hcx, List.mem_of_getElem? hcj, same⟩
            have eac := s12 _ _ eac
            refine LcK.mk hla (by omega) eac ⟨fun b' o' eb => ?_, fun z hz => ?_⟩
            · rw [upd_ne (ne_of_none eb nD2)]
              exact s13 _ _ eb
            · have t2 : Tk H12 (upd H12 D2 (.lst (acc ++ [.ref tp]))) := Tk.put eac
              rcases List.mem_append.mp hz with hz | hz
              · exact (hacc z hz).tk ((stk s12).trans t2)
              · rw [List.mem_singleton.mp hz]
                exact pnew.tk t2
        · rintro acc H11 hla eac ⟨s11, hacc⟩
          have ep11 := s11 _ _ ep
          have hal : acc.length ≤ 10 := by omega
          refine ⟨lp, D2, zs, acc, rfl, rfl, ep11, eac, (by first | exact Nat.le_of_lt (small (n := zs.length + acc.length) (by omega)) | exact Nat.le_of_lt (small (n := (zs ++ acc).length) (by rw [List.length_append]; omega))), fun l4 nl4 => ?_⟩
          have s14 : Same H11 (upd H11 l4 (.lst (zs ++ acc))) := same_new nl4
          refine ⟨l4, zs ++ acc, _, _, rfl, s10.trans (s11.trans s14), upd_same, fun z hz2 => ?_, by rw [List.length_append]; omega⟩
          rcases List.mem_append.mp hz2 with hz2 | hz2
          · exact (hz z hz2).tk (stk (s11.trans s14))
          · exact (hacc z hz2).tk (stk s14)
      · rintro σ H10 ⟨lp, zs, x5, x6, rfl, s10, ep, hz, hzl⟩
        have g10 := gr_sm g9 s10
        have p10 := p9.sm s10
        clear s10 g9 p9 cs9 er9 e9
        have ne_d : lp ≠ d := fun z => by
          obtain ⟨_, _, _, ed⟩ := g10.dice
          rw [z, ed] at ep
          have el : zs = [.int _, .int _, .int _] := (HO.lst.inj (Option.some.inj ep)).symm
          obtain ⟨_, _, _, _, _, e, _⟩ := hz (.int _) (by rw [el]; exact List.mem_cons_self)
          cases e
        have hzs : zs.length < 1000000 := by omega
        refine ⟨_, rfl, _, rfl, d, lp, zs, 5, rfl, g10.dice, SqL.of ep, ne_d, hzs, by decide, fun ys p11 H11 hsome hyl g011 n11 e11 => ?_⟩
        have g11 := g10.trans g011
        have p11' := p10.gr g011 g10.dice
        have hy : ∀ y ∈ ys, PairAt K H11 pl y := fun y hy => (hz y (some_mem hsome y hy)).tk (g011.tk g10.dice)
        clear g10 p10 g011 n11 hyl hsome hz ep ne_d
        refine ⟨p11, rfl, ⟨_, SqL.of e11⟩, for_list (K := K) (a := p11) (xs := ys) (fun i σ H' => ∃ x5 x6, σ = [some (.ref d), some v, some (.ref a), some (.ref r), some (.ref lp), x5, x6, none] ∧ Same H11 H') ?_ (fun i σ H' _ h => ?_) ?_ ?_⟩
        · exact ⟨_, _, rfl, Same.refl _⟩
        · obtain ⟨x5, x6, rfl, sx⟩ := h
          exact SqL.of (sx _ _ e11)
        · rintro i x σ H12 hx ⟨y5, y6, rfl, s12⟩
          obtain ⟨t, u1, u2, cu, cv, rfl, h1, h2, h3, h4, h5, ne⟩ := (hy x (List.mem_of_getElem? hx)).tk (stk s12)
          obtain ⟨k1, ps1, q1, o1⟩ := (mem_allC f.ok).mp h4
          obtain ⟨k2, ps2, q2, o2⟩ := (mem_allC f.ok).mp h5
          refine ⟨t, _, rfl, h1, rfl, _, _, rfl, _, _, rfl, rfl, ?_⟩
          refine ⟨_, rfl, _, rfl, _, rfl, a, u1, u2, pl, cu, cv, k1, k2, ps1, ps2, q1, q2, rfl, p11'.sm s12, f, h2, h3, o1, o2, ne, fun H13 s13 => ⟨_, rfl, iteF' rfl ?_⟩⟩
          exact ⟨_, _, rfl, s12.trans s13⟩
        · rintro σ H12 ⟨y5, y6, rfl, s12⟩
          have g12 := gr_sm g11 s12
          exact ⟨_, rfl, _, rfl, d, a, pl, rfl, g12.dice, p11'.sm s12, f, fun H13 g13 => q _ (g12.trans g13)⟩
end
end Eh
set_option Elab.async false
set_option linter.all false
set_option maxRecDepth 100000
set_option maxHeartbeats 8000000
namespace Eh
open PySem PySem.Spec PyProof.Rows L2
open ClX Zl
def nokB (n : Str × V) : Bool := nodeAB n.1 n.2 && (match n.2 with | .str z => uni6.contains z | _ => true)
theorem nokB_ok {ns : List (Str × V)} (h : ns.all nokB = true) : ∀ n ∈ ns, NOk n := fun n hn => by
  have := List.all_eq_true.mp h n hn
  unfold nokB at this
  rw [Bool.and_eq_true] at this
  refine ⟨this.1, fun z e => ?_⟩
  have h2 := this.2
  rw [e] at h2
  simpa using h2
def lawZ13 : Str := "([a + b] | [!a * !b])"
def lawA13 : Pl := .node "mine" [.leaf "fact" (.str "a"), .leaf "fact" (.str "b")]
def lawB13 : Pl := .node "yours" [.leaf "not" (.str "a"), .leaf "not" (.str "b")]
def lawP13 : Pl := .node "some" [lawA13, lawB13]
def lawN13 : List (Str × V) := [("some", .int 2), ("mine", .int 2), ("fact", .str "a"), ("fact", .str "b"), ("yours", .int 2), ("not", .str "a"), ("not", .str "b")]
theorem lawN13_eq : nodesOf lawP13 = lawN13 := by
  unfold lawP13 lawN13 lawA13 lawB13
  simp [nodesOf, nodesAll]
def lawM13 : List (Str × V) := [("some", .int 2), ("fact", .str "b"), ("not", .str "a")]
theorem lawM13_eq : nodesOf (putP (putP lawP13 [0] (.leaf "fact" (.str "b"))) [1] (.leaf "not" (.str "a"))) = lawM13 := by kernel_rfl
theorem lawFit13 : Fit lawP13 := by
  refine ⟨by decide +kernel, ?_, by rw [lawN13_eq]; decide, ?_⟩
  · rw [lawN13_eq]
    exact fun k z h => (nokB_ok (ns := lawN13) (by decide +kernel) _ h).2 z rfl
  · rw [lawN13_eq]
    exact fun n hn => (nokB_ok (ns := lawN13) (by decide +kernel) n hn).1
theorem lawO1 : CallOf lawP13 ([0], 1) "mine" [.leaf "fact" (.str "a"), .leaf "fact" (.str "b")] (.leaf "fact" (.str "b")) := by
  refine ⟨?_, by decide +kernel, rfl⟩
  rw [show subsP lawP13 = [([], lawP13), ([0], lawA13), ([1], lawB13)] from by kernel_rfl]
  unfold lawA13
  simp
theorem lawO2 : CallOf lawP13 ([1], 0) "yours" [.leaf "not" (.str "a"), .leaf "not" (.str "b")] (.leaf "not" (.str "a")) := by
  refine ⟨?_, by decide +kernel, rfl⟩
  rw [show subsP lawP13 = [([], lawP13), ([0], lawA13), ([1], lawB13)] from by kernel_rfl]
  unfold lawB13
  simp
section
variable {P : Program} {w : World} {K : PySem.W.Frag} {mg : Str → Option Value} {base : Heap}
def spLaw13 (K : PySem.W.Frag) : Sp := fun vs H Q _ => ∃ (a : Addr) (ns : List Int), vs = [.ref a] ∧ SqL K H a (ns.map V.int) ∧ ns.length ≤ 63 ∧ ∀ H', Q (.bl true) H'
/-- a call laid out: the place, the call -/
theorem ok_law13 {C CC fI fL fD fR fPr fCd pT gT f : Addr} {fdD fdR fdPr fdCd fdT fd : FuncData} (F : Fun K "law" "law" s_law f fd) (T : Txt mg) (PC : PromC K mg C fI fL)
    (C__law_dice : Cal P w K mg base 1 "_law_dice" fD fdD ["script", "spot"] (spDice K)) (C__law_right : Cal P w K mg base 27 "_law_right" fR fdR ["dice"] spRight13) (C__law_pair_right : Cal P w K mg base 9 "_law_pair_right" fPr fdPr ["made", "one", "other"] (spPairR K C))
    (GCd : FnOk P w K mg base (L2.CX P w) 7 fCd fdCd ["promise", "call"] (spCalled K C CC)) (mCd : mg "called" = some (.ref fCd)) (kCd : PySem.W.keepIn K (.ref fCd) = true) (bCd : Binds K fdCd ["promise", "call"] [])
    (PT : PropC P w K mg base C "text" 3 (spTextP K C) pT gT fdT)
    {mc : Value} {q1 r1 : Addr} {fr1 : FuncData} (CR : CRead K C mc) (M1 : CMet K C mc "read" q1 r1) (GR : FnT P w K mg base 6 r1 fr1 ["cls", "text"] (spReadOk K C)) (bR : Binds K fr1 ["cls", "text"] []) :
    FnOk P w K mg base CX0 28 f fd ["script"] (spLaw13 K) := by
  refine F.ok sc_law (fun vs H Q E h => ?_) (fun cdv A outer s H vs Q E hr h => ?_)
  · obtain ⟨a, ns, rfl, _⟩ := h
    rfl
  · obtain ⟨a, ns, rfl, hS, hl, q⟩ := h
    have hr9 := hr.mono (j := 9) (by omega)
    have hr7 := hr.mono (j := 7) (by omega)
    have hr6 := hr.mono (j := 6) (by omega)
    have hr4 := hr.mono (j := 4) (by omega)
    have hr1 := hr.mono (j := 1) (by omega)
    refine ⟨_, (pss_cons (ps_for PassesOwn.never (by rfl) (pi_range1 (by rfl) T.range_ (pa_cons (pe_callB (call_max2 (by rfl)) (by rfl) T.max_ (by decide +kernel) (pa_cons pe_int (pa_cons (pe_callB (call_min2 (by rfl)) (by rfl) T.min_ (by decide +kernel) (pa_cons pe_int (pa_cons (pe_callB (lenQ (K := K) rfl) (by rfl) T.len_ (by decide +kernel) (pa_cons (pv 0) pa_nil)) pa_nil))) pa_nil))) pa_nil)) (pg_name (i := 1) sc_law.nd rfl (.inl rfl))
  (pss_cons (ps_set (i := 2) sc_law.nd rfl (.inl rfl) (pe_call C__law_dice.G hr1 (by rfl) C__law_dice.m C__law_dice.k C__law_dice.b .nil pass0 (pa_cons (pv 0) (pa_cons (pv 1) pa_nil))))
  (pss_one (ps_for PassesOwn.never (by rfl) (pi_range1 (by rfl) T.range_ (pa_cons pe_int pa_nil)) (pg_name (i := 3) sc_law.nd rfl (.inl rfl))
  (pss_one (ps_if (pt_not (pt_val (pe_call C__law_right.G hr (by rfl) C__law_right.m C__law_right.k C__law_right.b .nil pass0 (pa_cons (pv 2) pa_nil))))
  (pss_one (ps_ret pe_bl))
  pss_nil))))))
  (pss_cons (ps_set (i := 4) sc_law.nd rfl (.inl rfl) (pe_cmethS (pe_glob (v := .ref C) rfl PC.g rfl) CR M1 GR bR hr6))
  (pss_one (ps_ret (pe_and (pe_call C__law_pair_right.G hr9 (by rfl) C__law_pair_right.m C__law_pair_right.k C__law_pair_right.b .nil pass0 (pa_cons (pv 4) (pa_cons (pe_tup (pa_cons (pe_tup (pa_cons pe_int pa_nil)) (pa_cons pe_int pa_nil))) (pa_cons (pe_tup (pa_cons (pe_tup (pa_cons pe_int pa_nil)) (pa_cons pe_int pa_nil))) pa_nil)))) (pe_one (pe_cmpR op_eq (pe_prop (pe_call (E := E0) GCd hr7 (by rfl) mCd kCd bCd .nil passL (pa_cons (pe_call (E := E0) GCd hr7 (by rfl) mCd kCd bCd .nil passL (pa_cons (pv 4) (pa_cons (pe_tup (pa_cons (pe_tup (pa_cons pe_int pa_nil)) (pa_cons pe_int pa_nil))) pa_nil))) (pa_cons (pe_tup (pa_cons (pe_tup (pa_cons pe_int pa_nil)) (pa_cons pe_int pa_nil))) pa_nil))) PC.cl PT.p PT.ok hr4 PT.b .nil pass0 rfl) pe_str (nomark _)))))))), ?_⟩
    refine ⟨_, rfl, .inl ⟨a, _, rfl, .inl hS, _, _, rfl, _, _, rfl, ?_⟩⟩
    obtain ⟨mm, em, hm⟩ : ∃ m : Int, (if (if ((ns.map V.int).length : Int) < 6 then ((ns.map V.int).length : Int) else 6) > 1 then (if ((ns.map V.int).length : Int) < 6 then ((ns.map V.int).length : Int) else 6) else 1) = m ∧ 0 ≤ m ∧ m ≤ 6 := by
      refine ⟨_, rfl, ?_⟩
      split <;> (try split) <;> omega
    rw [em]
    refine ⟨mm, rfl, by omega, by omega, ?_⟩
    refine for_range (lo := 0) (n := mm.toNat) (fun i σ H2 => (∃ x1 x2 x3 x4, σ = [some (.ref a), x1, x2, x3, x4]) ∧ Same H H2) ⟨⟨none, none, none, none, rfl⟩, Same.refl H⟩ ?_ ?_
    · rintro i σ H2 hi ⟨⟨x1, x2, x3, x4, rfl⟩, s2⟩
      refine ⟨_, rfl, _, rfl, a, ns, i, by rw [Int.zero_add]; rfl, s2.seq hS, fun d H3 s3 n3 D3' => ?_⟩
      have nd : H d = none := s2.free n3
      refine ⟨4, rfl, by decide, by decide, ?_⟩
      refine for_range (lo := 0) (n := 4) (fun j σ H4 => (∃ x1 x3 x4, σ = [some (.ref a), x1, some (.ref d), x3, x4]) ∧ Same H H4 ∧ D3 H4 d) ⟨⟨_, _, _, rfl⟩, s2.trans s3, D3'⟩ ?_ ?_
      · rintro j σ H4 hj ⟨⟨x1, x3, x4, rfl⟩, s4, D4⟩
        refine ⟨_, rfl, d, rfl, D4, fun H5 g5 => ⟨_, rfl, iteF ?_⟩⟩
        exact ⟨⟨_, _, _, rfl⟩, gr_same nd s4 g5, g5.dice⟩
      · rintro σ H4 ⟨⟨x1, x3, x4, rfl⟩, s4, D4⟩
        exact ⟨⟨_, _, _, _, rfl⟩, s4⟩
    · rintro σ H2 ⟨⟨x1, x2, x3, x4, rfl⟩, s2⟩
      clear s2
      refine ⟨rfl, lawZ13, lawN13, lawZ13, rfl, by decide +kernel, by decide +kernel, by decide +kernel, by decide +kernel, nokB_ok (by decide +kernel), by decide +kernel, by decide, by decide +kernel, rfl, fun y H4 s4 n4 PR => ?_⟩
      have pr : PrG K C H4 y (nodesOf lawP13) := by
        obtain ⟨dx, p, zs, ex, hs, hN, ho⟩ := PR
        rw [lawN13_eq]
        exact ⟨dx, p, zs, ex, hs, hN, fun n hn => (ho n hn).1⟩
      clear s4 n4 PR
      refine ⟨_, rfl, lenOk 1, fun t1 n1 => ⟨lenOk 2, fun t2 n2 => ⟨lenOk 1, fun t3 n3 => ⟨lenOk 2, fun t4 n4 => ?_⟩⟩⟩⟩
      have c1 := same_new (o := .tup [.int 0]) n1
      have c2 := same_new (o := .tup [.ref t1, .int 1]) n2
      have c3 := same_new (o := .tup [.int 1]) n3
      have c4 := same_new (o := .tup [.ref t3, .int 0]) n4
      have d3 := c3.trans c4
      have d2 := c2.trans d3
      have d1 := c1.trans d2
      have k1 : CallAt K _ (.ref t2) ([0], 1) := ⟨t2, t1, rfl, (stk d3).seq (SqT.of upd_same), (stk d2).seq (SqT.of upd_same)⟩
      have k2 : CallAt K _ (.ref t4) ([1], 0) := ⟨t4, t3, rfl, SqT.of upd_same, (stk c4).seq (SqT.of upd_same)⟩
      refine ⟨y, .ref t2, .ref t4, lawP13, ([0], 1), ([1], 0), _, _, _, _, _, _, rfl, pr.sm d1, lawFit13, k1, k2, lawO1, lawO2, by decide, fun H6 s6 => ?_⟩
      have pr := pr.sm (d1.trans s6)
      clear c1 c2 c3 c4 d1 d2 d3 k1 k2 n1 n2 n3 n4
      refine ⟨_, rfl, iteT ?_⟩
      refine ⟨_, rfl, lenOk 1, fun t5 n5 => ⟨lenOk 2, fun t6 n6 => ?_⟩⟩
      have c5 := same_new (o := .tup [.int 0]) n5
      have c6 := same_new (o := .tup [.ref t5, .int 1]) n6
      have k3 : CallAt K _ (.ref t6) ([0], 1) := ⟨t6, t5, rfl, SqT.of upd_same, (stk c6).seq (SqT.of upd_same)⟩
      dsimp only [tNil]
      refine called_res (pr.sm (c5.trans c6)) lawFit13 k3 lawO1 fun x1 H7 s7 n7 p7 => ?_
      have f1 := lawFit13.put lawO1.m lawO1.q
      have o2 := lawO1.stay lawO2 (by decide)
      refine ⟨lenOk 1, fun t7 n8 => ⟨lenOk 2, fun t8 n9 => ?_⟩⟩
      have c7 := same_new (o := .tup [.int 1]) n8
      have c8 := same_new (o := .tup [.ref t7, .int 0]) n9
      have k4 : CallAt K _ (.ref t8) ([1], 0) := ⟨t8, t7, rfl, SqT.of upd_same, (stk c8).seq (SqT.of upd_same)⟩
      dsimp only [tNil]
      refine called_res (p7.sm (c7.trans c8)) f1 k4 o2 fun x2 H8 s8 n10 p8 => ?_
      rw [lawM13_eq] at p8
      obtain ⟨dx, pN, xsN, ex, hsN, hN, hG⟩ := id p8
      refine ⟨x2, dx, _, rfl, ex, x2, lawM13, "(b | !a)", rfl, ⟨dx, pN, xsN, ex, hsN, hN, nokB_ok (by decide +kernel)⟩, by decide +kernel, by decide, by decide +kernel, fun H9 s9 => ?_⟩
      refine ⟨rfl, ?_⟩
      rw [decide_eq_true rfl]
      exact q _
end
end Eh
set_option Elab.async false
set_option linter.all false
set_option maxRecDepth 100000
set_option maxHeartbeats 8000000
set_option pp.deepTerms false
set_option pp.maxSteps 30
namespace Eh
open PySem PySem.Spec PyProof.Rows L2
theorem kit_no {K : PySem.W.Frag} {C CS : Addr} (i : PySem.W.isClsIn K CS = true) (t : PySem.W.typeIn K (.ref CS) = some (.type "type")) (s : PySem.W.subIn K (.ref C) (.ref CS) = some false) (n : (C == CS) = false) : PySem.W.kitOne K (.ref C) (.ref CS) = some false := by
  unfold PySem.W.kitOne
  rw [if_neg (fun z => by
    have e : C = CS := by injection (beq_iff_eq.mp z)
    rw [e, beq_self_eq_true] at n
    cases n)]
  have j : ((PySem.W.clsIn K CS).isSome && PySem.W.typeIn K (.ref CS) == some (.type "type")) = true := by
    rw [show (PySem.W.clsIn K CS).isSome = true from i, t]
    decide
  exact (if_pos j).trans s
theorem called_mk {K : PySem.W.Frag} {w : World} {mg : Str → Option Value} {p : Addr} {n : Nat} {h1 h2 : Int} {t1 u1 t2 u2 : Tok} (g : mg "CALLED" = some (.ref p))
    (l : K.lookup p = some ⟨.type "dict", none, .dict #[⟨h1, .str "caller" t1, .str "yours" u1⟩, ⟨h2, .str "keeper" t2, .str "mine" u2⟩] n, #[]⟩)
    (hh : PySem.W.KeysLit w.params [⟨h1, .str "caller" t1, .str "yours" u1⟩, ⟨h2, .str "keeper" t2, .str "mine" u2⟩]) : CalledAt K w mg p := by
  have e (z : Str) (v : Value) (h : (match List.find? (fun x => x.key.isStr z) ([⟨h1, .str "caller" t1, .str "yours" u1⟩, ⟨h2, .str "keeper" t2, .str "mine" u2⟩] : List DictEntry) with
          | some e => some (some e.val)
          | none => if (List.any ([⟨h1, .str "caller" t1, .str "yours" u1⟩, ⟨h2, .str "keeper" t2, .str "mine" u2⟩] : List DictEntry) fun x => x.refKey) = true then none else some none) = some (some v)) : PySem.W.nsIn K p z = some (some v) := by
    unfold PySem.W.nsIn
    rw [l]
    exact h
  exact ⟨g, ⟨_, n, .str "yours" u1, l, hh, e _ _ (by kernel_rfl), ⟨u1, rfl⟩⟩, ⟨_, n, .str "mine" u2, l, hh, e _ _ (by kernel_rfl), ⟨u2, rfl⟩⟩⟩
theorem all_mk {l : PySem.W.OpenLaw} {w : World} {K : PySem.W.Frag} {h : Heap} {mg : Str → Option Value} {fa : Addr} (X : K.In h) (G : h.Ns mainGlobals mg) (hfa : mg "law" = some (.ref fa))
    {t_MAX_LETTERS : Tok} (i_MAX_LETTERS : PySem.W.nsIn K mainGlobals "MAX_LETTERS" = some (some (.int 8 t_MAX_LETTERS)))
    {t_LEAST_PARTS : Tok} (i_LEAST_PARTS : PySem.W.nsIn K mainGlobals "LEAST_PARTS" = some (some (.int 2 t_LEAST_PARTS)))
    {t_MOST_PARTS : Tok} (i_MOST_PARTS : PySem.W.nsIn K mainGlobals "MOST_PARTS" = some (some (.int 4 t_MOST_PARTS)))
    {t_MAX_NODES : Tok} (i_MAX_NODES : PySem.W.nsIn K mainGlobals "MAX_NODES" = some (some (.int 40 t_MAX_NODES)))
    {t_MAX_FACTS : Tok} (i_MAX_FACTS : PySem.W.nsIn K mainGlobals "MAX_FACTS" = some (some (.int 6 t_MAX_FACTS)))
    {t_MAX_CHOICES : Tok} (i_MAX_CHOICES : PySem.W.nsIn K mainGlobals "MAX_CHOICES" = some (some (.int 10 t_MAX_CHOICES)))
    {t_MAX_DEPTH : Tok} (i_MAX_DEPTH : PySem.W.nsIn K mainGlobals "MAX_DEPTH" = some (some (.int 8 t_MAX_DEPTH)))
    {E_InvalidPromise : Addr} (x1_InvalidPromise : PySem.W.nsIn K mainGlobals "InvalidPromise" = some (some (.ref E_InvalidPromise)))
    (x2_InvalidPromise : PySem.W.excIn K E_InvalidPromise [.type "ValueError", .type "Exception", .type "BaseException", .type "object"] "ValueError.__new__" = true)
    (x3_InvalidPromise : PySem.W.keepIn K (.ref E_InvalidPromise) = true) (x4_InvalidPromise : PySem.W.subIn K (.ref E_InvalidPromise) (.type "BaseException") = some true) (x5_InvalidPromise : PySem.W.typeIn K (.ref E_InvalidPromise) = some (.type "type")) (x6_InvalidPromise : PySem.W.isClsIn K E_InvalidPromise = true) (x7_InvalidPromise : PySem.W.subIn K (.ref E_InvalidPromise) (.ref E_InvalidPromise) = some true)
    {E_InvalidPlace : Addr} (x1_InvalidPlace : PySem.W.nsIn K mainGlobals "InvalidPlace" = some (some (.ref E_InvalidPlace)))
    (x2_InvalidPlace : PySem.W.excIn K E_InvalidPlace [.type "ValueError", .type "Exception", .type "BaseException", .type "object"] "ValueError.__new__" = true)
    (x3_InvalidPlace : PySem.W.keepIn K (.ref E_InvalidPlace) = true) (x4_InvalidPlace : PySem.W.subIn K (.ref E_InvalidPlace) (.type "BaseException") = some true) (x5_InvalidPlace : PySem.W.typeIn K (.ref E_InvalidPlace) = some (.type "type")) (x6_InvalidPlace : PySem.W.isClsIn K E_InvalidPlace = true) (x7_InvalidPlace : PySem.W.subIn K (.ref E_InvalidPlace) (.ref E_InvalidPlace) = some true)
    {E_InvalidCall : Addr} (x1_InvalidCall : PySem.W.nsIn K mainGlobals "InvalidCall" = some (some (.ref E_InvalidCall)))
    (x2_InvalidCall : PySem.W.excIn K E_InvalidCall [.type "ValueError", .type "Exception", .type "BaseException", .type "object"] "ValueError.__new__" = true)
    (x3_InvalidCall : PySem.W.keepIn K (.ref E_InvalidCall) = true) (x4_InvalidCall : PySem.W.subIn K (.ref E_InvalidCall) (.type "BaseException") = some true) (x5_InvalidCall : PySem.W.typeIn K (.ref E_InvalidCall) = some (.type "type")) (x6_InvalidCall : PySem.W.isClsIn K E_InvalidCall = true) (x7_InvalidCall : PySem.W.subIn K (.ref E_InvalidCall) (.ref E_InvalidCall) = some true)
    {E_InvalidOperation : Addr} (x1_InvalidOperation : PySem.W.nsIn K mainGlobals "InvalidOperation" = some (some (.ref E_InvalidOperation)))
    (x2_InvalidOperation : PySem.W.excIn K E_InvalidOperation [.type "ValueError", .type "Exception", .type "BaseException", .type "object"] "ValueError.__new__" = true)
    (x3_InvalidOperation : PySem.W.keepIn K (.ref E_InvalidOperation) = true) (x4_InvalidOperation : PySem.W.subIn K (.ref E_InvalidOperation) (.type "BaseException") = some true) (x5_InvalidOperation : PySem.W.typeIn K (.ref E_InvalidOperation) = some (.type "type")) (x6_InvalidOperation : PySem.W.isClsIn K E_InvalidOperation = true) (x7_InvalidOperation : PySem.W.subIn K (.ref E_InvalidOperation) (.ref E_InvalidOperation) = some true)
    {C : Addr} (gC : PySem.W.nsIn K mainGlobals "Promise" = some (some (.ref C))) (pg : PySem.W.plainGet K C Str.empty = true) (hd : PySem.W.hasDictIn K C = true) (po : PySem.W.plainOver K C = true) (sa : PySem.W.findIn K (.ref C) "__setattr__" = some (some (.builtin "object.__setattr__"))) (mk : PySem.W.makesIn K C = true) (kc : PySem.W.keepIn K (.ref C) = true) (nN : PySem.W.findIn K (.ref C) "_nodes" = some none)
    {g_Promise___init__ : Addr} (a_Promise___init__ : PySem.W.findIn K (.ref C) "__init__" = some (some (.ref g_Promise___init__))) (i_Promise___init__ : PySem.W.isFn K (.ref g_Promise___init__) = true)
    {od_Promise___init__ an_Promise___init__ : Option Addr} {sl_Promise___init__ : Array (Option Value)} {oc_Promise___init__ kV_Promise___init__ dc_Promise___init__ pm_Promise___init__ ct_Promise___init__ : Value} {cd_Promise___init__ : Value} (l_Promise___init__ : K.lookup g_Promise___init__ = some ⟨oc_Promise___init__, od_Promise___init__, .func (PySem.W.fnOf "__init__" "Promise.__init__" (defArgs s_Promise___init__) (defBody s_Promise___init__) (defScope s_Promise___init__) .none kV_Promise___init__ dc_Promise___init__ pm_Promise___init__ an_Promise___init__ cd_Promise___init__ ct_Promise___init__), sl_Promise___init__⟩) (c_Promise___init__ : PySem.W.codeIn K cd_Promise___init__ "Promise.__init__" = true) (k_Promise___init__ : PySem.W.keepIn K (.ref g_Promise___init__) = true)
    {g_Promise___len__ : Addr} (a_Promise___len__ : PySem.W.findIn K (.ref C) "__len__" = some (some (.ref g_Promise___len__))) (i_Promise___len__ : PySem.W.isFn K (.ref g_Promise___len__) = true)
    {od_Promise___len__ an_Promise___len__ : Option Addr} {sl_Promise___len__ : Array (Option Value)} {oc_Promise___len__ kV_Promise___len__ dc_Promise___len__ pm_Promise___len__ ct_Promise___len__ : Value} {cd_Promise___len__ : Value} (l_Promise___len__ : K.lookup g_Promise___len__ = some ⟨oc_Promise___len__, od_Promise___len__, .func (PySem.W.fnOf "__len__" "Promise.__len__" (defArgs s_Promise___len__) (defBody s_Promise___len__) (defScope s_Promise___len__) .none kV_Promise___len__ dc_Promise___len__ pm_Promise___len__ an_Promise___len__ cd_Promise___len__ ct_Promise___len__), sl_Promise___len__⟩) (c_Promise___len__ : PySem.W.codeIn K cd_Promise___len__ "Promise.__len__" = true) (k_Promise___len__ : PySem.W.keepIn K (.ref g_Promise___len__) = true)
    (ic1 : PySem.W.findIn K (.ref C) "__class__" = some (some (.builtin "object.__class__"))) (ic2 : PySem.W.specialIn K (.builtin "object.__class__") "__get__" = some (some (.builtin "getset_descriptor.__get__"))) (ic3 : PySem.W.takesIn K (.builtin "object.__class__") = some true) (ic4 : PySem.W.mroIn K C (.type "object") = some true) (ic5 : PySem.W.typeIn K (.ref C) = some (.type "type")) (ic6 : PySem.W.isClsIn K C = true)
    (os1 : PySem.W.subIn K (.ref C) (.type "NoneType") = some false) (os2 : PySem.W.subIn K (.ref C) (.type "bool") = some false) (os3 : PySem.W.subIn K (.ref C) (.type "int") = some false) (os4 : PySem.W.subIn K (.ref C) (.type "str") = some false) (os5 : PySem.W.subIn K (.ref C) (.type "tuple") = some false) (os6 : PySem.W.subIn K (.ref C) (.type "dict") = some false)
    {pS : Addr} {nS : Nat} {Sh1 Sh2 Sh3 Sh4 : Int} {St1 Su1 St2 Su2 St3 Su3 St4 Su4 : Tok} (yS1 : PySem.W.nsIn K mainGlobals "SIGNS" = some (some (.ref pS))) (yS2 : K.lookup pS = some ⟨.type "dict", none, .dict #[⟨Sh1, .str "all" St1, .str " & " Su1⟩, ⟨Sh2, .str "mine" St2, .str " + " Su2⟩, ⟨Sh3, .str "some" St3, .str " | " Su3⟩, ⟨Sh4, .str "yours" St4, .str " * " Su4⟩] nS, #[]⟩)
    (yS3 : PySem.W.KeysLit w.params [⟨Sh1, .str "all" St1, .str " & " Su1⟩, ⟨Sh2, .str "mine" St2, .str " + " Su2⟩, ⟨Sh3, .str "some" St3, .str " | " Su3⟩, ⟨Sh4, .str "yours" St4, .str " * " Su4⟩])
    (yS4 : (pS == sysModules) = false)
    {pD : Addr} {nD : Nat} {Dh1 Dh2 Dh3 Dh4 : Int} {Dt1 Du1 Dt2 Du2 Dt3 Du3 Dt4 Du4 : Tok} (yD1 : PySem.W.nsIn K mainGlobals "SIGNED" = some (some (.ref pD))) (yD2 : K.lookup pD = some ⟨.type "dict", none, .dict #[⟨Dh1, .str "&" Dt1, .str "all" Du1⟩, ⟨Dh2, .str "+" Dt2, .str "mine" Du2⟩, ⟨Dh3, .str "|" Dt3, .str "some" Du3⟩, ⟨Dh4, .str "*" Dt4, .str "yours" Du4⟩] nD, #[]⟩)
    (yD3 : PySem.W.KeysLit w.params [⟨Dh1, .str "&" Dt1, .str "all" Du1⟩, ⟨Dh2, .str "+" Dt2, .str "mine" Du2⟩, ⟨Dh3, .str "|" Dt3, .str "some" Du3⟩, ⟨Dh4, .str "*" Dt4, .str "yours" Du4⟩])
    (yD4 : (pD == sysModules) = false)
    {pW : Addr} {oW : Option Addr} {nW : Nat} {sW : Array (Option Value)} {tW0 tW1 : Tok} (yW1 : PySem.W.nsIn K mainGlobals "OPEN" = some (some (.ref pW))) (yW2 : K.lookup pW = some ⟨.type "tuple", oW, .seq #[.str "all" tW0, .str "some" tW1] nW, sW⟩)
    {pV : Addr} {oV : Option Addr} {nV : Nat} {sV : Array (Option Value)} {tV0 tV1 : Tok} (yV1 : PySem.W.nsIn K mainGlobals "HANDS" = some (some (.ref pV))) (yV2 : K.lookup pV = some ⟨.type "tuple", oV, .seq #[.str "caller" tV0, .str "keeper" tV1] nV, sV⟩)
    {pA : Addr} {nA : Nat} {Ah1 Ah2 : Int} {At1 Au1 At2 Au2 : Tok} (yA1 : PySem.W.nsIn K mainGlobals "CALLED" = some (some (.ref pA))) (yA2 : K.lookup pA = some ⟨.type "dict", none, .dict #[⟨Ah1, .str "caller" At1, .str "yours" Au1⟩, ⟨Ah2, .str "keeper" At2, .str "mine" Au2⟩] nA, #[]⟩)
    (yA3 : PySem.W.KeysLit w.params [⟨Ah1, .str "caller" At1, .str "yours" Au1⟩, ⟨Ah2, .str "keeper" At2, .str "mine" Au2⟩])
    (hNe : PySem.W.findIn K (.ref C) "__ne__" = some (some (.builtin "object.__ne__")))
    {CS : Addr} (gS : PySem.W.nsIn K mainGlobals "Surface" = some (some (.ref CS))) (pgS : PySem.W.plainGet K CS Str.empty = true) (hdS : PySem.W.hasDictIn K CS = true) (poS : PySem.W.plainOver K CS = true) (saS : PySem.W.findIn K (.ref CS) "__setattr__" = some (some (.builtin "object.__setattr__"))) (mkS : PySem.W.makesIn K CS = true) (kcS : PySem.W.keepIn K (.ref CS) = true) (npS : PySem.W.findIn K (.ref CS) "_places" = some none) (nqS : PySem.W.findIn K (.ref CS) "_promise" = some none)
    {g_Surface___init__ : Addr} (a_Surface___init__ : PySem.W.findIn K (.ref CS) "__init__" = some (some (.ref g_Surface___init__))) (i_Surface___init__ : PySem.W.isFn K (.ref g_Surface___init__) = true)
    {od_Surface___init__ an_Surface___init__ : Option Addr} {sl_Surface___init__ : Array (Option Value)} {oc_Surface___init__ kV_Surface___init__ dc_Surface___init__ pm_Surface___init__ ct_Surface___init__ : Value} {cd_Surface___init__ : Value} (l_Surface___init__ : K.lookup g_Surface___init__ = some ⟨oc_Surface___init__, od_Surface___init__, .func (PySem.W.fnOf "__init__" "Surface.__init__" (defArgs s_Surface___init__) (defBody s_Surface___init__) (defScope s_Surface___init__) .none kV_Surface___init__ dc_Surface___init__ pm_Surface___init__ an_Surface___init__ cd_Surface___init__ ct_Surface___init__), sl_Surface___init__⟩) (c_Surface___init__ : PySem.W.codeIn K cd_Surface___init__ "Surface.__init__" = true) (k_Surface___init__ : PySem.W.keepIn K (.ref g_Surface___init__) = true)
    (jc1 : PySem.W.findIn K (.ref CS) "__class__" = some (some (.builtin "object.__class__"))) (jc4 : PySem.W.mroIn K CS (.type "object") = some true) (jc5 : PySem.W.typeIn K (.ref CS) = some (.type "type")) (jc6 : PySem.W.isClsIn K CS = true) (hNeS : PySem.W.findIn K (.ref CS) "__ne__" = some (some (.builtin "object.__ne__"))) (hsub : PySem.W.subIn K (.ref C) (.ref CS) = some false)
    (nCS : (C == CS) = false)
    {f__law_roll : Addr} (a__law_roll : PySem.W.nsIn K mainGlobals "_law_roll" = some (some (.ref f__law_roll)))
    {od__law_roll an__law_roll : Option Addr} {sl__law_roll : Array (Option Value)} {oc__law_roll kV__law_roll dc__law_roll pm__law_roll ct__law_roll : Value} {cd__law_roll : Value} (l__law_roll : K.lookup f__law_roll = some ⟨oc__law_roll, od__law_roll, .func (PySem.W.fnOf "_law_roll" "_law_roll" (defArgs s__law_roll) (defBody s__law_roll) (defScope s__law_roll) .none kV__law_roll dc__law_roll pm__law_roll an__law_roll cd__law_roll ct__law_roll), sl__law_roll⟩) (c__law_roll : PySem.W.codeIn K cd__law_roll "_law_roll" = true) (k__law_roll : PySem.W.keepIn K (.ref f__law_roll) = true)
    {f__law_pick : Addr} (a__law_pick : PySem.W.nsIn K mainGlobals "_law_pick" = some (some (.ref f__law_pick)))
    {od__law_pick an__law_pick : Option Addr} {sl__law_pick : Array (Option Value)} {oc__law_pick kV__law_pick dc__law_pick pm__law_pick ct__law_pick : Value} {cd__law_pick : Value} (l__law_pick : K.lookup f__law_pick = some ⟨oc__law_pick, od__law_pick, .func (PySem.W.fnOf "_law_pick" "_law_pick" (defArgs s__law_pick) (defBody s__law_pick) (defScope s__law_pick) .none kV__law_pick dc__law_pick pm__law_pick an__law_pick cd__law_pick ct__law_pick), sl__law_pick⟩) (c__law_pick : PySem.W.codeIn K cd__law_pick "_law_pick" = true) (k__law_pick : PySem.W.keepIn K (.ref f__law_pick) = true)
    {f__law_some : Addr} (a__law_some : PySem.W.nsIn K mainGlobals "_law_some" = some (some (.ref f__law_some)))
    {od__law_some an__law_some : Option Addr} {sl__law_some : Array (Option Value)} {oc__law_some kV__law_some dc__law_some pm__law_some ct__law_some : Value} {cd__law_some : Value} (l__law_some : K.lookup f__law_some = some ⟨oc__law_some, od__law_some, .func (PySem.W.fnOf "_law_some" "_law_some" (defArgs s__law_some) (defBody s__law_some) (defScope s__law_some) .none kV__law_some dc__law_some pm__law_some an__law_some cd__law_some ct__law_some), sl__law_some⟩) (c__law_some : PySem.W.codeIn K cd__law_some "_law_some" = true) (k__law_some : PySem.W.keepIn K (.ref f__law_some) = true)
    {f__law_dice : Addr} (a__law_dice : PySem.W.nsIn K mainGlobals "_law_dice" = some (some (.ref f__law_dice)))
    {od__law_dice an__law_dice : Option Addr} {sl__law_dice : Array (Option Value)} {oc__law_dice kV__law_dice dc__law_dice pm__law_dice ct__law_dice : Value} {cd__law_dice : Value} (l__law_dice : K.lookup f__law_dice = some ⟨oc__law_dice, od__law_dice, .func (PySem.W.fnOf "_law_dice" "_law_dice" (defArgs s__law_dice) (defBody s__law_dice) (defScope s__law_dice) .none kV__law_dice dc__law_dice pm__law_dice an__law_dice cd__law_dice ct__law_dice), sl__law_dice⟩) (c__law_dice : PySem.W.codeIn K cd__law_dice "_law_dice" = true) (k__law_dice : PySem.W.keepIn K (.ref f__law_dice) = true)
    {f_is_integer : Addr} (a_is_integer : PySem.W.nsIn K mainGlobals "is_integer" = some (some (.ref f_is_integer)))
    {od_is_integer an_is_integer : Option Addr} {sl_is_integer : Array (Option Value)} {oc_is_integer kV_is_integer dc_is_integer pm_is_integer ct_is_integer : Value} {cd_is_integer : Value} (l_is_integer : K.lookup f_is_integer = some ⟨oc_is_integer, od_is_integer, .func (PySem.W.fnOf "is_integer" "is_integer" (defArgs s_is_integer) (defBody s_is_integer) (defScope s_is_integer) .none kV_is_integer dc_is_integer pm_is_integer an_is_integer cd_is_integer ct_is_integer), sl_is_integer⟩) (c_is_integer : PySem.W.codeIn K cd_is_integer "is_integer" = true) (k_is_integer : PySem.W.keepIn K (.ref f_is_integer) = true)
    {f_is_fact : Addr} (a_is_fact : PySem.W.nsIn K mainGlobals "is_fact" = some (some (.ref f_is_fact)))
    {od_is_fact an_is_fact : Option Addr} {sl_is_fact : Array (Option Value)} {oc_is_fact kV_is_fact dc_is_fact pm_is_fact ct_is_fact : Value} {cd_is_fact : Value} (l_is_fact : K.lookup f_is_fact = some ⟨oc_is_fact, od_is_fact, .func (PySem.W.fnOf "is_fact" "is_fact" (defArgs s_is_fact) (defBody s_is_fact) (defScope s_is_fact) .none kV_is_fact dc_is_fact pm_is_fact an_is_fact cd_is_fact ct_is_fact), sl_is_fact⟩) (c_is_fact : PySem.W.codeIn K cd_is_fact "is_fact" = true) (k_is_fact : PySem.W.keepIn K (.ref f_is_fact) = true)
    {f_is_node : Addr} (a_is_node : PySem.W.nsIn K mainGlobals "is_node" = some (some (.ref f_is_node)))
    {od_is_node an_is_node : Option Addr} {sl_is_node : Array (Option Value)} {oc_is_node kV_is_node dc_is_node pm_is_node ct_is_node : Value} {cd_is_node : Value} (l_is_node : K.lookup f_is_node = some ⟨oc_is_node, od_is_node, .func (PySem.W.fnOf "is_node" "is_node" (defArgs s_is_node) (defBody s_is_node) (defScope s_is_node) .none kV_is_node dc_is_node pm_is_node an_is_node cd_is_node ct_is_node), sl_is_node⟩) (c_is_node : PySem.W.codeIn K cd_is_node "is_node" = true) (k_is_node : PySem.W.keepIn K (.ref f_is_node) = true)
    {f_depth_of : Addr} (a_depth_of : PySem.W.nsIn K mainGlobals "depth_of" = some (some (.ref f_depth_of)))
    {od_depth_of an_depth_of : Option Addr} {sl_depth_of : Array (Option Value)} {oc_depth_of kV_depth_of dc_depth_of pm_depth_of ct_depth_of : Value} {cd_depth_of : Value} (l_depth_of : K.lookup f_depth_of = some ⟨oc_depth_of, od_depth_of, .func (PySem.W.fnOf "depth_of" "depth_of" (defArgs s_depth_of) (defBody s_depth_of) (defScope s_depth_of) .none kV_depth_of dc_depth_of pm_depth_of an_depth_of cd_depth_of ct_depth_of), sl_depth_of⟩) (c_depth_of : PySem.W.codeIn K cd_depth_of "depth_of" = true) (k_depth_of : PySem.W.keepIn K (.ref f_depth_of) = true)
    {f_facts_of : Addr} (a_facts_of : PySem.W.nsIn K mainGlobals "facts_of" = some (some (.ref f_facts_of)))
    {od_facts_of an_facts_of : Option Addr} {sl_facts_of : Array (Option Value)} {oc_facts_of kV_facts_of dc_facts_of pm_facts_of ct_facts_of : Value} {cd_facts_of : Value} (l_facts_of : K.lookup f_facts_of = some ⟨oc_facts_of, od_facts_of, .func (PySem.W.fnOf "facts_of" "facts_of" (defArgs s_facts_of) (defBody s_facts_of) (defScope s_facts_of) .none kV_facts_of dc_facts_of pm_facts_of an_facts_of cd_facts_of ct_facts_of), sl_facts_of⟩) (c_facts_of : PySem.W.codeIn K cd_facts_of "facts_of" = true) (k_facts_of : PySem.W.keepIn K (.ref f_facts_of) = true)
    {f_choices_of : Addr} (a_choices_of : PySem.W.nsIn K mainGlobals "choices_of" = some (some (.ref f_choices_of)))
    {od_choices_of an_choices_of : Option Addr} {sl_choices_of : Array (Option Value)} {oc_choices_of kV_choices_of dc_choices_of pm_choices_of ct_choices_of : Value} {cd_choices_of : Value} (l_choices_of : K.lookup f_choices_of = some ⟨oc_choices_of, od_choices_of, .func (PySem.W.fnOf "choices_of" "choices_of" (defArgs s_choices_of) (defBody s_choices_of) (defScope s_choices_of) .none kV_choices_of dc_choices_of pm_choices_of an_choices_of cd_choices_of ct_choices_of), sl_choices_of⟩) (c_choices_of : PySem.W.codeIn K cd_choices_of "choices_of" = true) (k_choices_of : PySem.W.keepIn K (.ref f_choices_of) = true)
    {f__are_nodes : Addr} (a__are_nodes : PySem.W.nsIn K mainGlobals "_are_nodes" = some (some (.ref f__are_nodes)))
    {od__are_nodes an__are_nodes : Option Addr} {sl__are_nodes : Array (Option Value)} {oc__are_nodes kV__are_nodes dc__are_nodes pm__are_nodes ct__are_nodes : Value} {cd__are_nodes : Value} (l__are_nodes : K.lookup f__are_nodes = some ⟨oc__are_nodes, od__are_nodes, .func (PySem.W.fnOf "_are_nodes" "_are_nodes" (defArgs s__are_nodes) (defBody s__are_nodes) (defScope s__are_nodes) .none kV__are_nodes dc__are_nodes pm__are_nodes an__are_nodes cd__are_nodes ct__are_nodes), sl__are_nodes⟩) (c__are_nodes : PySem.W.codeIn K cd__are_nodes "_are_nodes" = true) (k__are_nodes : PySem.W.keepIn K (.ref f__are_nodes) = true)
    {f__law_is_leaf : Addr} (a__law_is_leaf : PySem.W.nsIn K mainGlobals "_law_is_leaf" = some (some (.ref f__law_is_leaf)))
    {od__law_is_leaf an__law_is_leaf : Option Addr} {sl__law_is_leaf : Array (Option Value)} {oc__law_is_leaf kV__law_is_leaf dc__law_is_leaf pm__law_is_leaf ct__law_is_leaf : Value} {cd__law_is_leaf : Value} (l__law_is_leaf : K.lookup f__law_is_leaf = some ⟨oc__law_is_leaf, od__law_is_leaf, .func (PySem.W.fnOf "_law_is_leaf" "_law_is_leaf" (defArgs s__law_is_leaf) (defBody s__law_is_leaf) (defScope s__law_is_leaf) .none kV__law_is_leaf dc__law_is_leaf pm__law_is_leaf an__law_is_leaf cd__law_is_leaf ct__law_is_leaf), sl__law_is_leaf⟩) (c__law_is_leaf : PySem.W.codeIn K cd__law_is_leaf "_law_is_leaf" = true) (k__law_is_leaf : PySem.W.keepIn K (.ref f__law_is_leaf) = true)
    {f__law_leaf : Addr} (a__law_leaf : PySem.W.nsIn K mainGlobals "_law_leaf" = some (some (.ref f__law_leaf)))
    {od__law_leaf an__law_leaf : Option Addr} {sl__law_leaf : Array (Option Value)} {oc__law_leaf kV__law_leaf dc__law_leaf pm__law_leaf ct__law_leaf : Value} {cd__law_leaf : Value} (l__law_leaf : K.lookup f__law_leaf = some ⟨oc__law_leaf, od__law_leaf, .func (PySem.W.fnOf "_law_leaf" "_law_leaf" (defArgs s__law_leaf) (defBody s__law_leaf) (defScope s__law_leaf) .none kV__law_leaf dc__law_leaf pm__law_leaf an__law_leaf cd__law_leaf ct__law_leaf), sl__law_leaf⟩) (c__law_leaf : PySem.W.codeIn K cd__law_leaf "_law_leaf" = true) (k__law_leaf : PySem.W.keepIn K (.ref f__law_leaf) = true)
    {f__law_nodes : Addr} (a__law_nodes : PySem.W.nsIn K mainGlobals "_law_nodes" = some (some (.ref f__law_nodes)))
    {od__law_nodes an__law_nodes : Option Addr} {sl__law_nodes : Array (Option Value)} {oc__law_nodes kV__law_nodes dc__law_nodes pm__law_nodes ct__law_nodes : Value} {cd__law_nodes : Value} (l__law_nodes : K.lookup f__law_nodes = some ⟨oc__law_nodes, od__law_nodes, .func (PySem.W.fnOf "_law_nodes" "_law_nodes" (defArgs s__law_nodes) (defBody s__law_nodes) (defScope s__law_nodes) .none kV__law_nodes dc__law_nodes pm__law_nodes an__law_nodes cd__law_nodes ct__law_nodes), sl__law_nodes⟩) (c__law_nodes : PySem.W.codeIn K cd__law_nodes "_law_nodes" = true) (k__law_nodes : PySem.W.keepIn K (.ref f__law_nodes) = true)
    {f__law_count : Addr} (a__law_count : PySem.W.nsIn K mainGlobals "_law_count" = some (some (.ref f__law_count)))
    {od__law_count an__law_count : Option Addr} {sl__law_count : Array (Option Value)} {oc__law_count kV__law_count dc__law_count pm__law_count ct__law_count : Value} {cd__law_count : Value} (l__law_count : K.lookup f__law_count = some ⟨oc__law_count, od__law_count, .func (PySem.W.fnOf "_law_count" "_law_count" (defArgs s__law_count) (defBody s__law_count) (defScope s__law_count) .none kV__law_count dc__law_count pm__law_count an__law_count cd__law_count ct__law_count), sl__law_count⟩) (c__law_count : PySem.W.codeIn K cd__law_count "_law_count" = true) (k__law_count : PySem.W.keepIn K (.ref f__law_count) = true)
    {f__law_drawn : Addr} (a__law_drawn : PySem.W.nsIn K mainGlobals "_law_drawn" = some (some (.ref f__law_drawn)))
    {od__law_drawn an__law_drawn : Option Addr} {sl__law_drawn : Array (Option Value)} {oc__law_drawn kV__law_drawn dc__law_drawn pm__law_drawn ct__law_drawn : Value} {cd__law_drawn : Value} (l__law_drawn : K.lookup f__law_drawn = some ⟨oc__law_drawn, od__law_drawn, .func (PySem.W.fnOf "_law_drawn" "_law_drawn" (defArgs s__law_drawn) (defBody s__law_drawn) (defScope s__law_drawn) .none kV__law_drawn dc__law_drawn pm__law_drawn an__law_drawn cd__law_drawn ct__law_drawn), sl__law_drawn⟩) (c__law_drawn : PySem.W.codeIn K cd__law_drawn "_law_drawn" = true) (k__law_drawn : PySem.W.keepIn K (.ref f__law_drawn) = true)
    {f__law_known : Addr} (a__law_known : PySem.W.nsIn K mainGlobals "_law_known" = some (some (.ref f__law_known)))
    {od__law_known an__law_known : Option Addr} {sl__law_known : Array (Option Value)} {oc__law_known kV__law_known dc__law_known pm__law_known ct__law_known : Value} {cd__law_known : Value} (l__law_known : K.lookup f__law_known = some ⟨oc__law_known, od__law_known, .func (PySem.W.fnOf "_law_known" "_law_known" (defArgs s__law_known) (defBody s__law_known) (defScope s__law_known) .none kV__law_known dc__law_known pm__law_known an__law_known cd__law_known ct__law_known), sl__law_known⟩) (c__law_known : PySem.W.codeIn K cd__law_known "_law_known" = true) (k__law_known : PySem.W.keepIn K (.ref f__law_known) = true)
    {f__law_promise : Addr} (a__law_promise : PySem.W.nsIn K mainGlobals "_law_promise" = some (some (.ref f__law_promise)))
    {od__law_promise an__law_promise : Option Addr} {sl__law_promise : Array (Option Value)} {oc__law_promise kV__law_promise dc__law_promise pm__law_promise ct__law_promise : Value} {cd__law_promise : Value} (l__law_promise : K.lookup f__law_promise = some ⟨oc__law_promise, od__law_promise, .func (PySem.W.fnOf "_law_promise" "_law_promise" (defArgs s__law_promise) (defBody s__law_promise) (defScope s__law_promise) .none kV__law_promise dc__law_promise pm__law_promise an__law_promise cd__law_promise ct__law_promise), sl__law_promise⟩) (c__law_promise : PySem.W.codeIn K cd__law_promise "_law_promise" = true) (k__law_promise : PySem.W.keepIn K (.ref f__law_promise) = true)
    {f_is_index : Addr} (a_is_index : PySem.W.nsIn K mainGlobals "is_index" = some (some (.ref f_is_index)))
    {od_is_index an_is_index : Option Addr} {sl_is_index : Array (Option Value)} {oc_is_index kV_is_index dc_is_index pm_is_index ct_is_index : Value} {cd_is_index : Value} (l_is_index : K.lookup f_is_index = some ⟨oc_is_index, od_is_index, .func (PySem.W.fnOf "is_index" "is_index" (defArgs s_is_index) (defBody s_is_index) (defScope s_is_index) .none kV_is_index dc_is_index pm_is_index an_is_index cd_is_index ct_is_index), sl_is_index⟩) (c_is_index : PySem.W.codeIn K cd_is_index "is_index" = true) (k_is_index : PySem.W.keepIn K (.ref f_is_index) = true)
    {f_plain_text : Addr} (a_plain_text : PySem.W.nsIn K mainGlobals "plain_text" = some (some (.ref f_plain_text)))
    {od_plain_text an_plain_text : Option Addr} {sl_plain_text : Array (Option Value)} {oc_plain_text kV_plain_text dc_plain_text pm_plain_text ct_plain_text : Value} {cd_plain_text : Value} (l_plain_text : K.lookup f_plain_text = some ⟨oc_plain_text, od_plain_text, .func (PySem.W.fnOf "plain_text" "plain_text" (defArgs s_plain_text) (defBody s_plain_text) (defScope s_plain_text) .none kV_plain_text dc_plain_text pm_plain_text an_plain_text cd_plain_text ct_plain_text), sl_plain_text⟩) (c_plain_text : PySem.W.codeIn K cd_plain_text "plain_text" = true) (k_plain_text : PySem.W.keepIn K (.ref f_plain_text) = true)
    {f_bracketed : Addr} (a_bracketed : PySem.W.nsIn K mainGlobals "bracketed" = some (some (.ref f_bracketed)))
    {od_bracketed an_bracketed : Option Addr} {sl_bracketed : Array (Option Value)} {oc_bracketed kV_bracketed dc_bracketed pm_bracketed ct_bracketed : Value} {cd_bracketed : Value} (l_bracketed : K.lookup f_bracketed = some ⟨oc_bracketed, od_bracketed, .func (PySem.W.fnOf "bracketed" "bracketed" (defArgs s_bracketed) (defBody s_bracketed) (defScope s_bracketed) .none kV_bracketed dc_bracketed pm_bracketed an_bracketed cd_bracketed ct_bracketed), sl_bracketed⟩) (c_bracketed : PySem.W.codeIn K cd_bracketed "bracketed" = true) (k_bracketed : PySem.W.keepIn K (.ref f_bracketed) = true)
    {f_text_of : Addr} (a_text_of : PySem.W.nsIn K mainGlobals "text_of" = some (some (.ref f_text_of)))
    {od_text_of an_text_of : Option Addr} {sl_text_of : Array (Option Value)} {oc_text_of kV_text_of dc_text_of pm_text_of ct_text_of : Value} {cd_text_of : Value} (l_text_of : K.lookup f_text_of = some ⟨oc_text_of, od_text_of, .func (PySem.W.fnOf "text_of" "text_of" (defArgs s_text_of) (defBody s_text_of) (defScope s_text_of) .none kV_text_of dc_text_of pm_text_of an_text_of cd_text_of ct_text_of), sl_text_of⟩) (c_text_of : PySem.W.codeIn K cd_text_of "text_of" = true) (k_text_of : PySem.W.keepIn K (.ref f_text_of) = true)
    {f__split : Addr} (a__split : PySem.W.nsIn K mainGlobals "_split" = some (some (.ref f__split)))
    {od__split an__split : Option Addr} {sl__split : Array (Option Value)} {oc__split kV__split dc__split pm__split ct__split : Value} {cd__split : Value} (l__split : K.lookup f__split = some ⟨oc__split, od__split, .func (PySem.W.fnOf "_split" "_split" (defArgs s__split) (defBody s__split) (defScope s__split) .none kV__split dc__split pm__split an__split cd__split ct__split), sl__split⟩) (c__split : PySem.W.codeIn K cd__split "_split" = true) (k__split : PySem.W.keepIn K (.ref f__split) = true)
    {f__plain_node : Addr} (a__plain_node : PySem.W.nsIn K mainGlobals "_plain_node" = some (some (.ref f__plain_node)))
    {od__plain_node an__plain_node : Option Addr} {sl__plain_node : Array (Option Value)} {oc__plain_node kV__plain_node dc__plain_node pm__plain_node ct__plain_node : Value} {cd__plain_node : Value} (l__plain_node : K.lookup f__plain_node = some ⟨oc__plain_node, od__plain_node, .func (PySem.W.fnOf "_plain_node" "_plain_node" (defArgs s__plain_node) (defBody s__plain_node) (defScope s__plain_node) .none kV__plain_node dc__plain_node pm__plain_node an__plain_node cd__plain_node ct__plain_node), sl__plain_node⟩) (c__plain_node : PySem.W.codeIn K cd__plain_node "_plain_node" = true) (k__plain_node : PySem.W.keepIn K (.ref f__plain_node) = true)
    {f_nodes_in : Addr} (a_nodes_in : PySem.W.nsIn K mainGlobals "nodes_in" = some (some (.ref f_nodes_in)))
    {od_nodes_in an_nodes_in : Option Addr} {sl_nodes_in : Array (Option Value)} {oc_nodes_in kV_nodes_in dc_nodes_in pm_nodes_in ct_nodes_in : Value} {cd_nodes_in : Value} (l_nodes_in : K.lookup f_nodes_in = some ⟨oc_nodes_in, od_nodes_in, .func (PySem.W.fnOf "nodes_in" "nodes_in" (defArgs s_nodes_in) (defBody s_nodes_in) (defScope s_nodes_in) .none kV_nodes_in dc_nodes_in pm_nodes_in an_nodes_in cd_nodes_in ct_nodes_in), sl_nodes_in⟩) (c_nodes_in : PySem.W.codeIn K cd_nodes_in "nodes_in" = true) (k_nodes_in : PySem.W.keepIn K (.ref f_nodes_in) = true)
    {f_end_of : Addr} (a_end_of : PySem.W.nsIn K mainGlobals "end_of" = some (some (.ref f_end_of)))
    {od_end_of an_end_of : Option Addr} {sl_end_of : Array (Option Value)} {oc_end_of kV_end_of dc_end_of pm_end_of ct_end_of : Value} {cd_end_of : Value} (l_end_of : K.lookup f_end_of = some ⟨oc_end_of, od_end_of, .func (PySem.W.fnOf "end_of" "end_of" (defArgs s_end_of) (defBody s_end_of) (defScope s_end_of) .none kV_end_of dc_end_of pm_end_of an_end_of cd_end_of ct_end_of), sl_end_of⟩) (c_end_of : PySem.W.codeIn K cd_end_of "end_of" = true) (k_end_of : PySem.W.keepIn K (.ref f_end_of) = true)
    {q_Promise_nodes g_Promise_nodes : Addr} {r_Promise_nodes : List Value} (a_Promise_nodes : PySem.W.findIn K (.ref C) "nodes" = some (some (.ref q_Promise_nodes))) (e_Promise_nodes : PySem.W.specialIn K (.ref q_Promise_nodes) "__get__" = some (some (.builtin "property.__get__"))) (t_Promise_nodes : PySem.W.takesIn K (.ref q_Promise_nodes) = some true) (w_Promise_nodes : PySem.W.recIn K q_Promise_nodes "property" = some (.ref g_Promise_nodes :: r_Promise_nodes))
    {od_Promise_nodes an_Promise_nodes : Option Addr} {sl_Promise_nodes : Array (Option Value)} {oc_Promise_nodes kV_Promise_nodes dc_Promise_nodes pm_Promise_nodes ct_Promise_nodes : Value} {cd_Promise_nodes : Value} (l_Promise_nodes : K.lookup g_Promise_nodes = some ⟨oc_Promise_nodes, od_Promise_nodes, .func (PySem.W.fnOf "nodes" "Promise.nodes" (defArgs s_Promise_nodes) (defBody s_Promise_nodes) (defScope s_Promise_nodes) .none kV_Promise_nodes dc_Promise_nodes pm_Promise_nodes an_Promise_nodes cd_Promise_nodes ct_Promise_nodes), sl_Promise_nodes⟩) (c_Promise_nodes : PySem.W.codeIn K cd_Promise_nodes "Promise.nodes" = true) (k_Promise_nodes : PySem.W.keepIn K (.ref g_Promise_nodes) = true)
    {g_Promise___eq__ : Addr} (a_Promise___eq__ : PySem.W.findIn K (.ref C) "__eq__" = some (some (.ref g_Promise___eq__))) (i_Promise___eq__ : PySem.W.isFn K (.ref g_Promise___eq__) = true)
    {od_Promise___eq__ an_Promise___eq__ : Option Addr} {sl_Promise___eq__ : Array (Option Value)} {oc_Promise___eq__ kV_Promise___eq__ dc_Promise___eq__ pm_Promise___eq__ ct_Promise___eq__ : Value} {cd_Promise___eq__ : Value} (l_Promise___eq__ : K.lookup g_Promise___eq__ = some ⟨oc_Promise___eq__, od_Promise___eq__, .func (PySem.W.fnOf "__eq__" "Promise.__eq__" (defArgs s_Promise___eq__) (defBody s_Promise___eq__) (defScope s_Promise___eq__) .none kV_Promise___eq__ dc_Promise___eq__ pm_Promise___eq__ an_Promise___eq__ cd_Promise___eq__ ct_Promise___eq__), sl_Promise___eq__⟩) (c_Promise___eq__ : PySem.W.codeIn K cd_Promise___eq__ "Promise.__eq__" = true) (k_Promise___eq__ : PySem.W.keepIn K (.ref g_Promise___eq__) = true)
    {f__start_along : Addr} (a__start_along : PySem.W.nsIn K mainGlobals "_start_along" = some (some (.ref f__start_along)))
    {od__start_along an__start_along : Option Addr} {sl__start_along : Array (Option Value)} {oc__start_along kV__start_along dc__start_along pm__start_along ct__start_along : Value} {cd__start_along : Value} (l__start_along : K.lookup f__start_along = some ⟨oc__start_along, od__start_along, .func (PySem.W.fnOf "_start_along" "_start_along" (defArgs s__start_along) (defBody s__start_along) (defScope s__start_along) .none kV__start_along dc__start_along pm__start_along an__start_along cd__start_along ct__start_along), sl__start_along⟩) (c__start_along : PySem.W.codeIn K cd__start_along "_start_along" = true) (k__start_along : PySem.W.keepIn K (.ref f__start_along) = true)
    {f_part_from : Addr} (a_part_from : PySem.W.nsIn K mainGlobals "part_from" = some (some (.ref f_part_from)))
    {od_part_from an_part_from : Option Addr} {sl_part_from : Array (Option Value)} {oc_part_from kV_part_from dc_part_from pm_part_from ct_part_from : Value} {cd_part_from : Value} (l_part_from : K.lookup f_part_from = some ⟨oc_part_from, od_part_from, .func (PySem.W.fnOf "part_from" "part_from" (defArgs s_part_from) (defBody s_part_from) (defScope s_part_from) .none kV_part_from dc_part_from pm_part_from an_part_from cd_part_from ct_part_from), sl_part_from⟩) (c_part_from : PySem.W.codeIn K cd_part_from "part_from" = true) (k_part_from : PySem.W.keepIn K (.ref f_part_from) = true)
    {f_exchanged_from : Addr} (a_exchanged_from : PySem.W.nsIn K mainGlobals "exchanged_from" = some (some (.ref f_exchanged_from)))
    {od_exchanged_from an_exchanged_from : Option Addr} {sl_exchanged_from : Array (Option Value)} {oc_exchanged_from kV_exchanged_from dc_exchanged_from pm_exchanged_from ct_exchanged_from : Value} {cd_exchanged_from : Value} (l_exchanged_from : K.lookup f_exchanged_from = some ⟨oc_exchanged_from, od_exchanged_from, .func (PySem.W.fnOf "exchanged_from" "exchanged_from" (defArgs s_exchanged_from) (defBody s_exchanged_from) (defScope s_exchanged_from) .none kV_exchanged_from dc_exchanged_from pm_exchanged_from an_exchanged_from cd_exchanged_from ct_exchanged_from), sl_exchanged_from⟩) (c_exchanged_from : PySem.W.codeIn K cd_exchanged_from "exchanged_from" = true) (k_exchanged_from : PySem.W.keepIn K (.ref f_exchanged_from) = true)
    {f__paths_along : Addr} (a__paths_along : PySem.W.nsIn K mainGlobals "_paths_along" = some (some (.ref f__paths_along)))
    {od__paths_along an__paths_along : Option Addr} {sl__paths_along : Array (Option Value)} {oc__paths_along kV__paths_along dc__paths_along pm__paths_along ct__paths_along : Value} {cd__paths_along : Value} (l__paths_along : K.lookup f__paths_along = some ⟨oc__paths_along, od__paths_along, .func (PySem.W.fnOf "_paths_along" "_paths_along" (defArgs s__paths_along) (defBody s__paths_along) (defScope s__paths_along) .none kV__paths_along dc__paths_along pm__paths_along an__paths_along cd__paths_along ct__paths_along), sl__paths_along⟩) (c__paths_along : PySem.W.codeIn K cd__paths_along "_paths_along" = true) (k__paths_along : PySem.W.keepIn K (.ref f__paths_along) = true)
    {f_parts_of : Addr} (a_parts_of : PySem.W.nsIn K mainGlobals "parts_of" = some (some (.ref f_parts_of)))
    {od_parts_of an_parts_of : Option Addr} {sl_parts_of : Array (Option Value)} {oc_parts_of kV_parts_of dc_parts_of pm_parts_of ct_parts_of : Value} {cd_parts_of : Value} (l_parts_of : K.lookup f_parts_of = some ⟨oc_parts_of, od_parts_of, .func (PySem.W.fnOf "parts_of" "parts_of" (defArgs s_parts_of) (defBody s_parts_of) (defScope s_parts_of) .none kV_parts_of dc_parts_of pm_parts_of an_parts_of cd_parts_of ct_parts_of), sl_parts_of⟩) (c_parts_of : PySem.W.codeIn K cd_parts_of "parts_of" = true) (k_parts_of : PySem.W.keepIn K (.ref f_parts_of) = true)
    {f_start_at : Addr} (a_start_at : PySem.W.nsIn K mainGlobals "start_at" = some (some (.ref f_start_at)))
    {od_start_at an_start_at : Option Addr} {sl_start_at : Array (Option Value)} {oc_start_at kV_start_at dc_start_at pm_start_at ct_start_at : Value} {cd_start_at : Value} (l_start_at : K.lookup f_start_at = some ⟨oc_start_at, od_start_at, .func (PySem.W.fnOf "start_at" "start_at" (defArgs s_start_at) (defBody s_start_at) (defScope s_start_at) .none kV_start_at dc_start_at pm_start_at an_start_at cd_start_at ct_start_at), sl_start_at⟩) (c_start_at : PySem.W.codeIn K cd_start_at "start_at" = true) (k_start_at : PySem.W.keepIn K (.ref f_start_at) = true)
    {f_surface_of : Addr} (a_surface_of : PySem.W.nsIn K mainGlobals "surface_of" = some (some (.ref f_surface_of)))
    {od_surface_of an_surface_of : Option Addr} {sl_surface_of : Array (Option Value)} {oc_surface_of kV_surface_of dc_surface_of pm_surface_of ct_surface_of : Value} {cd_surface_of : Value} (l_surface_of : K.lookup f_surface_of = some ⟨oc_surface_of, od_surface_of, .func (PySem.W.fnOf "surface_of" "surface_of" (defArgs s_surface_of) (defBody s_surface_of) (defScope s_surface_of) .none kV_surface_of dc_surface_of pm_surface_of an_surface_of cd_surface_of ct_surface_of), sl_surface_of⟩) (c_surface_of : PySem.W.codeIn K cd_surface_of "surface_of" = true) (k_surface_of : PySem.W.keepIn K (.ref f_surface_of) = true)
    {f_hand_in : Addr} (a_hand_in : PySem.W.nsIn K mainGlobals "hand_in" = some (some (.ref f_hand_in)))
    {od_hand_in an_hand_in : Option Addr} {sl_hand_in : Array (Option Value)} {oc_hand_in kV_hand_in dc_hand_in pm_hand_in ct_hand_in : Value} {cd_hand_in : Value} (l_hand_in : K.lookup f_hand_in = some ⟨oc_hand_in, od_hand_in, .func (PySem.W.fnOf "hand_in" "hand_in" (defArgs s_hand_in) (defBody s_hand_in) (defScope s_hand_in) .none kV_hand_in dc_hand_in pm_hand_in an_hand_in cd_hand_in ct_hand_in), sl_hand_in⟩) (c_hand_in : PySem.W.codeIn K cd_hand_in "hand_in" = true) (k_hand_in : PySem.W.keepIn K (.ref f_hand_in) = true)
    {f_called_in : Addr} (a_called_in : PySem.W.nsIn K mainGlobals "called_in" = some (some (.ref f_called_in)))
    {od_called_in an_called_in : Option Addr} {sl_called_in : Array (Option Value)} {oc_called_in kV_called_in dc_called_in pm_called_in ct_called_in : Value} {cd_called_in : Value} (l_called_in : K.lookup f_called_in = some ⟨oc_called_in, od_called_in, .func (PySem.W.fnOf "called_in" "called_in" (defArgs s_called_in) (defBody s_called_in) (defScope s_called_in) .none kV_called_in dc_called_in pm_called_in an_called_in cd_called_in ct_called_in), sl_called_in⟩) (c_called_in : PySem.W.codeIn K cd_called_in "called_in" = true) (k_called_in : PySem.W.keepIn K (.ref f_called_in) = true)
    {f_calls_in : Addr} (a_calls_in : PySem.W.nsIn K mainGlobals "calls_in" = some (some (.ref f_calls_in)))
    {od_calls_in an_calls_in : Option Addr} {sl_calls_in : Array (Option Value)} {oc_calls_in kV_calls_in dc_calls_in pm_calls_in ct_calls_in : Value} {cd_calls_in : Value} (l_calls_in : K.lookup f_calls_in = some ⟨oc_calls_in, od_calls_in, .func (PySem.W.fnOf "calls_in" "calls_in" (defArgs s_calls_in) (defBody s_calls_in) (defScope s_calls_in) .none kV_calls_in dc_calls_in pm_calls_in an_calls_in cd_calls_in ct_calls_in), sl_calls_in⟩) (c_calls_in : PySem.W.codeIn K cd_calls_in "calls_in" = true) (k_calls_in : PySem.W.keepIn K (.ref f_calls_in) = true)
    {f_is_hand : Addr} (a_is_hand : PySem.W.nsIn K mainGlobals "is_hand" = some (some (.ref f_is_hand)))
    {od_is_hand an_is_hand : Option Addr} {sl_is_hand : Array (Option Value)} {oc_is_hand kV_is_hand dc_is_hand pm_is_hand ct_is_hand : Value} {cd_is_hand : Value} (l_is_hand : K.lookup f_is_hand = some ⟨oc_is_hand, od_is_hand, .func (PySem.W.fnOf "is_hand" "is_hand" (defArgs s_is_hand) (defBody s_is_hand) (defScope s_is_hand) .none kV_is_hand dc_is_hand pm_is_hand an_is_hand cd_is_hand ct_is_hand), sl_is_hand⟩) (c_is_hand : PySem.W.codeIn K cd_is_hand "is_hand" = true) (k_is_hand : PySem.W.keepIn K (.ref f_is_hand) = true)
    {f_check_promise : Addr} (a_check_promise : PySem.W.nsIn K mainGlobals "check_promise" = some (some (.ref f_check_promise)))
    {od_check_promise an_check_promise : Option Addr} {sl_check_promise : Array (Option Value)} {oc_check_promise kV_check_promise dc_check_promise pm_check_promise ct_check_promise : Value} {cd_check_promise : Value} (l_check_promise : K.lookup f_check_promise = some ⟨oc_check_promise, od_check_promise, .func (PySem.W.fnOf "check_promise" "check_promise" (defArgs s_check_promise) (defBody s_check_promise) (defScope s_check_promise) .none kV_check_promise dc_check_promise pm_check_promise an_check_promise cd_check_promise ct_check_promise), sl_check_promise⟩) (c_check_promise : PySem.W.codeIn K cd_check_promise "check_promise" = true) (k_check_promise : PySem.W.keepIn K (.ref f_check_promise) = true)
    {f_check_hand : Addr} (a_check_hand : PySem.W.nsIn K mainGlobals "check_hand" = some (some (.ref f_check_hand)))
    {od_check_hand an_check_hand : Option Addr} {sl_check_hand : Array (Option Value)} {oc_check_hand kV_check_hand dc_check_hand pm_check_hand ct_check_hand : Value} {cd_check_hand : Value} (l_check_hand : K.lookup f_check_hand = some ⟨oc_check_hand, od_check_hand, .func (PySem.W.fnOf "check_hand" "check_hand" (defArgs s_check_hand) (defBody s_check_hand) (defScope s_check_hand) .none kV_check_hand dc_check_hand pm_check_hand an_check_hand cd_check_hand ct_check_hand), sl_check_hand⟩) (c_check_hand : PySem.W.codeIn K cd_check_hand "check_hand" = true) (k_check_hand : PySem.W.keepIn K (.ref f_check_hand) = true)
    {f__hand_that_can : Addr} (a__hand_that_can : PySem.W.nsIn K mainGlobals "_hand_that_can" = some (some (.ref f__hand_that_can)))
    {od__hand_that_can an__hand_that_can : Option Addr} {sl__hand_that_can : Array (Option Value)} {oc__hand_that_can kV__hand_that_can dc__hand_that_can pm__hand_that_can ct__hand_that_can : Value} {cd__hand_that_can : Value} (l__hand_that_can : K.lookup f__hand_that_can = some ⟨oc__hand_that_can, od__hand_that_can, .func (PySem.W.fnOf "_hand_that_can" "_hand_that_can" (defArgs s__hand_that_can) (defBody s__hand_that_can) (defScope s__hand_that_can) .none kV__hand_that_can dc__hand_that_can pm__hand_that_can an__hand_that_can cd__hand_that_can ct__hand_that_can), sl__hand_that_can⟩) (c__hand_that_can : PySem.W.codeIn K cd__hand_that_can "_hand_that_can" = true) (k__hand_that_can : PySem.W.keepIn K (.ref f__hand_that_can) = true)
    {f_calls : Addr} (a_calls : PySem.W.nsIn K mainGlobals "calls" = some (some (.ref f_calls)))
    {od_calls an_calls : Option Addr} {sl_calls : Array (Option Value)} {oc_calls kV_calls dc_calls pm_calls ct_calls : Value} {cd_calls : Value} (l_calls : K.lookup f_calls = some ⟨oc_calls, od_calls, .func (PySem.W.fnOf "calls" "calls" (defArgs s_calls) (defBody s_calls) (defScope s_calls) .none kV_calls dc_calls pm_calls an_calls cd_calls ct_calls), sl_calls⟩) (c_calls : PySem.W.codeIn K cd_calls "calls" = true) (k_calls : PySem.W.keepIn K (.ref f_calls) = true)
    {f_is_call : Addr} (a_is_call : PySem.W.nsIn K mainGlobals "is_call" = some (some (.ref f_is_call)))
    {od_is_call an_is_call : Option Addr} {sl_is_call : Array (Option Value)} {oc_is_call kV_is_call dc_is_call pm_is_call ct_is_call : Value} {cd_is_call : Value} (l_is_call : K.lookup f_is_call = some ⟨oc_is_call, od_is_call, .func (PySem.W.fnOf "is_call" "is_call" (defArgs s_is_call) (defBody s_is_call) (defScope s_is_call) .none kV_is_call dc_is_call pm_is_call an_is_call cd_is_call ct_is_call), sl_is_call⟩) (c_is_call : PySem.W.codeIn K cd_is_call "is_call" = true) (k_is_call : PySem.W.keepIn K (.ref f_is_call) = true)
    {f_hand_of : Addr} (a_hand_of : PySem.W.nsIn K mainGlobals "hand_of" = some (some (.ref f_hand_of)))
    {od_hand_of an_hand_of : Option Addr} {sl_hand_of : Array (Option Value)} {oc_hand_of kV_hand_of dc_hand_of pm_hand_of ct_hand_of : Value} {cd_hand_of : Value} (l_hand_of : K.lookup f_hand_of = some ⟨oc_hand_of, od_hand_of, .func (PySem.W.fnOf "hand_of" "hand_of" (defArgs s_hand_of) (defBody s_hand_of) (defScope s_hand_of) .none kV_hand_of dc_hand_of pm_hand_of an_hand_of cd_hand_of ct_hand_of), sl_hand_of⟩) (c_hand_of : PySem.W.codeIn K cd_hand_of "hand_of" = true) (k_hand_of : PySem.W.keepIn K (.ref f_hand_of) = true)
    {f_called : Addr} (a_called : PySem.W.nsIn K mainGlobals "called" = some (some (.ref f_called)))
    {od_called an_called : Option Addr} {sl_called : Array (Option Value)} {oc_called kV_called dc_called pm_called ct_called : Value} {cd_called : Value} (l_called : K.lookup f_called = some ⟨oc_called, od_called, .func (PySem.W.fnOf "called" "called" (defArgs s_called) (defBody s_called) (defScope s_called) .none kV_called dc_called pm_called an_called cd_called ct_called), sl_called⟩) (c_called : PySem.W.codeIn K cd_called "called" = true) (k_called : PySem.W.keepIn K (.ref f_called) = true)
    {f_places_in : Addr} (a_places_in : PySem.W.nsIn K mainGlobals "places_in" = some (some (.ref f_places_in)))
    {od_places_in an_places_in : Option Addr} {sl_places_in : Array (Option Value)} {oc_places_in kV_places_in dc_places_in pm_places_in ct_places_in : Value} {cd_places_in : Value} (l_places_in : K.lookup f_places_in = some ⟨oc_places_in, od_places_in, .func (PySem.W.fnOf "places_in" "places_in" (defArgs s_places_in) (defBody s_places_in) (defScope s_places_in) .none kV_places_in dc_places_in pm_places_in an_places_in cd_places_in ct_places_in), sl_places_in⟩) (c_places_in : PySem.W.codeIn K cd_places_in "places_in" = true) (k_places_in : PySem.W.keepIn K (.ref f_places_in) = true)
    {f_surface : Addr} (a_surface : PySem.W.nsIn K mainGlobals "surface" = some (some (.ref f_surface)))
    {od_surface an_surface : Option Addr} {sl_surface : Array (Option Value)} {oc_surface kV_surface dc_surface pm_surface ct_surface : Value} {cd_surface : Value} (l_surface : K.lookup f_surface = some ⟨oc_surface, od_surface, .func (PySem.W.fnOf "surface" "surface" (defArgs s_surface) (defBody s_surface) (defScope s_surface) .none kV_surface dc_surface pm_surface an_surface cd_surface ct_surface), sl_surface⟩) (c_surface : PySem.W.codeIn K cd_surface "surface" = true) (k_surface : PySem.W.keepIn K (.ref f_surface) = true)
    {f__start_of : Addr} (a__start_of : PySem.W.nsIn K mainGlobals "_start_of" = some (some (.ref f__start_of)))
    {od__start_of an__start_of : Option Addr} {sl__start_of : Array (Option Value)} {oc__start_of kV__start_of dc__start_of pm__start_of ct__start_of : Value} {cd__start_of : Value} (l__start_of : K.lookup f__start_of = some ⟨oc__start_of, od__start_of, .func (PySem.W.fnOf "_start_of" "_start_of" (defArgs s__start_of) (defBody s__start_of) (defScope s__start_of) .none kV__start_of dc__start_of pm__start_of an__start_of cd__start_of ct__start_of), sl__start_of⟩) (c__start_of : PySem.W.codeIn K cd__start_of "_start_of" = true) (k__start_of : PySem.W.keepIn K (.ref f__start_of) = true)
    {f_part_at : Addr} (a_part_at : PySem.W.nsIn K mainGlobals "part_at" = some (some (.ref f_part_at)))
    {od_part_at an_part_at : Option Addr} {sl_part_at : Array (Option Value)} {oc_part_at kV_part_at dc_part_at pm_part_at ct_part_at : Value} {cd_part_at : Value} (l_part_at : K.lookup f_part_at = some ⟨oc_part_at, od_part_at, .func (PySem.W.fnOf "part_at" "part_at" (defArgs s_part_at) (defBody s_part_at) (defScope s_part_at) .none kV_part_at dc_part_at pm_part_at an_part_at cd_part_at ct_part_at), sl_part_at⟩) (c_part_at : PySem.W.codeIn K cd_part_at "part_at" = true) (k_part_at : PySem.W.keepIn K (.ref f_part_at) = true)
    {f_replaced : Addr} (a_replaced : PySem.W.nsIn K mainGlobals "replaced" = some (some (.ref f_replaced)))
    {od_replaced an_replaced : Option Addr} {sl_replaced : Array (Option Value)} {oc_replaced kV_replaced dc_replaced pm_replaced ct_replaced : Value} {cd_replaced : Value} (l_replaced : K.lookup f_replaced = some ⟨oc_replaced, od_replaced, .func (PySem.W.fnOf "replaced" "replaced" (defArgs s_replaced) (defBody s_replaced) (defScope s_replaced) .none kV_replaced dc_replaced pm_replaced an_replaced cd_replaced ct_replaced), sl_replaced⟩) (c_replaced : PySem.W.codeIn K cd_replaced "replaced" = true) (k_replaced : PySem.W.keepIn K (.ref f_replaced) = true)
    {g_Surface_is_over : Addr} (a_Surface_is_over : PySem.W.findIn K (.ref CS) "is_over" = some (some (.ref g_Surface_is_over))) (i_Surface_is_over : PySem.W.isFn K (.ref g_Surface_is_over) = true)
    {od_Surface_is_over an_Surface_is_over : Option Addr} {sl_Surface_is_over : Array (Option Value)} {oc_Surface_is_over kV_Surface_is_over dc_Surface_is_over pm_Surface_is_over ct_Surface_is_over : Value} {cd_Surface_is_over : Value} (l_Surface_is_over : K.lookup g_Surface_is_over = some ⟨oc_Surface_is_over, od_Surface_is_over, .func (PySem.W.fnOf "is_over" "Surface.is_over" (defArgs s_Surface_is_over) (defBody s_Surface_is_over) (defScope s_Surface_is_over) .none kV_Surface_is_over dc_Surface_is_over pm_Surface_is_over an_Surface_is_over cd_Surface_is_over ct_Surface_is_over), sl_Surface_is_over⟩) (c_Surface_is_over : PySem.W.codeIn K cd_Surface_is_over "Surface.is_over" = true) (k_Surface_is_over : PySem.W.keepIn K (.ref g_Surface_is_over) = true)
    {q_Promise_parts g_Promise_parts : Addr} {r_Promise_parts : List Value} (a_Promise_parts : PySem.W.findIn K (.ref C) "parts" = some (some (.ref q_Promise_parts))) (e_Promise_parts : PySem.W.specialIn K (.ref q_Promise_parts) "__get__" = some (some (.builtin "property.__get__"))) (t_Promise_parts : PySem.W.takesIn K (.ref q_Promise_parts) = some true) (w_Promise_parts : PySem.W.recIn K q_Promise_parts "property" = some (.ref g_Promise_parts :: r_Promise_parts))
    {od_Promise_parts an_Promise_parts : Option Addr} {sl_Promise_parts : Array (Option Value)} {oc_Promise_parts kV_Promise_parts dc_Promise_parts pm_Promise_parts ct_Promise_parts : Value} {cd_Promise_parts : Value} (l_Promise_parts : K.lookup g_Promise_parts = some ⟨oc_Promise_parts, od_Promise_parts, .func (PySem.W.fnOf "parts" "Promise.parts" (defArgs s_Promise_parts) (defBody s_Promise_parts) (defScope s_Promise_parts) .none kV_Promise_parts dc_Promise_parts pm_Promise_parts an_Promise_parts cd_Promise_parts ct_Promise_parts), sl_Promise_parts⟩) (c_Promise_parts : PySem.W.codeIn K cd_Promise_parts "Promise.parts" = true) (k_Promise_parts : PySem.W.keepIn K (.ref g_Promise_parts) = true)
    {q_Promise_choices g_Promise_choices : Addr} {r_Promise_choices : List Value} (a_Promise_choices : PySem.W.findIn K (.ref C) "choices" = some (some (.ref q_Promise_choices))) (e_Promise_choices : PySem.W.specialIn K (.ref q_Promise_choices) "__get__" = some (some (.builtin "property.__get__"))) (t_Promise_choices : PySem.W.takesIn K (.ref q_Promise_choices) = some true) (w_Promise_choices : PySem.W.recIn K q_Promise_choices "property" = some (.ref g_Promise_choices :: r_Promise_choices))
    {od_Promise_choices an_Promise_choices : Option Addr} {sl_Promise_choices : Array (Option Value)} {oc_Promise_choices kV_Promise_choices dc_Promise_choices pm_Promise_choices ct_Promise_choices : Value} {cd_Promise_choices : Value} (l_Promise_choices : K.lookup g_Promise_choices = some ⟨oc_Promise_choices, od_Promise_choices, .func (PySem.W.fnOf "choices" "Promise.choices" (defArgs s_Promise_choices) (defBody s_Promise_choices) (defScope s_Promise_choices) .none kV_Promise_choices dc_Promise_choices pm_Promise_choices an_Promise_choices cd_Promise_choices ct_Promise_choices), sl_Promise_choices⟩) (c_Promise_choices : PySem.W.codeIn K cd_Promise_choices "Promise.choices" = true) (k_Promise_choices : PySem.W.keepIn K (.ref g_Promise_choices) = true)
    {q_Promise_text g_Promise_text : Addr} {r_Promise_text : List Value} (a_Promise_text : PySem.W.findIn K (.ref C) "text" = some (some (.ref q_Promise_text))) (e_Promise_text : PySem.W.specialIn K (.ref q_Promise_text) "__get__" = some (some (.builtin "property.__get__"))) (t_Promise_text : PySem.W.takesIn K (.ref q_Promise_text) = some true) (w_Promise_text : PySem.W.recIn K q_Promise_text "property" = some (.ref g_Promise_text :: r_Promise_text))
    {od_Promise_text an_Promise_text : Option Addr} {sl_Promise_text : Array (Option Value)} {oc_Promise_text kV_Promise_text dc_Promise_text pm_Promise_text ct_Promise_text : Value} {cd_Promise_text : Value} (l_Promise_text : K.lookup g_Promise_text = some ⟨oc_Promise_text, od_Promise_text, .func (PySem.W.fnOf "text" "Promise.text" (defArgs s_Promise_text) (defBody s_Promise_text) (defScope s_Promise_text) .none kV_Promise_text dc_Promise_text pm_Promise_text an_Promise_text cd_Promise_text ct_Promise_text), sl_Promise_text⟩) (c_Promise_text : PySem.W.codeIn K cd_Promise_text "Promise.text" = true) (k_Promise_text : PySem.W.keepIn K (.ref g_Promise_text) = true)
    {f__law_made : Addr} (a__law_made : PySem.W.nsIn K mainGlobals "_law_made" = some (some (.ref f__law_made)))
    {od__law_made an__law_made : Option Addr} {sl__law_made : Array (Option Value)} {oc__law_made kV__law_made dc__law_made pm__law_made ct__law_made : Value} {cd__law_made : Value} (l__law_made : K.lookup f__law_made = some ⟨oc__law_made, od__law_made, .func (PySem.W.fnOf "_law_made" "_law_made" (defArgs s__law_made) (defBody s__law_made) (defScope s__law_made) .none kV__law_made dc__law_made pm__law_made an__law_made cd__law_made ct__law_made), sl__law_made⟩) (c__law_made : PySem.W.codeIn K cd__law_made "_law_made" = true) (k__law_made : PySem.W.keepIn K (.ref f__law_made) = true)
    {f__law_all_calls : Addr} (a__law_all_calls : PySem.W.nsIn K mainGlobals "_law_all_calls" = some (some (.ref f__law_all_calls)))
    {od__law_all_calls an__law_all_calls : Option Addr} {sl__law_all_calls : Array (Option Value)} {oc__law_all_calls kV__law_all_calls dc__law_all_calls pm__law_all_calls ct__law_all_calls : Value} {cd__law_all_calls : Value} (l__law_all_calls : K.lookup f__law_all_calls = some ⟨oc__law_all_calls, od__law_all_calls, .func (PySem.W.fnOf "_law_all_calls" "_law_all_calls" (defArgs s__law_all_calls) (defBody s__law_all_calls) (defScope s__law_all_calls) .none kV__law_all_calls dc__law_all_calls pm__law_all_calls an__law_all_calls cd__law_all_calls ct__law_all_calls), sl__law_all_calls⟩) (c__law_all_calls : PySem.W.codeIn K cd__law_all_calls "_law_all_calls" = true) (k__law_all_calls : PySem.W.keepIn K (.ref f__law_all_calls) = true)
    {f__law_pair_right : Addr} (a__law_pair_right : PySem.W.nsIn K mainGlobals "_law_pair_right" = some (some (.ref f__law_pair_right)))
    {od__law_pair_right an__law_pair_right : Option Addr} {sl__law_pair_right : Array (Option Value)} {oc__law_pair_right kV__law_pair_right dc__law_pair_right pm__law_pair_right ct__law_pair_right : Value} {cd__law_pair_right : Value} (l__law_pair_right : K.lookup f__law_pair_right = some ⟨oc__law_pair_right, od__law_pair_right, .func (PySem.W.fnOf "_law_pair_right" "_law_pair_right" (defArgs s__law_pair_right) (defBody s__law_pair_right) (defScope s__law_pair_right) .none kV__law_pair_right dc__law_pair_right pm__law_pair_right an__law_pair_right cd__law_pair_right ct__law_pair_right), sl__law_pair_right⟩) (c__law_pair_right : PySem.W.codeIn K cd__law_pair_right "_law_pair_right" = true) (k__law_pair_right : PySem.W.keepIn K (.ref f__law_pair_right) = true)
    {f__law_row_right : Addr} (a__law_row_right : PySem.W.nsIn K mainGlobals "_law_row_right" = some (some (.ref f__law_row_right)))
    {od__law_row_right an__law_row_right : Option Addr} {sl__law_row_right : Array (Option Value)} {oc__law_row_right kV__law_row_right dc__law_row_right pm__law_row_right ct__law_row_right : Value} {cd__law_row_right : Value} (l__law_row_right : K.lookup f__law_row_right = some ⟨oc__law_row_right, od__law_row_right, .func (PySem.W.fnOf "_law_row_right" "_law_row_right" (defArgs s__law_row_right) (defBody s__law_row_right) (defScope s__law_row_right) .none kV__law_row_right dc__law_row_right pm__law_row_right an__law_row_right cd__law_row_right ct__law_row_right), sl__law_row_right⟩) (c__law_row_right : PySem.W.codeIn K cd__law_row_right "_law_row_right" = true) (k__law_row_right : PySem.W.keepIn K (.ref f__law_row_right) = true)
    {f__law_right : Addr} (a__law_right : PySem.W.nsIn K mainGlobals "_law_right" = some (some (.ref f__law_right)))
    {od__law_right an__law_right : Option Addr} {sl__law_right : Array (Option Value)} {oc__law_right kV__law_right dc__law_right pm__law_right ct__law_right : Value} {cd__law_right : Value} (l__law_right : K.lookup f__law_right = some ⟨oc__law_right, od__law_right, .func (PySem.W.fnOf "_law_right" "_law_right" (defArgs s__law_right) (defBody s__law_right) (defScope s__law_right) .none kV__law_right dc__law_right pm__law_right an__law_right cd__law_right ct__law_right), sl__law_right⟩) (c__law_right : PySem.W.codeIn K cd__law_right "_law_right" = true) (k__law_right : PySem.W.keepIn K (.ref f__law_right) = true)
    (rd : PySem.W.readsIn K C (.type "type") = true) (ga : PySem.W.specialIn K (.ref C) "__getattribute__" = some (some (.builtin "type.__getattribute__")))
    {q_Promise_read g_Promise_read : Addr} {r_Promise_read : List Value} (a_Promise_read : PySem.W.findCls K (.ref C) (.type "type") "read" = some (.get (.builtin "classmethod.__get__") (.ref q_Promise_read) .none (.ref C))) (w_Promise_read : PySem.W.recIn K q_Promise_read "classmethod" = some (.ref g_Promise_read :: r_Promise_read)) (n_Promise_read : PySem.W.fnIn K g_Promise_read = true)
    {od_Promise_read an_Promise_read : Option Addr} {sl_Promise_read : Array (Option Value)} {oc_Promise_read kV_Promise_read dc_Promise_read pm_Promise_read ct_Promise_read : Value} {cd_Promise_read : Value} (l_Promise_read : K.lookup g_Promise_read = some ⟨oc_Promise_read, od_Promise_read, .func (PySem.W.fnOf "read" "Promise.read" (defArgs s_Promise_read) (defBody s_Promise_read) (defScope s_Promise_read) .none kV_Promise_read dc_Promise_read pm_Promise_read an_Promise_read cd_Promise_read ct_Promise_read), sl_Promise_read⟩) (c_Promise_read : PySem.W.codeIn K cd_Promise_read "Promise.read" = true) (k_Promise_read : PySem.W.keepIn K (.ref g_Promise_read) = true)
    {f_law : Addr} (a_law : PySem.W.nsIn K mainGlobals "law" = some (some (.ref f_law)))
    {od_law an_law : Option Addr} {sl_law : Array (Option Value)} {oc_law kV_law dc_law pm_law ct_law : Value} {cd_law : Value} (l_law : K.lookup f_law = some ⟨oc_law, od_law, .func (PySem.W.fnOf "law" "law" (defArgs s_law) (defBody s_law) (defScope s_law) .none kV_law dc_law pm_law an_law cd_law ct_law), sl_law⟩) (c_law : PySem.W.codeIn K cd_law "law" = true) (k_law : PySem.W.keepIn K (.ref f_law) = true)
    (z_classmethod : PySem.W.nsIn K mainGlobals "classmethod" = some none)
    (z_property : PySem.W.nsIn K mainGlobals "property" = some none)
    (z_isinstance : PySem.W.nsIn K mainGlobals "isinstance" = some none)
    (z_list : PySem.W.nsIn K mainGlobals "list" = some none)
    (z_tuple : PySem.W.nsIn K mainGlobals "tuple" = some none)
    (z_dict : PySem.W.nsIn K mainGlobals "dict" = some none)
    (z_len : PySem.W.nsIn K mainGlobals "len" = some none)
    (z_reversed : PySem.W.nsIn K mainGlobals "reversed" = some none)
    (z_any : PySem.W.nsIn K mainGlobals "any" = some none)
    (z_all : PySem.W.nsIn K mainGlobals "all" = some none)
    (z_range : PySem.W.nsIn K mainGlobals "range" = some none)
    (z_bool : PySem.W.nsIn K mainGlobals "bool" = some none)
    (z_abs : PySem.W.nsIn K mainGlobals "abs" = some none)
    (z_str : PySem.W.nsIn K mainGlobals "str" = some none)
    (z_max : PySem.W.nsIn K mainGlobals "max" = some none)
    (z_sorted : PySem.W.nsIn K mainGlobals "sorted" = some none)
    (z_iter : PySem.W.nsIn K mainGlobals "iter" = some none)
    (z_int : PySem.W.nsIn K mainGlobals "int" = some none)
    (z_sum : PySem.W.nsIn K mainGlobals "sum" = some none)
    (z_min : PySem.W.nsIn K mainGlobals "min" = some none)
    (z_super : PySem.W.nsIn K mainGlobals "super" = some none)
    (z_set : PySem.W.nsIn K mainGlobals "set" = some none)
    : ∃ fd : FuncData, (∀ (s : Shared) (v : Value), BindsTo s fd ⟨[v], []⟩ [("script", v)]) ∧ ∀ base : Heap, K.In base → base.Ns mainGlobals mg → FnOk l.prog w K mg base CX0 28 fa fd ["script"] (spLaw13 K) := by
  have e := hfa.symm.trans (PySem.W.mg_of X G a_law)
  obtain rfl : f_law = fa := (Value.ref.inj (Option.some.inj e)).symm
  have T : Txt mg := ⟨PySem.W.mg_none_of X G z_classmethod, PySem.W.mg_none_of X G z_property, PySem.W.mg_none_of X G z_isinstance, PySem.W.mg_none_of X G z_list, PySem.W.mg_none_of X G z_tuple, PySem.W.mg_none_of X G z_dict, PySem.W.mg_none_of X G z_len, PySem.W.mg_none_of X G z_reversed, PySem.W.mg_none_of X G z_any, PySem.W.mg_none_of X G z_all, PySem.W.mg_none_of X G z_range, PySem.W.mg_none_of X G z_bool, PySem.W.mg_none_of X G z_abs, PySem.W.mg_none_of X G z_str, PySem.W.mg_none_of X G z_max, PySem.W.mg_none_of X G z_sorted, PySem.W.mg_none_of X G z_iter, PySem.W.mg_none_of X G z_int, PySem.W.mg_none_of X G z_sum, PySem.W.mg_none_of X G z_min, PySem.W.mg_none_of X G z_super, PySem.W.mg_none_of X G z_set⟩
  refine ⟨PySem.W.fnOf "law" "law" (defArgs s_law) (defBody s_law) (defScope s_law) .none kV_law dc_law pm_law an_law cd_law ct_law, fun s v => .of_eq rfl, fun base _ _ => ?_⟩
  have n_MAX_LETTERS := PySem.W.mg_of X G i_MAX_LETTERS
  have n_LEAST_PARTS := PySem.W.mg_of X G i_LEAST_PARTS
  have n_MOST_PARTS := PySem.W.mg_of X G i_MOST_PARTS
  have n_MAX_NODES := PySem.W.mg_of X G i_MAX_NODES
  have n_MAX_FACTS := PySem.W.mg_of X G i_MAX_FACTS
  have n_MAX_CHOICES := PySem.W.mg_of X G i_MAX_CHOICES
  have n_MAX_DEPTH := PySem.W.mg_of X G i_MAX_DEPTH
  have R_InvalidPromise : ErrC K mg "InvalidPromise" E_InvalidPromise := ⟨PySem.W.mg_of X G x1_InvalidPromise, x2_InvalidPromise, x3_InvalidPromise, x4_InvalidPromise, x5_InvalidPromise, exmSelf x4_InvalidPromise x6_InvalidPromise x5_InvalidPromise x7_InvalidPromise⟩
  have R_InvalidPlace : ErrC K mg "InvalidPlace" E_InvalidPlace := ⟨PySem.W.mg_of X G x1_InvalidPlace, x2_InvalidPlace, x3_InvalidPlace, x4_InvalidPlace, x5_InvalidPlace, exmSelf x4_InvalidPlace x6_InvalidPlace x5_InvalidPlace x7_InvalidPlace⟩
  have R_InvalidCall : ErrC K mg "InvalidCall" E_InvalidCall := ⟨PySem.W.mg_of X G x1_InvalidCall, x2_InvalidCall, x3_InvalidCall, x4_InvalidCall, x5_InvalidCall, exmSelf x4_InvalidCall x6_InvalidCall x5_InvalidCall x7_InvalidCall⟩
  have R_InvalidOperation : ErrC K mg "InvalidOperation" E_InvalidOperation := ⟨PySem.W.mg_of X G x1_InvalidOperation, x2_InvalidOperation, x3_InvalidOperation, x4_InvalidOperation, x5_InvalidOperation, exmSelf x4_InvalidOperation x6_InvalidOperation x5_InvalidOperation x7_InvalidOperation⟩
  have F_Promise___init__ := fun_mk (st := s_Promise___init__) l_Promise___init__ c_Promise___init__ k_Promise___init__
  have b_Promise___init__ := F_Promise___init__.binds (ps := ["self", "nodes"]) fun _ _ _ _ _ _ us hl => match us, hl with | [_, _], _ => rfl
  have F_Promise___len__ := fun_mk (st := s_Promise___len__) l_Promise___len__ c_Promise___len__ k_Promise___len__
  have b_Promise___len__ := F_Promise___len__.binds (ps := ["self"]) fun _ _ _ _ _ _ us hl => match us, hl with | [_], _ => rfl
  have PC : PromC K mg C g_Promise___init__ g_Promise___len__ := ⟨PySem.W.mg_of X G gC, ⟨mk, a_Promise___init__, i_Promise___init__, kc⟩, ⟨pg, hd, po, sa⟩, nN, a_Promise___len__, i_Promise___len__⟩
  have IC : IsC K C := ⟨ic1, ic2, ic3, ic4, kit_self⟩
  have OF : OffC K C := ⟨os1, os2, os3, os4, os5, os6, kit_off ic6 ic5 (by kernel_rfl), kit_off ic6 ic5 (by kernel_rfl), kit_off ic6 ic5 (by kernel_rfl), kit_off ic6 ic5 (by kernel_rfl), kit_off ic6 ic5 (by kernel_rfl), kit_off ic6 ic5 (by kernel_rfl)⟩
  have WA : TupAt K mg "OPEN" pW open2 := ⟨PySem.W.mg_of X G yW1, fun H => .inr ⟨_, _, _, yW2, rfl, rfl, (by show 2 ≤ sizeLine; decide), .cons ⟨_, rfl⟩ (.cons ⟨_, rfl⟩ .nil)⟩⟩
  have WH : TupAt K mg "HANDS" pV hands2 := ⟨PySem.W.mg_of X G yV1, fun H => .inr ⟨_, _, _, yV2, rfl, rfl, (by show 2 ≤ sizeLine; decide), .cons ⟨_, rfl⟩ (.cons ⟨_, rfl⟩ .nil)⟩⟩
  have CA : CalledAt K w mg pA := called_mk (PySem.W.mg_of X G yA1) yA2 yA3
  have S : SignsAt K w mg pS := signs_mk (PySem.W.mg_of X G yS1) yS2 yS3 yS4
  have SV : SgnV K w mg pS := sgn_mk (PySem.W.mg_of X G yS1) yS2 yS3
  have SD : SignedAt K w mg pD := signed_mk (PySem.W.mg_of X G yD1) yD2 yD3 yD4
  have F_Surface___init__ := fun_mk (st := s_Surface___init__) l_Surface___init__ c_Surface___init__ k_Surface___init__
  have b_Surface___init__ := F_Surface___init__.binds (ps := ["self", "promise"]) fun _ _ _ _ _ _ us hl => match us, hl with | [_, _], _ => rfl
  have SC : SurC K mg CS g_Surface___init__ := ⟨PySem.W.mg_of X G gS, ⟨mkS, a_Surface___init__, i_Surface___init__, kcS⟩, ⟨pgS, hdS, poS, saS⟩, npS, nqS⟩
  have ICS : IsC K CS := ⟨jc1, ic2, ic3, jc4, kit_self⟩
  have no : PySem.W.kitOne K (.ref C) (.ref CS) = some false := kit_no jc6 jc5 hsub nCS
  have F__law_roll := fun_mk (st := s__law_roll) l__law_roll c__law_roll k__law_roll
  have b__law_roll := F__law_roll.binds (ps := ["dice", "many"]) fun _ _ _ _ _ _ us hl => match us, hl with | [_, _], _ => rfl
  have m__law_roll := PySem.W.mg_of X G a__law_roll
  have G__law_roll : Cal l.prog w K mg base 1 "_law_roll" f__law_roll _ ["dice", "many"] spRoll := ⟨ok_roll F__law_roll T, m__law_roll, k__law_roll, b__law_roll⟩
  have F__law_pick := fun_mk (st := s__law_pick) l__law_pick c__law_pick k__law_pick
  have b__law_pick := F__law_pick.binds (ps := ["dice", "items"]) fun _ _ _ _ _ _ us hl => match us, hl with | [_, _], _ => rfl
  have m__law_pick := PySem.W.mg_of X G a__law_pick
  have G__law_pick : Cal l.prog w K mg base 2 "_law_pick" f__law_pick _ ["dice", "items"] (spPick K) := ⟨ok_pick F__law_pick T G__law_roll, m__law_pick, k__law_pick, b__law_pick⟩
  have F__law_some := fun_mk (st := s__law_some) l__law_some c__law_some k__law_some
  have b__law_some := F__law_some.binds (ps := ["dice", "items", "size"]) fun _ _ _ _ _ _ us hl => match us, hl with | [_, _, _], _ => rfl
  have m__law_some := PySem.W.mg_of X G a__law_some
  have G__law_some : Cal l.prog w K mg base 2 "_law_some" f__law_some _ ["dice", "items", "size"] (spSome K) := ⟨ok_some F__law_some T G__law_roll, m__law_some, k__law_some, b__law_some⟩
  have F__law_dice := fun_mk (st := s__law_dice) l__law_dice c__law_dice k__law_dice
  have b__law_dice := F__law_dice.binds (ps := ["script", "spot"]) fun _ _ _ _ _ _ us hl => match us, hl with | [_, _], _ => rfl
  have m__law_dice := PySem.W.mg_of X G a__law_dice
  have G__law_dice : Cal l.prog w K mg base 1 "_law_dice" f__law_dice _ ["script", "spot"] (spDice K) := ⟨ok_dice F__law_dice T, m__law_dice, k__law_dice, b__law_dice⟩
  have F_is_integer := fun_mk (st := s_is_integer) l_is_integer c_is_integer k_is_integer
  have b_is_integer := F_is_integer.binds (ps := ["value"]) fun _ _ _ _ _ _ us hl => match us, hl with | [_], _ => rfl
  have m_is_integer := PySem.W.mg_of X G a_is_integer
  have G_is_integer : Cal l.prog w K mg base 1 "is_integer" f_is_integer _ ["value"] (spInteger K) := ⟨ok_is_integer F_is_integer T, m_is_integer, k_is_integer, b_is_integer⟩
  have F_is_fact := fun_mk (st := s_is_fact) l_is_fact c_is_fact k_is_fact
  have b_is_fact := F_is_fact.binds (ps := ["value"]) fun _ _ _ _ _ _ us hl => match us, hl with | [_], _ => rfl
  have m_is_fact := PySem.W.mg_of X G a_is_fact
  have G_is_fact : Cal l.prog w K mg base 1 "is_fact" f_is_fact _ ["value"] (spFact K) := ⟨ok_is_fact F_is_fact T ⟨_, n_MAX_LETTERS⟩, m_is_fact, k_is_fact, b_is_fact⟩
  have F_is_node := fun_mk (st := s_is_node) l_is_node c_is_node k_is_node
  have b_is_node := F_is_node.binds (ps := ["value"]) fun _ _ _ _ _ _ us hl => match us, hl with | [_], _ => rfl
  have m_is_node := PySem.W.mg_of X G a_is_node
  have G_is_node : Cal l.prog w K mg base 2 "is_node" f_is_node _ ["value"] (spIsNode K) := ⟨ok_is_node F_is_node T S ⟨_, n_LEAST_PARTS⟩ ⟨_, n_MOST_PARTS⟩ G_is_fact G_is_integer, m_is_node, k_is_node, b_is_node⟩
  have F_depth_of := fun_mk (st := s_depth_of) l_depth_of c_depth_of k_depth_of
  have b_depth_of := F_depth_of.binds (ps := ["nodes"]) fun _ _ _ _ _ _ us hl => match us, hl with | [_], _ => rfl
  have m_depth_of := PySem.W.mg_of X G a_depth_of
  have G_depth_of : Cal l.prog w K mg base 1 "depth_of" f_depth_of _ ["nodes"] (spDepth K) := ⟨ok_depth_of F_depth_of T S, m_depth_of, k_depth_of, b_depth_of⟩
  have G_depth_ofE : Cal l.prog w K mg base 1 "depth_of" f_depth_of _ ["nodes"] (spDepthE K) := ⟨ok_depth_ofE F_depth_of T S, m_depth_of, k_depth_of, b_depth_of⟩
  have F_facts_of := fun_mk (st := s_facts_of) l_facts_of c_facts_of k_facts_of
  have b_facts_of := F_facts_of.binds (ps := ["nodes"]) fun _ _ _ _ _ _ us hl => match us, hl with | [_], _ => rfl
  have m_facts_of := PySem.W.mg_of X G a_facts_of
  have G_facts_of : Cal l.prog w K mg base 1 "facts_of" f_facts_of _ ["nodes"] (spFacts K) := ⟨ok_facts_of F_facts_of T, m_facts_of, k_facts_of, b_facts_of⟩
  have F_choices_of := fun_mk (st := s_choices_of) l_choices_of c_choices_of k_choices_of
  have b_choices_of := F_choices_of.binds (ps := ["nodes"]) fun _ _ _ _ _ _ us hl => match us, hl with | [_], _ => rfl
  have m_choices_of := PySem.W.mg_of X G a_choices_of
  have G_choices_of : Cal l.prog w K mg base 1 "choices_of" f_choices_of _ ["nodes"] (spChoices K) := ⟨ok_choices_of F_choices_of T, m_choices_of, k_choices_of, b_choices_of⟩
  have F__are_nodes := fun_mk (st := s__are_nodes) l__are_nodes c__are_nodes k__are_nodes
  have b__are_nodes := F__are_nodes.binds (ps := ["value"]) fun _ _ _ _ _ _ us hl => match us, hl with | [_], _ => rfl
  have m__are_nodes := PySem.W.mg_of X G a__are_nodes
  have G__are_nodes : Cal l.prog w K mg base 3 "_are_nodes" f__are_nodes _ ["value"] (spAre K) := ⟨ok_are_nodes F__are_nodes T ⟨_, n_MAX_NODES⟩ ⟨_, n_MAX_FACTS⟩ ⟨_, n_MAX_CHOICES⟩ ⟨_, n_MAX_DEPTH⟩ G_is_node G_facts_of G_choices_of G_depth_of, m__are_nodes, k__are_nodes, b__are_nodes⟩
  have G__are_nodesE : Cal l.prog w K mg base 3 "_are_nodes" f__are_nodes _ ["value"] (spAreE K) := ⟨ok_are_nodesE F__are_nodes T ⟨_, n_MAX_NODES⟩ ⟨_, n_MAX_FACTS⟩ ⟨_, n_MAX_CHOICES⟩ ⟨_, n_MAX_DEPTH⟩ G_is_node G_facts_of G_choices_of G_depth_ofE, m__are_nodes, k__are_nodes, b__are_nodes⟩
  have F__law_is_leaf := fun_mk (st := s__law_is_leaf) l__law_is_leaf c__law_is_leaf k__law_is_leaf
  have b__law_is_leaf := F__law_is_leaf.binds (ps := ["plain"]) fun _ _ _ _ _ _ us hl => match us, hl with | [_], _ => rfl
  have m__law_is_leaf := PySem.W.mg_of X G a__law_is_leaf
  have G__law_is_leaf : Cal l.prog w K mg base 1 "_law_is_leaf" f__law_is_leaf _ ["plain"] (spIsLeaf K) := ⟨ok_is_leaf F__law_is_leaf T, m__law_is_leaf, k__law_is_leaf, b__law_is_leaf⟩
  have F__law_leaf := fun_mk (st := s__law_leaf) l__law_leaf c__law_leaf k__law_leaf
  have b__law_leaf := F__law_leaf.binds (ps := ["dice", "words"]) fun _ _ _ _ _ _ us hl => match us, hl with | [_, _], _ => rfl
  have m__law_leaf := PySem.W.mg_of X G a__law_leaf
  have G__law_leaf : Cal l.prog w K mg base 3 "_law_leaf" f__law_leaf _ ["dice", "words"] (spLeaf K) := ⟨ok_leaf F__law_leaf T G__law_roll G__law_pick, m__law_leaf, k__law_leaf, b__law_leaf⟩
  have F__law_nodes := fun_mk (st := s__law_nodes) l__law_nodes c__law_nodes k__law_nodes
  have b__law_nodes := F__law_nodes.binds (ps := ["plain"]) fun _ _ _ _ _ _ us hl => match us, hl with | [_], _ => rfl
  have m__law_nodes := PySem.W.mg_of X G a__law_nodes
  have G__law_nodes : Cal l.prog w K mg base 12 "_law_nodes" f__law_nodes _ ["plain"] (spNodes K 11) := ⟨ok_nodes F__law_nodes T G__law_is_leaf m__law_nodes k__law_nodes b__law_nodes 11, m__law_nodes, k__law_nodes, b__law_nodes⟩
  have F__law_count := fun_mk (st := s__law_count) l__law_count c__law_count k__law_count
  have b__law_count := F__law_count.binds (ps := ["plain", "kinds"]) fun _ _ _ _ _ _ us hl => match us, hl with | [_, _], _ => rfl
  have m__law_count := PySem.W.mg_of X G a__law_count
  have G__law_count : Cal l.prog w K mg base 13 "_law_count" f__law_count _ ["plain", "kinds"] (spCount K 11) := ⟨ok_count F__law_count T G__law_nodes, m__law_count, k__law_count, b__law_count⟩
  have F__law_drawn := fun_mk (st := s__law_drawn) l__law_drawn c__law_drawn k__law_drawn
  have b__law_drawn := F__law_drawn.binds (ps := ["dice", "words", "most", "choices"]) fun _ _ _ _ _ _ us hl => match us, hl with | [_, _, _, _], _ => rfl
  have m__law_drawn := PySem.W.mg_of X G a__law_drawn
  have G__law_drawn : Cal l.prog w K mg base 25 "_law_drawn" f__law_drawn _ ["dice", "words", "most", "choices"] (spDrawn K 11) := ⟨ok_drawn (N := 11) (by decide) F__law_drawn T G__law_roll G__law_pick G__law_leaf G__law_nodes G__law_count m__law_drawn k__law_drawn b__law_drawn 11 (Nat.le_refl _), m__law_drawn, k__law_drawn, b__law_drawn⟩
  have F__law_known := fun_mk (st := s__law_known) l__law_known c__law_known k__law_known
  have b__law_known := F__law_known.binds (ps := ["dice"]) fun _ _ _ _ _ _ us hl => match us, hl with | [_], _ => rfl
  have m__law_known := PySem.W.mg_of X G a__law_known
  have G__law_known : Cal l.prog w K mg base 3 "_law_known" f__law_known _ ["dice"] (spKnown K) := ⟨ok_known F__law_known T G__law_pick, m__law_known, k__law_known, b__law_known⟩
  have F__law_promise := fun_mk (st := s__law_promise) l__law_promise c__law_promise k__law_promise
  have b__law_promise := F__law_promise.binds (ps := ["dice"]) fun _ _ _ _ _ _ us hl => match us, hl with | [_], _ => rfl
  have m__law_promise := PySem.W.mg_of X G a__law_promise
  have G__law_promise : Cal l.prog w K mg base 26 "_law_promise" f__law_promise _ ["dice"] (spPromise K) := ⟨ok_promise (k := 25) (by decide) F__law_promise T G__law_roll G__law_pick G__law_some G__law_known G__law_drawn, m__law_promise, k__law_promise, b__law_promise⟩
  have H_Promise___init__ : FnOk l.prog w K mg base (L2.CX l.prog w) 4 g_Promise___init__ _ ["self", "nodes"] (spInit K C E_InvalidPromise) := ok_init F_Promise___init__ T R_InvalidPromise PC G__are_nodes
  have H_Promise___init__E : FnOk l.prog w K mg base (L2.CX l.prog w) 4 g_Promise___init__ _ ["self", "nodes"] (spInitE K C E_InvalidPromise) := ok_initE F_Promise___init__ T R_InvalidPromise PC G__are_nodesE
  have F_is_index := fun_mk (st := s_is_index) l_is_index c_is_index k_is_index
  have b_is_index := F_is_index.binds (ps := ["value", "many"]) fun _ _ _ _ _ _ us hl => match us, hl with | [_, _], _ => rfl
  have m_is_index := PySem.W.mg_of X G a_is_index
  have G_is_index : Cal l.prog w K mg base 2 "is_index" f_is_index _ ["value", "many"] (spIndex K) := ⟨ok_is_index F_is_index T G_is_integer, m_is_index, k_is_index, b_is_index⟩
  have F_plain_text := fun_mk (st := s_plain_text) l_plain_text c_plain_text k_plain_text
  have b_plain_text := F_plain_text.binds (ps := ["kind", "told"]) fun _ _ _ _ _ _ us hl => match us, hl with | [_, _], _ => rfl
  have m_plain_text := PySem.W.mg_of X G a_plain_text
  have G_plain_text : Cal l.prog w K mg base 1 "plain_text" f_plain_text _ ["kind", "told"] spPlainT := ⟨ok_plain_text F_plain_text T, m_plain_text, k_plain_text, b_plain_text⟩
  have F_bracketed := fun_mk (st := s_bracketed) l_bracketed c_bracketed k_bracketed
  have b_bracketed := F_bracketed.binds (ps := ["kind", "parts"]) fun _ _ _ _ _ _ us hl => match us, hl with | [_, _], _ => rfl
  have m_bracketed := PySem.W.mg_of X G a_bracketed
  have G_bracketed : Cal l.prog w K mg base 1 "bracketed" f_bracketed _ ["kind", "parts"] (spBrack K) := ⟨ok_bracketed F_bracketed T SV, m_bracketed, k_bracketed, b_bracketed⟩
  have F_text_of := fun_mk (st := s_text_of) l_text_of c_text_of k_text_of
  have b_text_of := F_text_of.binds (ps := ["nodes"]) fun _ _ _ _ _ _ us hl => match us, hl with | [_], _ => rfl
  have m_text_of := PySem.W.mg_of X G a_text_of
  have G_text_of : Cal l.prog w K mg base 2 "text_of" f_text_of _ ["nodes"] (spText K) := ⟨ok_text_of F_text_of T S G_bracketed G_plain_text, m_text_of, k_text_of, b_text_of⟩
  have F__split := fun_mk (st := s__split) l__split c__split k__split
  have b__split := F__split.binds (ps := ["text"]) fun _ _ _ _ _ _ us hl => match us, hl with | [_], _ => rfl
  have m__split := PySem.W.mg_of X G a__split
  have H__split : FnT l.prog w K mg base 1 f__split _ ["text"] spSplit := ok_split F__split
  have F__plain_node := fun_mk (st := s__plain_node) l__plain_node c__plain_node k__plain_node
  have b__plain_node := F__plain_node.binds (ps := ["word"]) fun _ _ _ _ _ _ us hl => match us, hl with | [_], _ => rfl
  have m__plain_node := PySem.W.mg_of X G a__plain_node
  have G__plain_node : Cal l.prog w K mg base 1 "_plain_node" f__plain_node _ ["word"] spPlainN := ⟨ok_plain_node F__plain_node, m__plain_node, k__plain_node, b__plain_node⟩
  have F_nodes_in := fun_mk (st := s_nodes_in) l_nodes_in c_nodes_in k_nodes_in
  have b_nodes_in := F_nodes_in.binds (ps := ["text"]) fun _ _ _ _ _ _ us hl => match us, hl with | [_], _ => rfl
  have m_nodes_in := PySem.W.mg_of X G a_nodes_in
  have H_nodes_in : FnT l.prog w K mg base 2 f_nodes_in _ ["text"] (spNodesIn K) := ok_nodes_in F_nodes_in T SD H__split m__split k__split b__split G__plain_node
  have F_end_of := fun_mk (st := s_end_of) l_end_of c_end_of k_end_of
  have b_end_of := F_end_of.binds (ps := ["nodes", "start"]) fun _ _ _ _ _ _ us hl => match us, hl with | [_, _], _ => rfl
  have m_end_of := PySem.W.mg_of X G a_end_of
  have G_end_of : Cal l.prog w K mg base 1 "end_of" f_end_of _ ["nodes", "start"] (spEnd K) := ⟨ok_end_of F_end_of T S, m_end_of, k_end_of, b_end_of⟩
  have F_Promise_nodes := fun_mk (st := s_Promise_nodes) l_Promise_nodes c_Promise_nodes k_Promise_nodes
  have b_Promise_nodes := F_Promise_nodes.binds (ps := ["self"]) fun _ _ _ _ _ _ us hl => match us, hl with | [_], _ => rfl
  have Pp_nodes : PropOf K C "nodes" q_Promise_nodes g_Promise_nodes := ⟨a_Promise_nodes, e_Promise_nodes, t_Promise_nodes, _, w_Promise_nodes⟩
  have V_nodes : PropC l.prog w K mg base C "nodes" 1 (spNodesP K C) q_Promise_nodes g_Promise_nodes _ := ⟨Pp_nodes, ok_nodesP F_Promise_nodes PC, b_Promise_nodes⟩
  have F_Promise___eq__ := fun_mk (st := s_Promise___eq__) l_Promise___eq__ c_Promise___eq__ k_Promise___eq__
  have b_Promise___eq__ := F_Promise___eq__.binds (ps := ["self", "value"]) fun _ _ _ _ _ _ us hl => match us, hl with | [_, _], _ => rfl
  have D___eq__ : DunC l.prog w K mg base C "__eq__" 1 ["self", "value"] (spEqA K C) g_Promise___eq__ _ := ⟨a_Promise___eq__, i_Promise___eq__, ok_eqA F_Promise___eq__ T PC IC OF, b_Promise___eq__⟩
  have H_eqG := eqG_of_A D___eq__.ok
  have H_Promise___len__ : FnOk l.prog w K mg base CX0 1 g_Promise___len__ _ ["self"] (spLen K C) := ok_len F_Promise___len__ T PC
  have F__start_along := fun_mk (st := s__start_along) l__start_along c__start_along k__start_along
  have b__start_along := F__start_along.binds (ps := ["nodes", "path", "kinds"]) fun _ _ _ _ _ _ us hl => match us, hl with | [_, _, _], _ => rfl
  have m__start_along := PySem.W.mg_of X G a__start_along
  have G__start_along : Cal l.prog w K mg base 3 "_start_along" f__start_along _ ["nodes", "path", "kinds"] (spAlong K) := ⟨ok_start_along F__start_along T G_is_index G_end_of, m__start_along, k__start_along, b__start_along⟩
  have F_part_from := fun_mk (st := s_part_from) l_part_from c_part_from k_part_from
  have b_part_from := F_part_from.binds (ps := ["nodes", "start"]) fun _ _ _ _ _ _ us hl => match us, hl with | [_, _], _ => rfl
  have m_part_from := PySem.W.mg_of X G a_part_from
  have G_part_from : Cal l.prog w K mg base 2 "part_from" f_part_from _ ["nodes", "start"] (spPartFrom K) := ⟨ok_part_from F_part_from G_end_of, m_part_from, k_part_from, b_part_from⟩
  have F_exchanged_from := fun_mk (st := s_exchanged_from) l_exchanged_from c_exchanged_from k_exchanged_from
  have b_exchanged_from := F_exchanged_from.binds (ps := ["nodes", "start", "other"]) fun _ _ _ _ _ _ us hl => match us, hl with | [_, _, _], _ => rfl
  have m_exchanged_from := PySem.W.mg_of X G a_exchanged_from
  have G_exchanged_from : Cal l.prog w K mg base 2 "exchanged_from" f_exchanged_from _ ["nodes", "start", "other"] (spExFrom K) := ⟨ok_exchanged_from F_exchanged_from G_end_of, m_exchanged_from, k_exchanged_from, b_exchanged_from⟩
  have F__paths_along := fun_mk (st := s__paths_along) l__paths_along c__paths_along k__paths_along
  have b__paths_along := F__paths_along.binds (ps := ["nodes", "kinds"]) fun _ _ _ _ _ _ us hl => match us, hl with | [_, _], _ => rfl
  have m__paths_along := PySem.W.mg_of X G a__paths_along
  have G__paths_along : Cal l.prog w K mg base 2 "_paths_along" f__paths_along _ ["nodes", "kinds"] (spPathsAlong K) := ⟨ok_paths_along F__paths_along T G_end_of, m__paths_along, k__paths_along, b__paths_along⟩
  have F_parts_of := fun_mk (st := s_parts_of) l_parts_of c_parts_of k_parts_of
  have b_parts_of := F_parts_of.binds (ps := ["nodes"]) fun _ _ _ _ _ _ us hl => match us, hl with | [_], _ => rfl
  have m_parts_of := PySem.W.mg_of X G a_parts_of
  have G_parts_of : Cal l.prog w K mg base 2 "parts_of" f_parts_of _ ["nodes"] (spPartsOf K) := ⟨ok_parts_of F_parts_of T G_end_of, m_parts_of, k_parts_of, b_parts_of⟩
  have F_start_at := fun_mk (st := s_start_at) l_start_at c_start_at k_start_at
  have b_start_at := F_start_at.binds (ps := ["nodes", "place"]) fun _ _ _ _ _ _ us hl => match us, hl with | [_, _], _ => rfl
  have m_start_at := PySem.W.mg_of X G a_start_at
  have G_start_at : Cal l.prog w K mg base 4 "start_at" f_start_at _ ["nodes", "place"] (spStartAt K) := ⟨ok_start_at F_start_at WA G__start_along, m_start_at, k_start_at, b_start_at⟩
  have F_surface_of := fun_mk (st := s_surface_of) l_surface_of c_surface_of k_surface_of
  have b_surface_of := F_surface_of.binds (ps := ["nodes"]) fun _ _ _ _ _ _ us hl => match us, hl with | [_], _ => rfl
  have m_surface_of := PySem.W.mg_of X G a_surface_of
  have G_surface_of : Cal l.prog w K mg base 3 "surface_of" f_surface_of _ ["nodes"] (spSurfOf K) := ⟨ok_surface_of F_surface_of WA G__paths_along, m_surface_of, k_surface_of, b_surface_of⟩
  have F_hand_in := fun_mk (st := s_hand_in) l_hand_in c_hand_in k_hand_in
  have b_hand_in := F_hand_in.binds (ps := ["nodes", "value"]) fun _ _ _ _ _ _ us hl => match us, hl with | [_, _], _ => rfl
  have m_hand_in := PySem.W.mg_of X G a_hand_in
  have G_hand_in : Cal l.prog w K mg base 5 "hand_in" f_hand_in _ ["nodes", "value"] (spHandIn K) := ⟨ok_hand_in F_hand_in T WH CA G_start_at G_is_index, m_hand_in, k_hand_in, b_hand_in⟩
  have F_called_in := fun_mk (st := s_called_in) l_called_in c_called_in k_called_in
  have b_called_in := F_called_in.binds (ps := ["nodes", "call"]) fun _ _ _ _ _ _ us hl => match us, hl with | [_, _], _ => rfl
  have m_called_in := PySem.W.mg_of X G a_called_in
  have G_called_in : Cal l.prog w K mg base 5 "called_in" f_called_in _ ["nodes", "call"] (spCalledIn K) := ⟨ok_called_in F_called_in G_start_at G_parts_of G_part_from G_exchanged_from, m_called_in, k_called_in, b_called_in⟩
  have F_calls_in := fun_mk (st := s_calls_in) l_calls_in c_calls_in k_calls_in
  have b_calls_in := F_calls_in.binds (ps := ["nodes", "hand"]) fun _ _ _ _ _ _ us hl => match us, hl with | [_, _], _ => rfl
  have m_calls_in := PySem.W.mg_of X G a_calls_in
  have G_calls_in : Cal l.prog w K mg base 4 "calls_in" f_calls_in _ ["nodes", "hand"] (spCallsIn K) := ⟨ok_calls_in F_calls_in T CA G_surface_of, m_calls_in, k_calls_in, b_calls_in⟩
  have F_is_hand := fun_mk (st := s_is_hand) l_is_hand c_is_hand k_is_hand
  have b_is_hand := F_is_hand.binds (ps := ["value"]) fun _ _ _ _ _ _ us hl => match us, hl with | [_], _ => rfl
  have m_is_hand := PySem.W.mg_of X G a_is_hand
  have G_is_hand : Cal l.prog w K mg base 1 "is_hand" f_is_hand _ ["value"] spHand := ⟨ok_is_hand F_is_hand T WH, m_is_hand, k_is_hand, b_is_hand⟩
  have F_check_promise := fun_mk (st := s_check_promise) l_check_promise c_check_promise k_check_promise
  have b_check_promise := F_check_promise.binds (ps := ["value"]) fun _ _ _ _ _ _ us hl => match us, hl with | [_], _ => rfl
  have m_check_promise := PySem.W.mg_of X G a_check_promise
  have H_check_promise : FnOk l.prog w K mg base (L2.CX l.prog w) 1 f_check_promise _ ["value"] (spCheckP K C E_InvalidPromise) := ok_check_promise F_check_promise T PC IC R_InvalidPromise
  have F_check_hand := fun_mk (st := s_check_hand) l_check_hand c_check_hand k_check_hand
  have b_check_hand := F_check_hand.binds (ps := ["value"]) fun _ _ _ _ _ _ us hl => match us, hl with | [_], _ => rfl
  have m_check_hand := PySem.W.mg_of X G a_check_hand
  have H_check_hand : FnOk l.prog w K mg base (L2.CX l.prog w) 2 f_check_hand _ ["value"] (spCheckHand E_InvalidOperation) := ok_check_hand F_check_hand R_InvalidOperation G_is_hand
  have F__hand_that_can := fun_mk (st := s__hand_that_can) l__hand_that_can c__hand_that_can k__hand_that_can
  have b__hand_that_can := F__hand_that_can.binds (ps := ["nodes", "call"]) fun _ _ _ _ _ _ us hl => match us, hl with | [_, _], _ => rfl
  have m__hand_that_can := PySem.W.mg_of X G a__hand_that_can
  have H__hand_that_can : FnOk l.prog w K mg base (L2.CX l.prog w) 6 f__hand_that_can _ ["nodes", "call"] (spHandCan K E_InvalidCall) := ok_hand_can F__hand_that_can R_InvalidCall G_hand_in
  have F_calls := fun_mk (st := s_calls) l_calls c_calls k_calls
  have b_calls := F_calls.binds (ps := ["promise", "hand"]) fun _ _ _ _ _ _ us hl => match us, hl with | [_, _], _ => rfl
  have m_calls := PySem.W.mg_of X G a_calls
  have H_calls : FnOk l.prog w K mg base (L2.CX l.prog w) 5 f_calls _ ["promise", "hand"] (spCalls K C) := ok_calls F_calls PC H_check_promise m_check_promise k_check_promise b_check_promise H_check_hand m_check_hand k_check_hand b_check_hand G_calls_in V_nodes
  have F_is_call := fun_mk (st := s_is_call) l_is_call c_is_call k_is_call
  have b_is_call := F_is_call.binds (ps := ["promise", "value"]) fun _ _ _ _ _ _ us hl => match us, hl with | [_, _], _ => rfl
  have m_is_call := PySem.W.mg_of X G a_is_call
  have H_is_call : FnOk l.prog w K mg base (L2.CX l.prog w) 6 f_is_call _ ["promise", "value"] (spIsCall K C) := ok_is_call F_is_call PC H_check_promise m_check_promise k_check_promise b_check_promise G_hand_in V_nodes
  have F_hand_of := fun_mk (st := s_hand_of) l_hand_of c_hand_of k_hand_of
  have b_hand_of := F_hand_of.binds (ps := ["promise", "call"]) fun _ _ _ _ _ _ us hl => match us, hl with | [_, _], _ => rfl
  have m_hand_of := PySem.W.mg_of X G a_hand_of
  have H_hand_of : FnOk l.prog w K mg base (L2.CX l.prog w) 7 f_hand_of _ ["promise", "call"] (spHandOf K C E_InvalidCall) := ok_hand_of F_hand_of PC H_check_promise m_check_promise k_check_promise b_check_promise H__hand_that_can m__hand_that_can k__hand_that_can b__hand_that_can V_nodes
  have F_called := fun_mk (st := s_called) l_called c_called k_called
  have b_called := F_called.binds (ps := ["promise", "call"]) fun _ _ _ _ _ _ us hl => match us, hl with | [_, _], _ => rfl
  have m_called := PySem.W.mg_of X G a_called
  have H_called : FnOk l.prog w K mg base (L2.CX l.prog w) 7 f_called _ ["promise", "call"] (spCalled K C E_InvalidCall) := ok_called F_called PC H_check_promise m_check_promise k_check_promise b_check_promise H__hand_that_can m__hand_that_can k__hand_that_can b__hand_that_can G_called_in V_nodes H_Promise___init__E b_Promise___init__
  have F_places_in := fun_mk (st := s_places_in) l_places_in c_places_in k_places_in
  have b_places_in := F_places_in.binds (ps := ["nodes", "kinds"]) fun _ _ _ _ _ _ us hl => match us, hl with | [_, _], _ => rfl
  have m_places_in := PySem.W.mg_of X G a_places_in
  have G_places_in : Cal l.prog w K mg base 4 "places_in" f_places_in _ ["nodes", "kinds"] (spPlacesIn K) := ⟨ok_places_in F_places_in T G_surface_of, m_places_in, k_places_in, b_places_in⟩
  have F_surface := fun_mk (st := s_surface) l_surface c_surface k_surface
  have b_surface := F_surface.binds (ps := ["promise"]) fun _ _ _ _ _ _ us hl => match us, hl with | [_], _ => rfl
  have m_surface := PySem.W.mg_of X G a_surface
  have H_surface : FnOk l.prog w K mg base (L2.CX l.prog w) 4 f_surface _ ["promise"] (spSurface K C E_InvalidPromise) := ok_surface F_surface T PC H_check_promise m_check_promise k_check_promise b_check_promise G_surface_of V_nodes
  have H_Surface___init__ : FnOk l.prog w K mg base (L2.CX l.prog w) 5 g_Surface___init__ _ ["self", "promise"] (spSInit K C CS) := ok_sInit (fI := g_Promise___init__) (fL := g_Promise___len__) F_Surface___init__ SC H_surface m_surface k_surface b_surface
  have F__start_of := fun_mk (st := s__start_of) l__start_of c__start_of k__start_of
  have b__start_of := F__start_of.binds (ps := ["nodes", "place"]) fun _ _ _ _ _ _ us hl => match us, hl with | [_, _], _ => rfl
  have m__start_of := PySem.W.mg_of X G a__start_of
  have H__start_of : FnOk l.prog w K mg base (L2.CX l.prog w) 5 f__start_of _ ["nodes", "place"] (spStartOfP K E_InvalidPlace) := ok_start_ofP F__start_of R_InvalidPlace G_start_at
  have F_part_at := fun_mk (st := s_part_at) l_part_at c_part_at k_part_at
  have b_part_at := F_part_at.binds (ps := ["promise", "place"]) fun _ _ _ _ _ _ us hl => match us, hl with | [_, _], _ => rfl
  have m_part_at := PySem.W.mg_of X G a_part_at
  have H_part_at : FnOk l.prog w K mg base (L2.CX l.prog w) 6 f_part_at _ ["promise", "place"] (spPartAt K C E_InvalidPlace) := ok_part_at F_part_at PC H_check_promise m_check_promise k_check_promise b_check_promise H__start_of m__start_of k__start_of b__start_of G_part_from V_nodes H_Promise___init__E b_Promise___init__
  have F_replaced := fun_mk (st := s_replaced) l_replaced c_replaced k_replaced
  have b_replaced := F_replaced.binds (ps := ["promise", "place", "other"]) fun _ _ _ _ _ _ us hl => match us, hl with | [_, _, _], _ => rfl
  have m_replaced := PySem.W.mg_of X G a_replaced
  have H_replaced : FnOk l.prog w K mg base (L2.CX l.prog w) 6 f_replaced _ ["promise", "place", "other"] (spReplaced K C E_InvalidPromise E_InvalidPlace) := ok_replaced F_replaced T PC IC H_check_promise m_check_promise k_check_promise b_check_promise H__start_of m__start_of k__start_of b__start_of G_exchanged_from V_nodes H_Promise___init__E b_Promise___init__
  have F_Surface_is_over := fun_mk (st := s_Surface_is_over) l_Surface_is_over c_Surface_is_over k_Surface_is_over
  have b_Surface_is_over := F_Surface_is_over.binds (ps := ["self"]) fun _ _ _ _ _ _ us hl => match us, hl with | [_], _ => rfl
  have M_is_over : Meth K CS "is_over" g_Surface_is_over := ⟨a_Surface_is_over, i_Surface_is_over, k_Surface_is_over⟩
  have H_Surface_is_over : FnOk l.prog w K mg base CX0 5 g_Surface_is_over _ ["self"] (spSOver K C CS) := ok_sOver F_Surface_is_over T PC SC G_places_in V_nodes
  have F_Promise_parts := fun_mk (st := s_Promise_parts) l_Promise_parts c_Promise_parts k_Promise_parts
  have b_Promise_parts := F_Promise_parts.binds (ps := ["self"]) fun _ _ _ _ _ _ us hl => match us, hl with | [_], _ => rfl
  have Pp_parts : PropOf K C "parts" q_Promise_parts g_Promise_parts := ⟨a_Promise_parts, e_Promise_parts, t_Promise_parts, _, w_Promise_parts⟩
  have V_parts : PropC l.prog w K mg base C "parts" 6 (spPartsP K C) q_Promise_parts g_Promise_parts _ := ⟨Pp_parts, ok_partsP F_Promise_parts T PC G_parts_of H_Promise___init__ b_Promise___init__, b_Promise_parts⟩
  have F_Promise_choices := fun_mk (st := s_Promise_choices) l_Promise_choices c_Promise_choices k_Promise_choices
  have b_Promise_choices := F_Promise_choices.binds (ps := ["self"]) fun _ _ _ _ _ _ us hl => match us, hl with | [_], _ => rfl
  have Pp_choices : PropOf K C "choices" q_Promise_choices g_Promise_choices := ⟨a_Promise_choices, e_Promise_choices, t_Promise_choices, _, w_Promise_choices⟩
  have V_choices : PropC l.prog w K mg base C "choices" 2 (spChoicesP K C) q_Promise_choices g_Promise_choices _ := ⟨Pp_choices, ok_choicesP F_Promise_choices PC G_choices_of, b_Promise_choices⟩
  have F_Promise_text := fun_mk (st := s_Promise_text) l_Promise_text c_Promise_text k_Promise_text
  have b_Promise_text := F_Promise_text.binds (ps := ["self"]) fun _ _ _ _ _ _ us hl => match us, hl with | [_], _ => rfl
  have Pp_text : PropOf K C "text" q_Promise_text g_Promise_text := ⟨a_Promise_text, e_Promise_text, t_Promise_text, _, w_Promise_text⟩
  have V_text : PropC l.prog w K mg base C "text" 3 (spTextP K C) q_Promise_text g_Promise_text _ := ⟨Pp_text, ok_textP F_Promise_text PC G_text_of, b_Promise_text⟩
  have F__law_made := fun_mk (st := s__law_made) l__law_made c__law_made k__law_made
  have b__law_made := F__law_made.binds (ps := ["plain"]) fun _ _ _ _ _ _ us hl => match us, hl with | [_], _ => rfl
  have m__law_made := PySem.W.mg_of X G a__law_made
  have H__law_made : FnOk l.prog w K mg base (L2.CX l.prog w) 17 f__law_made _ ["plain"] (spMadeE K C E_InvalidPromise 11) := ok_madeE F__law_made T PC G__law_nodes H_Promise___init__E b_Promise___init__
  have F__law_all_calls := fun_mk (st := s__law_all_calls) l__law_all_calls c__law_all_calls k__law_all_calls
  have b__law_all_calls := F__law_all_calls.binds (ps := ["made"]) fun _ _ _ _ _ _ us hl => match us, hl with | [_], _ => rfl
  have m__law_all_calls := PySem.W.mg_of X G a__law_all_calls
  have G__law_all_calls : Cal l.prog w K mg base 6 "_law_all_calls" f__law_all_calls _ ["made"] (spAllC K C) := ⟨ok_allC F__law_all_calls T H_calls m_calls k_calls b_calls, m__law_all_calls, k__law_all_calls, b__law_all_calls⟩
  have F__law_pair_right := fun_mk (st := s__law_pair_right) l__law_pair_right c__law_pair_right k__law_pair_right
  have b__law_pair_right := F__law_pair_right.binds (ps := ["made", "one", "other"]) fun _ _ _ _ _ _ us hl => match us, hl with | [_, _, _], _ => rfl
  have m__law_pair_right := PySem.W.mg_of X G a__law_pair_right
  have G__law_pair_right : Cal l.prog w K mg base 9 "_law_pair_right" f__law_pair_right _ ["made", "one", "other"] (spPairR K C) := ⟨ok_pair F__law_pair_right T PC H_called m_called k_called b_called H_is_call m_is_call k_is_call b_is_call H_hand_of m_hand_of k_hand_of b_hand_of H_part_at m_part_at k_part_at b_part_at H_replaced m_replaced k_replaced b_replaced D___eq__ IC hNe V_parts, m__law_pair_right, k__law_pair_right, b__law_pair_right⟩
  have F__law_row_right := fun_mk (st := s__law_row_right) l__law_row_right c__law_row_right k__law_row_right
  have b__law_row_right := F__law_row_right.binds (ps := ["dice", "made"]) fun _ _ _ _ _ _ us hl => match us, hl with | [_, _], _ => rfl
  have m__law_row_right := PySem.W.mg_of X G a__law_row_right
  have G__law_row_right : Cal l.prog w K mg base 8 "_law_row_right" f__law_row_right _ ["dice", "made"] (spRowR K C) := ⟨ok_row F__law_row_right T PC SC G__law_all_calls G__law_pick H_called m_called k_called b_called H_is_call m_is_call k_is_call b_is_call H_Surface___init__ b_Surface___init__ M_is_over H_Surface_is_over b_Surface_is_over V_choices, m__law_row_right, k__law_row_right, b__law_row_right⟩
  have F__law_right := fun_mk (st := s__law_right) l__law_right c__law_right k__law_right
  have b__law_right := F__law_right.binds (ps := ["dice"]) fun _ _ _ _ _ _ us hl => match us, hl with | [_], _ => rfl
  have m__law_right := PySem.W.mg_of X G a__law_right
  have G__law_right : Cal l.prog w K mg base 27 "_law_right" f__law_right _ ["dice"] spRight13 := ⟨ok_right13 F__law_right T PC G__law_promise G__law_all_calls G__law_some H__law_made m__law_made k__law_made b__law_made H_surface m_surface k_surface b_surface G__law_pair_right G__law_row_right, m__law_right, k__law_right, b__law_right⟩
  have CR : ClX.CRead K C (.type "type") := ⟨rd, ga⟩
  have F_Promise_read := fun_mk (st := s_Promise_read) l_Promise_read c_Promise_read k_Promise_read
  have b_Promise_read := F_Promise_read.binds (ps := ["cls", "text"]) fun _ _ _ _ _ _ us hl => match us, hl with | [_, _], _ => rfl
  have CM_read : ClX.CMet K C (.type "type") "read" q_Promise_read g_Promise_read := ⟨a_Promise_read, ⟨_, w_Promise_read⟩, n_Promise_read⟩
  have H_Promise_read : FnT l.prog w K mg base 6 g_Promise_read _ ["cls", "text"] (spReadOk K C) := ok_read F_Promise_read T PC H_nodes_in m_nodes_in k_nodes_in b_nodes_in G__are_nodes G_text_of H_Promise___init__ b_Promise___init__
  have F_law := fun_mk (st := s_law) l_law c_law k_law
  have b_law := F_law.binds (ps := ["script"]) fun _ _ _ _ _ _ us hl => match us, hl with | [_], _ => rfl
  have m_law := PySem.W.mg_of X G a_law
  exact ok_law13 F_law T PC G__law_dice G__law_right G__law_pair_right H_called m_called k_called b_called V_text CR CM_read H_Promise_read b_Promise_read
end Eh
set_option Elab.async false
set_option linter.all false
set_option maxRecDepth 100000
set_option maxHeartbeats 8000000
set_option pp.deepTerms false
set_option pp.maxSteps 30
open PySem PySem.W PyProof.Rows
def PySem.W.Fast.tw16409545571506461955 : Nat := 0
def PySem.W.Fast.tw1395343600407844189 : Nat := 0
def PySem.W.Fast.tw11954587573558478857 : Nat := 0
set_option maxHeartbeats 0 in
theorem PySem.Challenge.cw_eitherhand_k13_whole_calls_in_any_order_holds : PySem.Challenge.rw_eitherhand_k13_whole_calls_in_any_order.Holds := by
  w_on; o_law; k_head; (case hw => w_witness2)
  k_fill
  refine L2.walk_of (l := PySem.Challenge.rw_eitherhand_k13_whole_calls_in_any_order) (n := 63) (k := 28) (x := "script") (CX := fun _ => L2.CX0) (sp := fun w => Eh.spLaw13 _) rfl (by decide) rfl ⟨rfl, by decide, by decide⟩ (fun w h Y => PySem.W.kIn_of Y) ?F (fun _ _ a ns hl _ hS => ⟨a, ns, rfl, hS, hl, fun _ => rfl⟩) (fun _ _ _ _ _ h => h)
  case F =>
    intro w mg fa h KX G hmg
    refine' Eh.all_mk KX G hmg  ?i_MAX_LETTERS ?i_LEAST_PARTS ?i_MOST_PARTS ?i_MAX_NODES ?i_MAX_FACTS ?i_MAX_CHOICES ?i_MAX_DEPTH ?x1_InvalidPromise ?x2_InvalidPromise ?x3_InvalidPromise ?x4_InvalidPromise ?x5_InvalidPromise ?x6_InvalidPromise ?x7_InvalidPromise ?x1_InvalidPlace ?x2_InvalidPlace ?x3_InvalidPlace ?x4_InvalidPlace ?x5_InvalidPlace ?x6_InvalidPlace ?x7_InvalidPlace ?x1_InvalidCall ?x2_InvalidCall ?x3_InvalidCall ?x4_InvalidCall ?x5_InvalidCall ?x6_InvalidCall ?x7_InvalidCall ?x1_InvalidOperation ?x2_InvalidOperation ?x3_InvalidOperation ?x4_InvalidOperation ?x5_InvalidOperation ?x6_InvalidOperation ?x7_InvalidOperation ?gC ?pg ?hd ?po ?sa ?mk ?kc ?nN ?a_Promise___init__ ?i_Promise___init__ ?l_Promise___init__ ?c_Promise___init__ ?k_Promise___init__ ?a_Promise___len__ ?i_Promise___len__ ?l_Promise___len__ ?c_Promise___len__ ?k_Promise___len__ ?ic1 ?ic2 ?ic3 ?ic4 ?ic5 ?ic6 ?os1 ?os2 ?os3 ?os4 ?os5 ?os6 ?yS1 ?yS2 ?yS3 ?yS4 ?yD1 ?yD2 ?yD3 ?yD4 ?yW1 ?yW2 ?yV1 ?yV2 ?yA1 ?yA2 ?yA3 ?hNe ?gS ?pgS ?hdS ?poS ?saS ?mkS ?kcS ?npS ?nqS ?a_Surface___init__ ?i_Surface___init__ ?l_Surface___init__ ?c_Surface___init__ ?k_Surface___init__ ?jc1 ?jc4 ?jc5 ?jc6 ?hNeS ?hsub ?nCS ?a__law_roll ?l__law_roll ?c__law_roll ?k__law_roll ?a__law_pick ?l__law_pick ?c__law_pick ?k__law_pick ?a__law_some ?l__law_some ?c__law_some ?k__law_some ?a__law_dice ?l__law_dice ?c__law_dice ?k__law_dice ?a_is_integer ?l_is_integer ?c_is_integer ?k_is_integer ?a_is_fact ?l_is_fact ?c_is_fact ?k_is_fact ?a_is_node ?l_is_node ?c_is_node ?k_is_node ?a_depth_of ?l_depth_of ?c_depth_of ?k_depth_of ?a_facts_of ?l_facts_of ?c_facts_of ?k_facts_of ?a_choices_of ?l_choices_of ?c_choices_of ?k_choices_of ?a__are_nodes ?l__are_nodes ?c__are_nodes ?k__are_nodes ?a__law_is_leaf ?l__law_is_leaf ?c__law_is_leaf ?k__law_is_leaf ?a__law_leaf ?l__law_leaf ?c__law_leaf ?k__law_leaf ?a__law_nodes ?l__law_nodes ?c__law_nodes ?k__law_nodes ?a__law_count ?l__law_count ?c__law_count ?k__law_count ?a__law_drawn ?l__law_drawn ?c__law_drawn ?k__law_drawn ?a__law_known ?l__law_known ?c__law_known ?k__law_known ?a__law_promise ?l__law_promise ?c__law_promise ?k__law_promise ?a_is_index ?l_is_index ?c_is_index ?k_is_index ?a_plain_text ?l_plain_text ?c_plain_text ?k_plain_text ?a_bracketed ?l_bracketed ?c_bracketed ?k_bracketed ?a_text_of ?l_text_of ?c_text_of ?k_text_of ?a__split ?l__split ?c__split ?k__split ?a__plain_node ?l__plain_node ?c__plain_node ?k__plain_node ?a_nodes_in ?l_nodes_in ?c_nodes_in ?k_nodes_in ?a_end_of ?l_end_of ?c_end_of ?k_end_of ?a_Promise_nodes ?e_Promise_nodes ?t_Promise_nodes ?w_Promise_nodes ?l_Promise_nodes ?c_Promise_nodes ?k_Promise_nodes ?a_Promise___eq__ ?i_Promise___eq__ ?l_Promise___eq__ ?c_Promise___eq__ ?k_Promise___eq__ ?a__start_along ?l__start_along ?c__start_along ?k__start_along ?a_part_from ?l_part_from ?c_part_from ?k_part_from ?a_exchanged_from ?l_exchanged_from ?c_exchanged_from ?k_exchanged_from ?a__paths_along ?l__paths_along ?c__paths_along ?k__paths_along ?a_parts_of ?l_parts_of ?c_parts_of ?k_parts_of ?a_start_at ?l_start_at ?c_start_at ?k_start_at ?a_surface_of ?l_surface_of ?c_surface_of ?k_surface_of ?a_hand_in ?l_hand_in ?c_hand_in ?k_hand_in ?a_called_in ?l_called_in ?c_called_in ?k_called_in ?a_calls_in ?l_calls_in ?c_calls_in ?k_calls_in ?a_is_hand ?l_is_hand ?c_is_hand ?k_is_hand ?a_check_promise ?l_check_promise ?c_check_promise ?k_check_promise ?a_check_hand ?l_check_hand ?c_check_hand ?k_check_hand ?a__hand_that_can ?l__hand_that_can ?c__hand_that_can ?k__hand_that_can ?a_calls ?l_calls ?c_calls ?k_calls ?a_is_call ?l_is_call ?c_is_call ?k_is_call ?a_hand_of ?l_hand_of ?c_hand_of ?k_hand_of ?a_called ?l_called ?c_called ?k_called ?a_places_in ?l_places_in ?c_places_in ?k_places_in ?a_surface ?l_surface ?c_surface ?k_surface ?a__start_of ?l__start_of ?c__start_of ?k__start_of ?a_part_at ?l_part_at ?c_part_at ?k_part_at ?a_replaced ?l_replaced ?c_replaced ?k_replaced ?a_Surface_is_over ?i_Surface_is_over ?l_Surface_is_over ?c_Surface_is_over ?k_Surface_is_over ?a_Promise_parts ?e_Promise_parts ?t_Promise_parts ?w_Promise_parts ?l_Promise_parts ?c_Promise_parts ?k_Promise_parts ?a_Promise_choices ?e_Promise_choices ?t_Promise_choices ?w_Promise_choices ?l_Promise_choices ?c_Promise_choices ?k_Promise_choices ?a_Promise_text ?e_Promise_text ?t_Promise_text ?w_Promise_text ?l_Promise_text ?c_Promise_text ?k_Promise_text ?a__law_made ?l__law_made ?c__law_made ?k__law_made ?a__law_all_calls ?l__law_all_calls ?c__law_all_calls ?k__law_all_calls ?a__law_pair_right ?l__law_pair_right ?c__law_pair_right ?k__law_pair_right ?a__law_row_right ?l__law_row_right ?c__law_row_right ?k__law_row_right ?a__law_right ?l__law_right ?c__law_right ?k__law_right ?rd ?ga ?a_Promise_read ?w_Promise_read ?n_Promise_read ?l_Promise_read ?c_Promise_read ?k_Promise_read ?a_law ?l_law ?c_law ?k_law ?z_classmethod ?z_property ?z_isinstance ?z_list ?z_tuple ?z_dict ?z_len ?z_reversed ?z_any ?z_all ?z_range ?z_bool ?z_abs ?z_str ?z_max ?z_sorted ?z_iter ?z_int ?z_sum ?z_min ?z_super ?z_set
    (case i_MAX_LETTERS => k_is); (case i_LEAST_PARTS => k_is); (case i_MOST_PARTS => k_is); (case i_MAX_NODES => k_is); (case i_MAX_FACTS => k_is); (case i_MAX_CHOICES => k_is); (case i_MAX_DEPTH => k_is); (case x1_InvalidPromise => k_is); (case x2_InvalidPromise => k_exc); (case x3_InvalidPromise => k_is); (case x4_InvalidPromise => k_is); (case x5_InvalidPromise => k_is); (case x6_InvalidPromise => k_is); (case x7_InvalidPromise => k_is); (case x1_InvalidPlace => k_is); (case x2_InvalidPlace => k_exc); (case x3_InvalidPlace => k_is); (case x4_InvalidPlace => k_is); (case x5_InvalidPlace => k_is); (case x6_InvalidPlace => k_is); (case x7_InvalidPlace => k_is); (case x1_InvalidCall => k_is); (case x2_InvalidCall => k_exc); (case x3_InvalidCall => k_is); (case x4_InvalidCall => k_is); (case x5_InvalidCall => k_is); (case x6_InvalidCall => k_is); (case x7_InvalidCall => k_is); (case x1_InvalidOperation => k_is); (case x2_InvalidOperation => k_exc); (case x3_InvalidOperation => k_is); (case x4_InvalidOperation => k_is); (case x5_InvalidOperation => k_is); (case x6_InvalidOperation => k_is); (case x7_InvalidOperation => k_is); (case gC => k_is); (case pg => k_is); (case hd => k_is); (case po => k_is); (case sa => k_is); (case mk => k_is); (case kc => k_is); (case nN => k_is); (case a_Promise___init__ => k_is); (case i_Promise___init__ => k_is); (case l_Promise___init__ => k_is); (case c_Promise___init__ => k_is); (case k_Promise___init__ => k_is); (case a_Promise___len__ => k_is); (case i_Promise___len__ => k_is); (case l_Promise___len__ => k_is); (case c_Promise___len__ => k_is); (case k_Promise___len__ => k_is); (case ic1 => k_is); (case ic2 => k_is); (case ic3 => k_is); (case ic4 => k_is); (case ic5 => k_is); (case ic6 => k_is); (case os1 => k_is); (case os2 => k_is); (case os3 => k_is); (case os4 => k_is); (case os5 => k_is); (case os6 => k_is); (case yS1 => k_is); (case yS2 => k_is); (case yS3 => exact ⟨⟨_, _, rfl, rfl⟩, ⟨_, _, rfl, rfl⟩, ⟨_, _, rfl, rfl⟩, ⟨_, _, rfl, rfl⟩, trivial⟩); (case yS4 => first | rfl | decide | k_is); (case yD1 => k_is); (case yD2 => k_is); (case yD3 => exact ⟨⟨_, _, rfl, rfl⟩, ⟨_, _, rfl, rfl⟩, ⟨_, _, rfl, rfl⟩, ⟨_, _, rfl, rfl⟩, trivial⟩); (case yD4 => first | rfl | decide | k_is); (case yW1 => k_is); (case yW2 => k_is); (case yV1 => k_is); (case yV2 => k_is); (case yA1 => k_is); (case yA2 => k_is); (case yA3 => exact ⟨⟨_, _, rfl, rfl⟩, ⟨_, _, rfl, rfl⟩, trivial⟩); (case hNe => k_is); (case gS => k_is); (case pgS => k_is); (case hdS => k_is); (case poS => k_is); (case saS => k_is); (case mkS => k_is); (case kcS => k_is); (case npS => k_is); (case nqS => k_is); (case a_Surface___init__ => k_is); (case i_Surface___init__ => k_is); (case l_Surface___init__ => k_is); (case c_Surface___init__ => k_is); (case k_Surface___init__ => k_is); (case jc1 => k_is); (case jc4 => k_is); (case jc5 => k_is); (case jc6 => k_is); (case hNeS => k_is); (case hsub => k_is); (case nCS => first | rfl | decide | k_is); (case a__law_roll => k_is); (case l__law_roll => k_is); (case c__law_roll => k_is); (case k__law_roll => k_is); (case a__law_pick => k_is); (case l__law_pick => k_is); (case c__law_pick => k_is); (case k__law_pick => k_is); (case a__law_some => k_is); (case l__law_some => k_is); (case c__law_some => k_is); (case k__law_some => k_is); (case a__law_dice => k_is); (case l__law_dice => k_is); (case c__law_dice => k_is); (case k__law_dice => k_is); (case a_is_integer => k_is); (case l_is_integer => k_is); (case c_is_integer => k_is); (case k_is_integer => k_is); (case a_is_fact => k_is); (case l_is_fact => k_is); (case c_is_fact => k_is); (case k_is_fact => k_is); (case a_is_node => k_is); (case l_is_node => k_is); (case c_is_node => k_is); (case k_is_node => k_is); (case a_depth_of => k_is); (case l_depth_of => k_is); (case c_depth_of => k_is); (case k_depth_of => k_is); (case a_facts_of => k_is); (case l_facts_of => k_is); (case c_facts_of => k_is); (case k_facts_of => k_is); (case a_choices_of => k_is); (case l_choices_of => k_is); (case c_choices_of => k_is); (case k_choices_of => k_is); (case a__are_nodes => k_is); (case l__are_nodes => k_is); (case c__are_nodes => k_is); (case k__are_nodes => k_is); (case a__law_is_leaf => k_is); (case l__law_is_leaf => k_is); (case c__law_is_leaf => k_is); (case k__law_is_leaf => k_is); (case a__law_leaf => k_is); (case l__law_leaf => k_is); (case c__law_leaf => k_is); (case k__law_leaf => k_is); (case a__law_nodes => k_is); (case l__law_nodes => k_is); (case c__law_nodes => k_is); (case k__law_nodes => k_is); (case a__law_count => k_is); (case l__law_count => k_is); (case c__law_count => k_is); (case k__law_count => k_is); (case a__law_drawn => k_is); (case l__law_drawn => k_is); (case c__law_drawn => k_is); (case k__law_drawn => k_is); (case a__law_known => k_is); (case l__law_known => k_is); (case c__law_known => k_is); (case k__law_known => k_is); (case a__law_promise => k_is); (case l__law_promise => k_is); (case c__law_promise => k_is); (case k__law_promise => k_is); (case a_is_index => k_is); (case l_is_index => k_is); (case c_is_index => k_is); (case k_is_index => k_is); (case a_plain_text => k_is); (case l_plain_text => k_is); (case c_plain_text => k_is); (case k_plain_text => k_is); (case a_bracketed => k_is); (case l_bracketed => k_is); (case c_bracketed => k_is); (case k_bracketed => k_is); (case a_text_of => k_is); (case l_text_of => k_is); (case c_text_of => k_is); (case k_text_of => k_is); (case a__split => k_is); (case l__split => k_is); (case c__split => k_is); (case k__split => k_is); (case a__plain_node => k_is); (case l__plain_node => k_is); (case c__plain_node => k_is); (case k__plain_node => k_is); (case a_nodes_in => k_is); (case l_nodes_in => k_is); (case c_nodes_in => k_is); (case k_nodes_in => k_is); (case a_end_of => k_is); (case l_end_of => k_is); (case c_end_of => k_is); (case k_end_of => k_is); (case a_Promise_nodes => k_is); (case e_Promise_nodes => k_is); (case t_Promise_nodes => k_is); (case w_Promise_nodes => k_is); (case l_Promise_nodes => k_is); (case c_Promise_nodes => k_is); (case k_Promise_nodes => k_is); (case a_Promise___eq__ => k_is); (case i_Promise___eq__ => k_is); (case l_Promise___eq__ => k_is); (case c_Promise___eq__ => k_is); (case k_Promise___eq__ => k_is); (case a__start_along => k_is); (case l__start_along => k_is); (case c__start_along => k_is); (case k__start_along => k_is); (case a_part_from => k_is); (case l_part_from => k_is); (case c_part_from => k_is); (case k_part_from => k_is); (case a_exchanged_from => k_is); (case l_exchanged_from => k_is); (case c_exchanged_from => k_is); (case k_exchanged_from => k_is); (case a__paths_along => k_is); (case l__paths_along => k_is); (case c__paths_along => k_is); (case k__paths_along => k_is); (case a_parts_of => k_is); (case l_parts_of => k_is); (case c_parts_of => k_is); (case k_parts_of => k_is); (case a_start_at => k_is); (case l_start_at => k_is); (case c_start_at => k_is); (case k_start_at => k_is); (case a_surface_of => k_is); (case l_surface_of => k_is); (case c_surface_of => k_is); (case k_surface_of => k_is); (case a_hand_in => k_is); (case l_hand_in => k_is); (case c_hand_in => k_is); (case k_hand_in => k_is); (case a_called_in => k_is); (case l_called_in => k_is); (case c_called_in => k_is); (case k_called_in => k_is); (case a_calls_in => k_is); (case l_calls_in => k_is); (case c_calls_in => k_is); (case k_calls_in => k_is); (case a_is_hand => k_is); (case l_is_hand => k_is); (case c_is_hand => k_is); (case k_is_hand => k_is); (case a_check_promise => k_is); (case l_check_promise => k_is); (case c_check_promise => k_is); (case k_check_promise => k_is); (case a_check_hand => k_is); (case l_check_hand => k_is); (case c_check_hand => k_is); (case k_check_hand => k_is); (case a__hand_that_can => k_is); (case l__hand_that_can => k_is); (case c__hand_that_can => k_is); (case k__hand_that_can => k_is); (case a_calls => k_is); (case l_calls => k_is); (case c_calls => k_is); (case k_calls => k_is); (case a_is_call => k_is); (case l_is_call => k_is); (case c_is_call => k_is); (case k_is_call => k_is); (case a_hand_of => k_is); (case l_hand_of => k_is); (case c_hand_of => k_is); (case k_hand_of => k_is); (case a_called => k_is); (case l_called => k_is); (case c_called => k_is); (case k_called => k_is); (case a_places_in => k_is); (case l_places_in => k_is); (case c_places_in => k_is); (case k_places_in => k_is); (case a_surface => k_is); (case l_surface => k_is); (case c_surface => k_is); (case k_surface => k_is); (case a__start_of => k_is); (case l__start_of => k_is); (case c__start_of => k_is); (case k__start_of => k_is); (case a_part_at => k_is); (case l_part_at => k_is); (case c_part_at => k_is); (case k_part_at => k_is); (case a_replaced => k_is); (case l_replaced => k_is); (case c_replaced => k_is); (case k_replaced => k_is); (case a_Surface_is_over => k_is); (case i_Surface_is_over => k_is); (case l_Surface_is_over => k_is); (case c_Surface_is_over => k_is); (case k_Surface_is_over => k_is); (case a_Promise_parts => k_is); (case e_Promise_parts => k_is); (case t_Promise_parts => k_is); (case w_Promise_parts => k_is); (case l_Promise_parts => k_is); (case c_Promise_parts => k_is); (case k_Promise_parts => k_is); (case a_Promise_choices => k_is); (case e_Promise_choices => k_is); (case t_Promise_choices => k_is); (case w_Promise_choices => k_is); (case l_Promise_choices => k_is); (case c_Promise_choices => k_is); (case k_Promise_choices => k_is); (case a_Promise_text => k_is); (case e_Promise_text => k_is); (case t_Promise_text => k_is); (case w_Promise_text => k_is); (case l_Promise_text => k_is); (case c_Promise_text => k_is); (case k_Promise_text => k_is); (case a__law_made => k_is); (case l__law_made => k_is); (case c__law_made => k_is); (case k__law_made => k_is); (case a__law_all_calls => k_is); (case l__law_all_calls => k_is); (case c__law_all_calls => k_is); (case k__law_all_calls => k_is); (case a__law_pair_right => k_is); (case l__law_pair_right => k_is); (case c__law_pair_right => k_is); (case k__law_pair_right => k_is); (case a__law_row_right => k_is); (case l__law_row_right => k_is); (case c__law_row_right => k_is); (case k__law_row_right => k_is); (case a__law_right => k_is); (case l__law_right => k_is); (case c__law_right => k_is); (case k__law_right => k_is); (case rd => k_is); (case ga => k_is); (case a_Promise_read => k_is); (case w_Promise_read => k_is); (case n_Promise_read => k_is); (case l_Promise_read => k_is); (case c_Promise_read => k_is); (case k_Promise_read => k_is); (case a_law => k_is); (case l_law => k_is); (case c_law => k_is); (case k_law => k_is); (case z_classmethod => k_is); (case z_property => k_is); (case z_isinstance => k_is); (case z_list => k_is); (case z_tuple => k_is); (case z_dict => k_is); (case z_len => k_is); (case z_reversed => k_is); (case z_any => k_is); (case z_all => k_is); (case z_range => k_is); (case z_bool => k_is); (case z_abs => k_is); (case z_str => k_is); (case z_max => k_is); (case z_sorted => k_is); (case z_iter => k_is); (case z_int => k_is); (case z_sum => k_is); (case z_min => k_is); (case z_super => k_is); (case z_set => k_is)
