import PyProof.Rows.All
import Wide.All
import OpenK.AllK
import Wide.FinOn
import PySem.Challenge.RW_eitherhand_k11_calls_told
import HandS.ForMost
import HandS.Wide
import HandS.IsInst
import HandS.RaiseMore
import HandS.Text
import PyProof.FactsAll.dict_1
import PyProof.FactsAll.subtypes_3
import PyProof.FactsAll.subtypes_4
import HandS.ExcOwn
import HandS.WordsExc
import HandS.TryOnly
import HandS.Strs
import KE.GoesSet
import HandS.DictComp
import HandS.Style
import HandS.OwnIter
import HandS.Rev
import HandS.Property
import HandS.TupAny
import HandS.OwnEq
import HandS.ClsMeth
import HandS.IterNext
import HandS.IterVal
import PyProof.FactsAll.tuple_iterator_1
import HandS.Replace
import HandS.ReplaceLit
import HandS.CallLocal
import HandS.Deep
import HandS.Dict
import HandS.WordsDict
import HandS.Lambda
import KE.KDictZip
import HandS.ExcValue
import KE.KDictCopyH
import KE.KDictPairs
import KE.KDictDisplayH
import HandS.RevRange
import HandS.Conv
import KE.LtData
import HandS.SortOrd
import HandS.SortRule
import KE.KDictSum
import HandS.SuiteRaise
import HandS.RaiseFrom
import HandS.ExcCtx
import HandS.Star
import HandS.FStr
import HandS.Small
import KE.KeyNested
import KE.KDictKeyed
import KE.SortData
import KE.KExcSuper
import HandS.Nested
import HandS.ExcInit
import HandS.ExcField
import HandS.TryMany
import HandS.ReplaceDef
import HandS.ReplaceList
set_option Elab.async false
set_option linter.all false
set_option maxRecDepth 100000
namespace Eh
open PySem PySem.Spec PyProof.Rows L2
def topS (i : Nat) : Stmt := PySem.Challenge.pw_eitherhand_k11_calls_told.main.body.getD i (.Pass ⟨0, 0, 0, 0⟩)
abbrev s_is_integer : Stmt := topS 14
theorem sc_is_integer : FnScope ["value"] ["value"] (defScope s_is_integer) := ⟨rfl, rfl, rfl, by decide +kernel, rfl, by decide +kernel, by decide +kernel⟩
abbrev s_is_index : Stmt := topS 15
theorem sc_is_index : FnScope ["value", "many"] ["value", "many"] (defScope s_is_index) := ⟨rfl, rfl, rfl, by decide +kernel, rfl, by decide +kernel, by decide +kernel⟩
abbrev s_is_fact : Stmt := topS 16
theorem sc_is_fact : FnScope ["value", "letter"] ["value"] (defScope s_is_fact) := ⟨rfl, rfl, rfl, by decide +kernel, rfl, by decide +kernel, by decide +kernel⟩
abbrev s_is_hand : Stmt := topS 17
theorem sc_is_hand : FnScope ["value"] ["value"] (defScope s_is_hand) := ⟨rfl, rfl, rfl, by decide +kernel, rfl, by decide +kernel, by decide +kernel⟩
abbrev s_is_node : Stmt := topS 24
theorem sc_is_node : FnScope ["value", "kind", "told"] ["value"] (defScope s_is_node) := ⟨rfl, rfl, rfl, by decide +kernel, rfl, by decide +kernel, by decide +kernel⟩
abbrev s_depth_of : Stmt := topS 25
theorem sc_depth_of : FnScope ["nodes", "missing", "deepest", "kind", "told"] ["nodes"] (defScope s_depth_of) := ⟨rfl, rfl, rfl, by decide +kernel, rfl, by decide +kernel, by decide +kernel⟩
abbrev s_facts_of : Stmt := topS 26
theorem sc_facts_of : FnScope ["nodes", "kind", "told"] ["nodes"] (defScope s_facts_of) := ⟨rfl, rfl, rfl, by decide +kernel, rfl, by decide +kernel, by decide +kernel⟩
abbrev s_choices_of : Stmt := topS 27
theorem sc_choices_of : FnScope ["nodes", "kind", "_"] ["nodes"] (defScope s_choices_of) := ⟨rfl, rfl, rfl, by decide +kernel, rfl, by decide +kernel, by decide +kernel⟩
abbrev s_text_of : Stmt := topS 28
theorem sc_text_of : FnScope ["nodes", "texts", "kind", "told", "parts", "_"] ["nodes"] (defScope s_text_of) := ⟨rfl, rfl, rfl, by decide +kernel, rfl, by decide +kernel, by decide +kernel⟩
abbrev s_bracketed : Stmt := topS 29
theorem sc_bracketed : FnScope ["kind", "parts", "inner"] ["kind", "parts"] (defScope s_bracketed) := ⟨rfl, rfl, rfl, by decide +kernel, rfl, by decide +kernel, by decide +kernel⟩
abbrev s_plain_text : Stmt := topS 30
theorem sc_plain_text : FnScope ["kind", "told"] ["kind", "told"] (defScope s_plain_text) := ⟨rfl, rfl, rfl, by decide +kernel, rfl, by decide +kernel, by decide +kernel⟩
abbrev s_nodes_in : Stmt := topS 31
theorem sc_nodes_in : FnScope ["text", "kinds", "counts", "around", "word", "kind", "told", "at"] ["text"] (defScope s_nodes_in) := ⟨rfl, rfl, rfl, by decide +kernel, rfl, by decide +kernel, by decide +kernel⟩
abbrev s__split : Stmt := topS 32
theorem sc__split : FnScope ["text", "spaced"] ["text"] (defScope s__split) := ⟨rfl, rfl, rfl, by decide +kernel, rfl, by decide +kernel, by decide +kernel⟩
abbrev s__plain_node : Stmt := topS 33
theorem sc__plain_node : FnScope ["word"] ["word"] (defScope s__plain_node) := ⟨rfl, rfl, rfl, by decide +kernel, rfl, by decide +kernel, by decide +kernel⟩
abbrev s_parts_of : Stmt := topS 36
theorem sc_parts_of : FnScope ["nodes", "found", "start", "end"] ["nodes"] (defScope s_parts_of) := ⟨rfl, rfl, rfl, by decide +kernel, rfl, by decide +kernel, by decide +kernel⟩
abbrev s_end_of : Stmt := topS 37
theorem sc_end_of : FnScope ["nodes", "start", "missing", "end", "kind", "told"] ["nodes", "start"] (defScope s_end_of) := ⟨rfl, rfl, rfl, by decide +kernel, rfl, by decide +kernel, by decide +kernel⟩
abbrev s_start_at : Stmt := topS 42
theorem sc_start_at : FnScope ["nodes", "place"] ["nodes", "place"] (defScope s_start_at) := ⟨rfl, rfl, rfl, by decide +kernel, rfl, by decide +kernel, by decide +kernel⟩
abbrev s__start_along : Stmt := topS 43
theorem sc__start_along : FnScope ["nodes", "path", "kinds", "start", "index", "kind", "told", "_"] ["nodes", "path", "kinds"] (defScope s__start_along) := ⟨rfl, rfl, rfl, by decide +kernel, rfl, by decide +kernel, by decide +kernel⟩
abbrev s_part_from : Stmt := topS 44
theorem sc_part_from : FnScope ["nodes", "start"] ["nodes", "start"] (defScope s_part_from) := ⟨rfl, rfl, rfl, by decide +kernel, rfl, by decide +kernel, by decide +kernel⟩
abbrev s_exchanged_from : Stmt := topS 45
theorem sc_exchanged_from : FnScope ["nodes", "start", "other"] ["nodes", "start", "other"] (defScope s_exchanged_from) := ⟨rfl, rfl, rfl, by decide +kernel, rfl, by decide +kernel, by decide +kernel⟩
abbrev s_surface_of : Stmt := topS 46
theorem sc_surface_of : FnScope ["nodes"] ["nodes"] (defScope s_surface_of) := ⟨rfl, rfl, rfl, by decide +kernel, rfl, by decide +kernel, by decide +kernel⟩
abbrev s__paths_along : Stmt := topS 47
theorem sc__paths_along : FnScope ["nodes", "kinds", "found", "paths", "start", "path", "kind", "told", "index"] ["nodes", "kinds"] (defScope s__paths_along) := ⟨rfl, rfl, rfl, by decide +kernel, rfl, by decide +kernel, by decide +kernel⟩
abbrev s_places_in : Stmt := topS 48
theorem sc_places_in : FnScope ["nodes", "kinds", "place", "start"] ["nodes", "kinds"] (defScope s_places_in) := ⟨rfl, rfl, rfl, by decide +kernel, rfl, by decide +kernel, by decide +kernel⟩
abbrev s_calls_in : Stmt := topS 49
theorem sc_calls_in : FnScope ["nodes", "hand", "place", "start", "index"] ["nodes", "hand"] (defScope s_calls_in) := ⟨rfl, rfl, rfl, by decide +kernel, rfl, by decide +kernel, by decide +kernel⟩
abbrev s_hand_in : Stmt := topS 50
theorem sc_hand_in : FnScope ["nodes", "value", "place", "index", "start", "kind", "told", "hand"] ["nodes", "value"] (defScope s_hand_in) := ⟨rfl, rfl, rfl, by decide +kernel, rfl, by decide +kernel, by decide +kernel⟩
abbrev s_called_in : Stmt := topS 51
theorem sc_called_in : FnScope ["nodes", "call", "place", "index", "start", "parts"] ["nodes", "call"] (defScope s_called_in) := ⟨rfl, rfl, rfl, by decide +kernel, rfl, by decide +kernel, by decide +kernel⟩
abbrev s__are_nodes : Stmt := topS 58
theorem sc__are_nodes : FnScope ["value", "node"] ["value"] (defScope s__are_nodes) := ⟨rfl, rfl, rfl, by decide +kernel, rfl, by decide +kernel, by decide +kernel⟩
abbrev s_Promise___init__ : Stmt := inClass (topS 62) 0
theorem sc_Promise___init__ : FnScope ["self", "nodes"] ["self", "nodes"] (defScope s_Promise___init__) := ⟨rfl, rfl, rfl, by decide +kernel, rfl, by decide +kernel, by decide +kernel⟩
abbrev s_Promise_read : Stmt := inClass (topS 62) 1
theorem sc_Promise_read : FnScope ["cls", "text", "nodes"] ["cls", "text"] (defScope s_Promise_read) := ⟨rfl, rfl, rfl, by decide +kernel, rfl, by decide +kernel, by decide +kernel⟩
abbrev s_Promise_nodes : Stmt := inClass (topS 62) 6
theorem sc_Promise_nodes : FnScope ["self"] ["self"] (defScope s_Promise_nodes) := ⟨rfl, rfl, rfl, by decide +kernel, rfl, by decide +kernel, by decide +kernel⟩
abbrev s_Promise___len__ : Stmt := inClass (topS 62) 22
theorem sc_Promise___len__ : FnScope ["self"] ["self"] (defScope s_Promise___len__) := ⟨rfl, rfl, rfl, by decide +kernel, rfl, by decide +kernel, by decide +kernel⟩
abbrev s_Promise___eq__ : Stmt := inClass (topS 62) 26
theorem sc_Promise___eq__ : FnScope ["self", "value"] ["self", "value"] (defScope s_Promise___eq__) := ⟨rfl, rfl, rfl, by decide +kernel, rfl, by decide +kernel, by decide +kernel⟩
abbrev s_Promise___str__ : Stmt := inClass (topS 62) 27
theorem sc_Promise___str__ : FnScope ["self"] ["self"] (defScope s_Promise___str__) := ⟨rfl, rfl, rfl, by decide +kernel, rfl, by decide +kernel, by decide +kernel⟩
abbrev s_check_promise : Stmt := topS 65
theorem sc_check_promise : FnScope ["value"] ["value"] (defScope s_check_promise) := ⟨rfl, rfl, rfl, by decide +kernel, rfl, by decide +kernel, by decide +kernel⟩
abbrev s_check_hand : Stmt := topS 66
theorem sc_check_hand : FnScope ["value"] ["value"] (defScope s_check_hand) := ⟨rfl, rfl, rfl, by decide +kernel, rfl, by decide +kernel, by decide +kernel⟩
abbrev s__hand_that_can : Stmt := topS 68
theorem sc__hand_that_can : FnScope ["nodes", "call", "hand"] ["nodes", "call"] (defScope s__hand_that_can) := ⟨rfl, rfl, rfl, by decide +kernel, rfl, by decide +kernel, by decide +kernel⟩
abbrev s_surface : Stmt := topS 69
theorem sc_surface : FnScope ["promise", "place", "_"] ["promise"] (defScope s_surface) := ⟨rfl, rfl, rfl, by decide +kernel, rfl, by decide +kernel, by decide +kernel⟩
abbrev s_calls : Stmt := topS 71
theorem sc_calls : FnScope ["promise", "hand"] ["promise", "hand"] (defScope s_calls) := ⟨rfl, rfl, rfl, by decide +kernel, rfl, by decide +kernel, by decide +kernel⟩
abbrev s_is_call : Stmt := topS 72
theorem sc_is_call : FnScope ["promise", "value"] ["promise", "value"] (defScope s_is_call) := ⟨rfl, rfl, rfl, by decide +kernel, rfl, by decide +kernel, by decide +kernel⟩
abbrev s_hand_of : Stmt := topS 73
theorem sc_hand_of : FnScope ["promise", "call"] ["promise", "call"] (defScope s_hand_of) := ⟨rfl, rfl, rfl, by decide +kernel, rfl, by decide +kernel, by decide +kernel⟩
abbrev s_called : Stmt := topS 74
theorem sc_called : FnScope ["promise", "call"] ["promise", "call"] (defScope s_called) := ⟨rfl, rfl, rfl, by decide +kernel, rfl, by decide +kernel, by decide +kernel⟩
abbrev s_Surface___init__ : Stmt := inClass (topS 75) 0
theorem sc_Surface___init__ : FnScope ["self", "promise"] ["self", "promise"] (defScope s_Surface___init__) := ⟨rfl, rfl, rfl, by decide +kernel, rfl, by decide +kernel, by decide +kernel⟩
abbrev s_Surface_behind : Stmt := inClass (topS 75) 6
theorem sc_Surface_behind : FnScope ["self", "call"] ["self", "call"] (defScope s_Surface_behind) := ⟨rfl, rfl, rfl, by decide +kernel, rfl, by decide +kernel, by decide +kernel⟩
abbrev s_Surface_moves : Stmt := inClass (topS 75) 7
theorem sc_Surface_moves : FnScope ["self", "hand", "call"] ["self", "hand"] (defScope s_Surface_moves) := ⟨rfl, rfl, rfl, by decide +kernel, rfl, by decide +kernel, by decide +kernel⟩
abbrev s_Surface___eq__ : Stmt := inClass (topS 75) 13
theorem sc_Surface___eq__ : FnScope ["self", "value"] ["self", "value"] (defScope s_Surface___eq__) := ⟨rfl, rfl, rfl, by decide +kernel, rfl, by decide +kernel, by decide +kernel⟩
abbrev s__law_dice : Stmt := topS 77
theorem sc__law_dice : FnScope ["script", "spot", "cell", "great", "blend"] ["script", "spot"] (defScope s__law_dice) := ⟨rfl, rfl, rfl, by decide +kernel, rfl, by decide +kernel, by decide +kernel⟩
abbrev s__law_roll : Stmt := topS 78
theorem sc__law_roll : FnScope ["dice", "many", "found", "one", "two"] ["dice", "many"] (defScope s__law_roll) := ⟨rfl, rfl, rfl, by decide +kernel, rfl, by decide +kernel, by decide +kernel⟩
abbrev s__law_pick : Stmt := topS 79
theorem sc__law_pick : FnScope ["dice", "items"] ["dice", "items"] (defScope s__law_pick) := ⟨rfl, rfl, rfl, by decide +kernel, rfl, by decide +kernel, by decide +kernel⟩
abbrev s__law_some : Stmt := topS 80
theorem sc__law_some : FnScope ["dice", "items", "size", "left", "turn"] ["dice", "items", "size"] (defScope s__law_some) := ⟨rfl, rfl, rfl, by decide +kernel, rfl, by decide +kernel, by decide +kernel⟩
abbrev s__law_is_leaf : Stmt := topS 81
theorem sc__law_is_leaf : FnScope ["plain"] ["plain"] (defScope s__law_is_leaf) := ⟨rfl, rfl, rfl, by decide +kernel, rfl, by decide +kernel, by decide +kernel⟩
abbrev s__law_leaf : Stmt := topS 82
theorem sc__law_leaf : FnScope ["dice", "words", "way"] ["dice", "words"] (defScope s__law_leaf) := ⟨rfl, rfl, rfl, by decide +kernel, rfl, by decide +kernel, by decide +kernel⟩
abbrev s__law_drawn : Stmt := topS 83
theorem sc__law_drawn : FnScope ["dice", "words", "most", "choices", "kind", "many", "left", "parts", "room", "at", "more", "share"] ["dice", "words", "most", "choices"] (defScope s__law_drawn) := ⟨rfl, rfl, rfl, by decide +kernel, rfl, by decide +kernel, by decide +kernel⟩
abbrev s__law_promise : Stmt := topS 84
theorem sc__law_promise : FnScope ["dice", "words", "word"] ["dice"] (defScope s__law_promise) := ⟨rfl, rfl, rfl, by decide +kernel, rfl, by decide +kernel, by decide +kernel⟩
abbrev s__law_known : Stmt := topS 85
theorem sc__law_known : FnScope ["dice", "a", "b", "c", "not_a", "not_b", "not_c", "some"] ["dice"] (defScope s__law_known) := ⟨rfl, rfl, rfl, by decide +kernel, rfl, by decide +kernel, by decide +kernel⟩
abbrev s__law_nodes : Stmt := topS 86
theorem sc__law_nodes : FnScope ["plain", "found", "part"] ["plain"] (defScope s__law_nodes) := ⟨rfl, rfl, rfl, by decide +kernel, rfl, by decide +kernel, by decide +kernel⟩
abbrev s__law_count : Stmt := topS 87
theorem sc__law_count : FnScope ["plain", "kinds", "node"] ["plain", "kinds"] (defScope s__law_count) := ⟨rfl, rfl, rfl, by decide +kernel, rfl, by decide +kernel, by decide +kernel⟩
abbrev s__law_made : Stmt := topS 88
theorem sc__law_made : FnScope ["plain"] ["plain"] (defScope s__law_made) := ⟨rfl, rfl, rfl, by decide +kernel, rfl, by decide +kernel, by decide +kernel⟩
abbrev s__law_calls : Stmt := topS 89
theorem sc__law_calls : FnScope ["plain", "hand", "at", "found", "inner", "call", "part", "behind"] ["plain"] (defScope s__law_calls) := ⟨rfl, rfl, rfl, by decide +kernel, rfl, by decide +kernel, by decide +kernel⟩
abbrev s__law_got : Stmt := topS 90
theorem sc__law_got : FnScope ["made", "call"] ["made", "call"] (defScope s__law_got) := ⟨rfl, rfl, rfl, by decide +kernel, rfl, by decide +kernel, by decide +kernel⟩
abbrev s__law_right : Stmt := topS 91
theorem sc__law_right : FnScope ["dice", "plain", "made", "rows", "hand", "call", "due", "told", "wrong", "odd", "value", "known", "one"] ["dice"] (defScope s__law_right) := ⟨rfl, rfl, rfl, by decide +kernel, rfl, by decide +kernel, by decide +kernel⟩
abbrev s_law : Stmt := topS 92
theorem sc_law : FnScope ["script", "spot", "dice", "turn", "twice", "told"] ["script"] (defScope s_law) := ⟨rfl, rfl, rfl, by decide +kernel, rfl, by decide +kernel, by decide +kernel⟩
/-- the names of built-ins that the text reads and has not taken -/
structure Txt (mg : Str → Option Value) : Prop where
  classmethod_ : mg "classmethod" = none
  property_ : mg "property" = none
  isinstance_ : mg "isinstance" = none
  list_ : mg "list" = none
  tuple_ : mg "tuple" = none
  dict_ : mg "dict" = none
  len_ : mg "len" = none
  reversed_ : mg "reversed" = none
  any_ : mg "any" = none
  all_ : mg "all" = none
  range_ : mg "range" = none
  bool_ : mg "bool" = none
  abs_ : mg "abs" = none
  str_ : mg "str" = none
  max_ : mg "max" = none
  sorted_ : mg "sorted" = none
  iter_ : mg "iter" = none
  int_ : mg "int" = none
  sum_ : mg "sum" = none
  min_ : mg "min" = none
  super_ : mg "super" = none
  repr_ : mg "repr" = none
end Eh
set_option Elab.async false
set_option linter.all false
set_option maxRecDepth 100000
namespace Eh
open PySem PySem.Spec PyProof.Rows L2
structure Cal (P : Program) (w : World) (K : PySem.W.Frag) (mg : Str → Option Value) (base : Heap) (k : Nat) (x : Str) (f : Addr) (fd : FuncData) (ps : List Str) (sp : Sp) : Prop where
  G : FnOk P w K mg base CX0 k f fd ps sp
  m : mg x = some (.ref f)
  k : PySem.W.keepIn K (.ref f) = true
  b : Binds K fd ps []
section
variable {X : Cx}
theorem op_powB : OpR X (binaryOp .Pow) (rI (fun i j => 0 ≤ j ∧ (Builtin.Int.intBits i : Int) * j ≤ 2 ^ 27) fun i j => .int (i ^ j.toNat)) :=
  opI fun _ _ _ _ _ _ _ hc q => pow_int hc.1 hc.2 q
end
/-- the list of the dice's three numbers stands at d -/
def D3 (H : Hp) (d : Addr) : Prop := ∃ g b c : Int, H d = some (.lst [.int g, .int b, .int c])
/-- from H to H' only the dice at d were turned, and new objects laid -/
structure Gr (d : Addr) (H H' : Hp) : Prop where
  dice : D3 H' d
  keep : ∀ a o, a ≠ d → H a = some o → H' a = some o
theorem Gr.refl {d : Addr} {H : Hp} (h : D3 H d) : Gr d H H := ⟨h, fun _ _ _ e => e⟩
theorem Gr.trans {d : Addr} {H H1 H2 : Hp} (a : Gr d H H1) (b : Gr d H1 H2) : Gr d H H2 := ⟨b.dice, fun p o n e => b.keep p o n (a.keep p o n e)⟩
theorem Gr.laid {d p : Addr} {H : Hp} {o : HO} (h : D3 H d) (n : H p = none) : Gr d H (upd H p o) := by
  obtain ⟨g, b, c, e⟩ := h
  exact ⟨⟨g, b, c, by rw [upd_ne (ne_of_none e n)]; exact e⟩, fun a u _ z => by rw [upd_ne (ne_of_none z n)]; exact z⟩
theorem D3.ne {d p : Addr} {H : Hp} (h : D3 H d) (n : H p = none) : p ≠ d := by
  obtain ⟨g, b, c, e⟩ := h
  exact (ne_of_none e n).symm
theorem Gr.seq {K : PySem.W.Frag} {d a : Addr} {H H' : Hp} {xs : List V} (r : Gr d H H') (n : a ≠ d) (h : SqL K H a xs) : SqL K H' a xs := by
  rcases h with (h | ⟨o, h⟩) | h
  · exact .inl (.inl (r.keep _ _ n h))
  · exact .inl (.inr ⟨o, r.keep _ _ n h⟩)
  · exact .inr h
theorem Gr.put {d l : Addr} {H H' : Hp} {o : HO} (r : Gr d H H') (n : H l = none) (m : l ≠ d) : Gr d H (upd H' l o) := by
  obtain ⟨g, b, c, e⟩ := r.dice
  exact ⟨⟨g, b, c, by rw [upd_ne m.symm]; exact e⟩, fun a u q z => by rw [upd_ne (ne_of_none z n)]; exact r.keep a u q z⟩
theorem Gr.free {d l : Addr} {H H' : Hp} (r : Gr d H H') (h : D3 H d) (n : H' l = none) : H l = none := by
  cases q : H l with
  | none => rfl
  | some o =>
    by_cases e : l = d
    · obtain ⟨g, b, c, z⟩ := r.dice
      rw [e, z] at n
      cases n
    · rw [r.keep l o e q] at n
      cases n
section
variable {P : Program} {w : World} {K : PySem.W.Frag} {mg : Str → Option Value} {base : Heap}
def spRoll : Sp := fun vs H Q _ => ∃ (d : Addr) (many : Int), vs = [.ref d, .int many] ∧ D3 H d ∧ 0 < many ∧ many < 1073741824 ∧
  ∀ (r : Int) H', 0 ≤ r → r < many → D3 H' d → (∀ a, a ≠ d → H' a = H a) → Q (.int r) H'
theorem fmod_in {i m : Int} (h : 0 < m) : 0 ≤ i.fmod m ∧ i.fmod m < m := by
  rw [Int.fmod_eq_emod_of_nonneg i (by omega)]
  exact ⟨Int.emod_nonneg i (by omega), Int.emod_lt_of_pos i h⟩
theorem in64 {x : Int} (h : 0 ≤ x ∧ x < 2305843009213693951) : -(2 ^ 64) < x ∧ x < 2 ^ 64 := by omega
theorem in64' {x : Int} (h : 0 ≤ x ∧ x < 2305843009213693807) : -(2 ^ 64) < x ∧ x < 2 ^ 64 := by omega
theorem m1N : (2305843009213693951 : Int) ≠ 0 := by decide
theorem m2N : (2305843009213693807 : Int) ≠ 0 := by decide
theorem m3N : (2305843009213693537 : Int) ≠ 0 := by decide
theorem d8N : (8192 : Int) ≠ 0 ∧ (8192 : Int).natAbs < 1073741824 := by decide
theorem ok_roll {f : Addr} {fd : FuncData} (F : Fun K "_law_roll" "_law_roll" s__law_roll f fd) (T : Txt mg) : FnOk P w K mg base CX0 1 f fd ["dice", "many"] spRoll := by
  refine F.ok sc__law_roll (fun vs H Q E h => ?_) (fun cdv A outer s H vs Q E hr h => ?_)
  · obtain ⟨d, m, rfl, _⟩ := h
    rfl
  · obtain ⟨d, m, rfl, ⟨g, b, c, eH⟩, m0, m1, q⟩ := h
    refine ⟨_, (pss_cons (ps_if (pt_cmpR op_gt (pe_ix ix_list (pv 0) pe_int (fun _ _ => rfl)) pe_int (nomark _))
  (pss_cons (ps_set (i := 2) sc__law_roll.nd rfl (.inl rfl) (pe_op op_modN (pe_callTy call_int1 (by rfl) T.int_ (by decide +kernel) (pa_cons (pe_ix ix_list (pv 0) pe_int (fun _ _ => rfl)) pa_nil)) (pv 1)))
  (pss_cons (ps_asg (pe_op op_fdivN (pe_ix ix_list (pv 0) pe_int (fun _ _ => rfl)) (pv 1)) (pg_sub (pv 0) pe_int set_list))
  (pss_one (ps_ret (pv 2)))))
  pss_nil)
  (pss_cons (ps_asg (pe_op op_add (pe_ix ix_list (pv 0) pe_int (fun _ _ => rfl)) pe_int) (pg_sub (pv 0) pe_int set_list))
  (pss_cons (ps_set (i := 3) sc__law_roll.nd rfl (.inl rfl) (pe_op op_modN (pe_callTy call_int1 (by rfl) T.int_ (by decide +kernel) (pa_cons (pe_op op_add (pe_ix ix_list (pv 0) pe_int (fun _ _ => rfl)) (pe_op op_mul pe_int (pe_ix ix_list (pv 0) pe_int (fun _ _ => rfl)))) pa_nil)) pe_int))
  (pss_cons (ps_set (i := 4) sc__law_roll.nd rfl (.inl rfl) (pe_op op_add (pe_op op_mul (pe_op op_modN (pe_callTy call_int1 (by rfl) T.int_ (by decide +kernel) (pa_cons (pe_op op_mul (pv 3) (pv 3)) pa_nil)) pe_int) (pv 3)) (pe_op op_mul pe_int (pe_ix ix_list (pv 0) pe_int (fun _ _ => rfl)))))
  (pss_cons (ps_set (i := 4) sc__law_roll.nd rfl (.inl rfl) (pe_op op_modN (pe_callTy call_int1 (by rfl) T.int_ (by decide +kernel) (pa_cons (pv 4) pa_nil)) pe_int))
  (pss_one (ps_ret (pe_op op_modN (pe_callTy call_int1 (by rfl) T.int_ (by decide +kernel) (pa_cons (pe_op op_fdivN (pv 4) pe_int) pa_nil)) (pv 1))))))))), ?_⟩
    refine ⟨_, rfl, d, _, 0, _, rfl, rfl, SqL.of eH, atI_nat (j := 0) rfl, g, 0, rfl, rfl, _, rfl, ite2 (fun _ => ?_) (fun _ => ?_)⟩
    · refine ⟨_, rfl, d, _, 0, _, rfl, rfl, SqL.of eH, atI_nat (j := 0) rfl, .inl ⟨g, rfl, ?_⟩⟩
      refine ⟨_, rfl, g, m, rfl, rfl, by omega, ?_⟩
      refine ⟨_, rfl, d, _, 0, _, rfl, rfl, SqL.of eH, atI_nat (j := 0) rfl, _, rfl, g, m, rfl, rfl, ⟨by omega, by omega⟩, ?_⟩
      refine ⟨_, rfl, d, _, 0, 0, rfl, rfl, eH, rfl, ?_⟩
      refine ⟨_, rfl, q _ _ (fmod_in m0).1 (fmod_in m0).2 ⟨_, b, c, upd_same⟩ fun a n => upd_ne n⟩
    · refine ⟨_, rfl, d, _, 2, _, rfl, rfl, SqL.of eH, atI_nat (j := 2) rfl, c, 1, rfl, rfl, ?_⟩
      refine ⟨_, rfl, d, _, 2, 2, rfl, rfl, eH, rfl, ?_⟩
      have e1 : (upd H d (.lst [.int g, .int b, .int (c + 1)])) d = some (.lst [.int g, .int b, .int (c + 1)]) := upd_same
      refine ⟨_, rfl, d, _, 1, _, rfl, rfl, SqL.of e1, atI_nat (j := 1) rfl, _, rfl, d, _, 2, _, rfl, rfl, SqL.of e1, atI_nat (j := 2) rfl, _, _, rfl, rfl, .inl ⟨by decide, by decide⟩, _, _, rfl, rfl, .inl ⟨_, rfl, ?_⟩⟩
      refine ⟨_, _, rfl, rfl, m1N, ?_⟩
      refine ⟨_, rfl, _, rfl, _, _, rfl, rfl, .inl (in64 (fmod_in (by decide))), .inl ⟨_, rfl, ?_⟩⟩
      refine ⟨_, _, rfl, rfl, m2N, ?_⟩
      refine ⟨_, rfl, _, _, rfl, rfl, .inl (in64' (fmod_in (by decide))), ?_⟩
      refine ⟨_, rfl, d, _, 2, _, rfl, rfl, SqL.of e1, atI_nat (j := 2) rfl, _, _, rfl, rfl, .inl ⟨by decide, by decide⟩, _, _, rfl, rfl, ?_⟩
      refine ⟨_, rfl, .inl ⟨_, rfl, _, _, rfl, rfl, m3N, ?_⟩⟩
      refine ⟨_, rfl, _, _, rfl, rfl, d8N, .inl ⟨_, rfl, _, rfl, _, m, rfl, rfl, by omega, ?_⟩⟩
      exact q _ _ (fmod_in m0).1 (fmod_in m0).2 ⟨g, b, _, upd_same⟩ fun a n => upd_ne n
end
end Eh
set_option Elab.async false
set_option linter.all false
set_option maxRecDepth 100000
namespace Eh
open PySem PySem.Spec PyProof.Rows L2
section
variable {X : Cx} {K : PySem.W.Frag}
theorem ixL (h : X.K = K) : IxR X (rIxL K) := by subst h; exact ix_list
theorem ixT (h : X.K = K) : IxR X (rIxT K) := by subst h; exact ix_tup
theorem slL (h : X.K = K) : SlR X (rSlL K) := by subst h; exact sl_list
theorem inQ (h : X.K = K) : OpR X (compareOp .In) (rIn K false) := by subst h; exact op_in_seq
theorem eqD (h : X.K = K) (hu : X.A.units + 64 < cLine) : OpR X (compareOp .Eq) (rEqD K) := by subst h; exact op_eqD hu
theorem neD (h : X.K = K) (hu : X.A.units + 64 < cLine) : OpR X (compareOp .NotEq) (rNeD K) := by subst h; exact op_neD hu
def rLen (K : PySem.W.Frag) : List V → Hp → VK → Prop := fun xs H Q => (∃ p ys, xs = [.ref p] ∧ (SqL K H p ys ∨ SqT K H p ys) ∧ Q (.int ys.length) H) ∨ (∃ z : Str, xs = [.str z] ∧ z.length ≤ sizeLine ∧ Q (.int z.length) H)
theorem lenQ (h : X.K = K) : CallR X (.builtin "len") (rLen K) := by subst h; exact call_len_seq.or call_len_str
def rLstOf (K : PySem.W.Frag) : List V → Hp → VK → Prop := fun xs H Q => ∃ p ys, xs = [.ref p] ∧ (SqL K H p ys ∨ SqT K H p ys) ∧ ∀ l, H l = none → Q (.ref l) (upd H l (.lst ys))
theorem lstOf (h : X.K = K) : CallR X (.type "list") (rLstOf K) := by subst h; exact call_list_of
theorem isiQ (h : X.K = K) : CallR X (.builtin "isinstance") (rIsi K) := by subst h; exact call_isi
theorem allQ (h : X.K = K) (hc : X.calm = true) : CallR X (.builtin "all") (rAll K) := by subst h; exact cr_all hc
theorem bmK {e : Expr} {T : String} {r : V → List V → Hp → VK → Prop} {to : TE} {t : TA} (h : X.K = K) (p : PE X e (tBM X.K T r to t)) : PE X e (tBM K T r to t) := by subst h; exact p
theorem bm0K {e : Expr} {T : String} {r : V → List V → Hp → VK → Prop} {to : TE} (h : X.K = K) (p : PE X e (tBM0 X.K T r to)) : PE X e (tBM0 K T r to) := by subst h; exact p
theorem piL {tg l : Expr} {tl : TE} (h : X.K = K) (hl : PE X l tl) : PI X tg l (iList K tl) := by subst h; exact pi_list hl
end
end Eh
set_option Elab.async false
set_option linter.all false
set_option maxRecDepth 100000
namespace Eh
open PySem PySem.Spec PyProof.Rows L2
theorem small {n : Nat} (h : n < 1000000) : n < sizeLine := Nat.lt_of_lt_of_le h (by decide)
theorem wipe1 {σ : L2.St} {i : Nat} {x : Option V} : wipe ((wipe σ [i]).set i x) [i] = wipe σ [i] := by
  show ((σ.set i none).set i x).set i none = σ.set i none
  rw [List.set_set, List.set_set]
/-- ahead of turn j: what is made stands at D, and R -/
def LcP (R : Nat → List V → Hp → Prop) (D : Addr) (j : Nat) (H : Hp) : Prop := ∃ acc, acc.length ≤ j ∧ H D = some (.lst acc) ∧ R j acc H
/-- behind the element of turn j -/
def LcK (R : Nat → List V → Hp → Prop) (D : Addr) (j : Nat) : VK := fun y H4 => ∃ acc, H4 D = some (.lst acc) ∧ acc.length < sizeLine ∧ LcP R D (j + 1) (upd H4 D (.lst (acc ++ [y])))
theorem LcK.mk {R : Nat → List V → Hp → Prop} {D : Addr} {j : Nat} {acc : List V} {y : V} {H : Hp} (hl : acc.length ≤ j) (hj : j < 1000000) (e : H D = some (.lst acc)) (r : R (j + 1) (acc ++ [y]) (upd H D (.lst (acc ++ [y])))) : LcK R D j y H :=
  ⟨acc, e, small (by omega), acc ++ [y], by rw [List.length_append]; show acc.length + 1 ≤ j + 1; omega, upd_same, r⟩
/-- what a comprehension's reading asks behind its new list -/
def LcGoal (J : It) (g : TG) (tt : TT) (te : TE) (vs : List Nat) (σ : L2.St) (H1 : Hp) (D : Addr) (Qd : Hp → Prop) : Prop :=
  ∃ W : Nat → Nat → Hp → Prop, (∃ m, W 0 m (upd H1 D (.lst []))) ∧ ∀ i m H, W i m H → (J.stop i H ∧ Qd H) ∨ (J.go i H ∧ ∃ Nx : Hp → Prop, (∀ H', Nx H' → ∃ m', m' < m ∧ W (i + 1) m' H') ∧
    ∀ x H', J.yld i H x H' → g x (wipe σ vs) H' fun σ2 H2 => wipe σ2 vs = wipe σ vs ∧ tt σ2 H2 fun b H3 => if b = true then te σ2 H3 fun y H4 => ∃ acc, H4 D = some (.lst acc) ∧ acc.length < sizeLine ∧ Nx (upd H4 D (.lst (acc ++ [y]))) else Nx H3)
theorem yesT {τ : L2.St} {H : Hp} {A B : Hp → Prop} (h : A H) : tYes τ H (fun b H3 => if b = true then A H3 else B H3) := by
  show (if true = true then A H else B H)
  rw [if_pos rfl]
  exact h
section
variable {te : TE} {tt : TT} {σ : L2.St} {H1 : Hp} {D : Addr} {Qd : Hp → Prop} {i : Nat}
theorem lc_any {J : It} {n : Nat} (R : Nat → List V → Hp → Prop) (h0 : R 0 [] (upd H1 D (.lst [])))
    (hgo : ∀ j acc H, j < n → acc.length ≤ j → H D = some (.lst acc) → R j acc H → J.go j H ∧ ∀ x H', J.yld j H x H' → H' = H ∧
      tt ((wipe σ [i]).set i (some x)) H fun b H3 => if b = true then te ((wipe σ [i]).set i (some x)) H3 (LcK R D j) else LcP R D (j + 1) H3)
    (hstop : ∀ acc H, acc.length ≤ n → H D = some (.lst acc) → R n acc H → J.stop n H ∧ Qd H) : LcGoal J (gName i) tt te [i] σ H1 D Qd := by
  refine ⟨fun j m H => m = n - j ∧ j ≤ n ∧ LcP R D j H, ⟨n, by omega, Nat.zero_le _, [], Nat.le_refl _, upd_same, h0⟩, ?_⟩
  rintro j m H ⟨rfl, hj, acc, hl, e, r⟩
  by_cases hlt : j < n
  · obtain ⟨g1, g2⟩ := hgo j acc H hlt hl e r
    refine .inr ⟨g1, LcP R D (j + 1), fun H' q => ⟨n - (j + 1), by omega, rfl, hlt, q⟩, fun x H' y => ?_⟩
    obtain ⟨eH, k⟩ := g2 x H' y
    subst eH
    exact ⟨wipe1, k⟩
  · have ej : j = n := by omega
    subst ej
    exact .inl (hstop acc H hl e r)
/-- over a range, no test -/
theorem lcR {lo : Int} {n : Nat} (R : Nat → List V → Hp → Prop) (h0 : R 0 [] (upd H1 D (.lst [])))
    (hs : ∀ j acc H, j < n → acc.length ≤ j → H D = some (.lst acc) → R j acc H → te ((wipe σ [i]).set i (some (.int (lo + j)))) H (LcK R D j))
    (hd : ∀ acc H, acc.length ≤ n → H D = some (.lst acc) → R n acc H → Qd H) : LcGoal (Itr lo n) (gName i) tYes te [i] σ H1 D Qd :=
  lc_any R h0 (fun j acc H hj hl e r => ⟨hj, fun x H' y => ⟨y.1, by
    rw [show x = .int (lo + j) from y.2]
    exact hs j acc H hj hl e r⟩⟩) fun acc H hl e r => ⟨Nat.le_refl _, hd acc H hl e r⟩
/-- over a text, no test; with one -/
theorem lcS {z : Str} (R : Nat → List V → Hp → Prop) (h0 : R 0 [] (upd H1 D (.lst [])))
    (hs : ∀ j c acc H, z.cps[j]? = some c → acc.length ≤ j → H D = some (.lst acc) → R j acc H →
      tt ((wipe σ [i]).set i (some (.str ⟨#[c]⟩))) H fun b H3 => if b = true then te ((wipe σ [i]).set i (some (.str ⟨#[c]⟩))) H3 (LcK R D j) else LcP R D (j + 1) H3)
    (hd : ∀ acc H, acc.length ≤ z.cps.size → H D = some (.lst acc) → R z.cps.size acc H → Qd H) : LcGoal (Its z) (gName i) tt te [i] σ H1 D Qd :=
  lc_any R h0 (fun j acc H hj hl e r => ⟨hj, fun x H' y => by
    obtain ⟨y1, c, hc, rfl⟩ := y
    exact ⟨y1, hs j c acc H hc hl e r⟩⟩) fun acc H hl e r => ⟨Nat.le_refl _, hd acc H hl e r⟩
/-- over a list that stays -/
theorem lcL {K : PySem.W.Frag} {a : Addr} {xs : List V} (R : Nat → List V → Hp → Prop) (h0 : R 0 [] (upd H1 D (.lst []))) (hl : ∀ j acc H, R j acc H → SqL K H a xs)
    (hs : ∀ j x acc H, xs[j]? = some x → acc.length ≤ j → H D = some (.lst acc) → R j acc H →
      tt ((wipe σ [i]).set i (some x)) H fun b H3 => if b = true then te ((wipe σ [i]).set i (some x)) H3 (LcK R D j) else LcP R D (j + 1) H3)
    (hd : ∀ acc H, acc.length ≤ xs.length → H D = some (.lst acc) → R xs.length acc H → Qd H) : LcGoal (Itl K a) (gName i) tt te [i] σ H1 D Qd :=
  lc_any R h0 (fun j acc H hj hl' e r => ⟨⟨xs, xs[j], hl _ _ _ r, List.getElem?_eq_getElem hj⟩, fun x H' y => ⟨y.1, hs j x acc H (y.2 xs (hl _ _ _ r)) hl' e r⟩⟩)
    fun acc H hl' e r => ⟨⟨xs, hl _ _ _ r, Nat.le_refl _⟩, hd acc H hl' e r⟩
/-- over a tuple that stays -/
theorem lcT {K : PySem.W.Frag} {a : Addr} {xs : List V} (R : Nat → List V → Hp → Prop) (h0 : R 0 [] (upd H1 D (.lst []))) (hl : ∀ j acc H, R j acc H → SqT K H a xs)
    (hs : ∀ j x acc H, xs[j]? = some x → acc.length ≤ j → H D = some (.lst acc) → R j acc H →
      tt ((wipe σ [i]).set i (some x)) H fun b H3 => if b = true then te ((wipe σ [i]).set i (some x)) H3 (LcK R D j) else LcP R D (j + 1) H3)
    (hd : ∀ acc H, acc.length ≤ xs.length → H D = some (.lst acc) → R xs.length acc H → Qd H) : LcGoal (Itt K a) (gName i) tt te [i] σ H1 D Qd :=
  lc_any R h0 (fun j acc H hj hl' e r => ⟨⟨xs, xs[j], hl _ _ _ r, List.getElem?_eq_getElem hj⟩, fun x H' y => ⟨y.1, hs j x acc H (y.2 xs (hl _ _ _ r)) hl' e r⟩⟩)
    fun acc H hl' e r => ⟨⟨xs, hl _ _ _ r, Nat.le_refl _⟩, hd acc H hl' e r⟩
end
end Eh
set_option Elab.async false
set_option linter.all false
set_option maxRecDepth 100000
namespace Eh
open PySem PySem.Spec PyProof.Rows L2
section
variable {P : Program} {w : World} {K : PySem.W.Frag} {mg : Str → Option Value} {base : Heap}
theorem seq_off {d a : Addr} {H H' : Hp} {xs : List V} (n : a ≠ d) (k : ∀ b, b ≠ d → H' b = H b) (h : SqL K H a xs) : SqL K H' a xs := by
  rcases h with (h | ⟨o, h⟩) | h
  · exact .inl (.inl (by rw [k a n]; exact h))
  · exact .inl (.inr ⟨o, by rw [k a n]; exact h⟩)
  · exact .inr h
def spPick (K : PySem.W.Frag) : Sp := fun vs H Q _ => ∃ (d a : Addr) (xs : List V), vs = [.ref d, .ref a] ∧ D3 H d ∧ SqL K H a xs ∧ a ≠ d ∧ 0 < xs.length ∧ xs.length < 1000000 ∧
  ∀ x H', x ∈ xs → D3 H' d → (∀ b, b ≠ d → H' b = H b) → Q x H'
theorem at_in {xs : List V} {r : Int} (h0 : 0 ≤ r) (h1 : r < xs.length) : ∃ x, atI xs r = some x ∧ x ∈ xs := by
  have h : r.toNat < xs.length := by omega
  refine ⟨xs[r.toNat], ?_, List.getElem_mem h⟩
  have e := atI_nat (xs := xs) (j := r.toNat) (List.getElem?_eq_getElem h)
  rwa [Int.toNat_of_nonneg h0] at e
theorem ok_pick {f fR : Addr} {fd fdR : FuncData} (F : Fun K "_law_pick" "_law_pick" s__law_pick f fd) (T : Txt mg) (C__law_roll : Cal P w K mg base 1 "_law_roll" fR fdR ["dice", "many"] spRoll) :
    FnOk P w K mg base CX0 2 f fd ["dice", "items"] (spPick K) := by
  refine F.ok sc__law_pick (fun vs H Q E h => ?_) (fun cdv A outer s H vs Q E hr h => ?_)
  · obtain ⟨d, a, xs, rfl, _⟩ := h
    rfl
  · obtain ⟨d, a, xs, rfl, D, hS, hn, h0, h1, q⟩ := h
    refine ⟨_, (pss_one (ps_ret (pe_ix (ixL (K := K) rfl) (pv 1) (pe_call C__law_roll.G hr (by rfl) C__law_roll.m C__law_roll.k C__law_roll.b .nil pass0 (pa_cons (pv 0) (pa_cons (pe_callB (lenQ (K := K) rfl) (by rfl) T.len_ (by decide +kernel) (pa_cons (pv 1) pa_nil)) pa_nil))) (fun _ _ => rfl)))), ?_⟩
    refine ⟨_, rfl, _, rfl, _, rfl, (.inl ⟨a, xs, rfl, .inl hS, d, _, rfl, D, by omega, by omega, fun r H' r0 r1 D' k => ?_⟩)⟩
    obtain ⟨x, e, hx⟩ := at_in r0 r1
    exact ⟨a, xs, r, x, rfl, rfl, seq_off hn k hS, e, q x H' hx D' k⟩
end
end Eh
set_option Elab.async false
set_option linter.all false
set_option maxRecDepth 100000
namespace Eh
open PySem PySem.Spec PyProof.Rows L2
section
variable {P : Program} {w : World} {K : PySem.W.Frag} {mg : Str → Option Value} {base : Heap}
def spDice (K : PySem.W.Frag) : Sp := fun vs H Q _ => ∃ (a : Addr) (ns : List Int) (k : Nat), vs = [.ref a, .int k] ∧ SqL K H a (ns.map V.int) ∧
  ∀ d H', Same H H' → H d = none → D3 H' d → Q (.ref d) H'
theorem p60 : (0 : Int) ≤ 60 ∧ (60 : Int) ≤ 1000000 ∧ (10 : Int).natAbs < 2 ^ 64 := by decide
theorem p18 : (0 : Int) ≤ 18 ∧ (18 : Int) ≤ 1000000 ∧ (10 : Int).natAbs < 2 ^ 64 := by decide
theorem p600 : (0 : Int) ≤ 10 ∧ (Builtin.Int.intBits ((10 : Int) ^ (60 : Int).toNat) : Int) * 10 ≤ 2 ^ 27 := by decide +kernel
theorem n600 : ((10 : Int) ^ (60 : Int).toNat) ^ (10 : Int).toNat ≠ 0 := by decide +kernel
theorem mulR {i j : Int} (h : -(2 ^ 64) < j ∧ j < 2 ^ 64) : CMul i j := .inr h
theorem mulL {i j : Int} (h : -(2 ^ 64) < i ∧ i < 2 ^ 64) : CMul i j := .inl h
theorem same_new {H : Hp} {p : Addr} {o : HO} (h : H p = none) : Same H (upd H p o) := fun b x e => by
  rw [upd_ne (ne_of_none e h)]
  exact e
theorem lenOk (n : Nat) {xs : List V} (e : xs.length = n := by rfl) (h : n < 1000000 := by decide) : xs.length ≤ sizeLine := by
  rw [e]
  exact Nat.le_of_lt (small h)
theorem ok_dice {f : Addr} {fd : FuncData} (F : Fun K "_law_dice" "_law_dice" s__law_dice f fd) (T : Txt mg) : FnOk P w K mg base CX0 1 f fd ["script", "spot"] (spDice K) := by
  refine F.ok sc__law_dice (fun vs H Q E h => ?_) (fun cdv A outer s H vs Q E hr h => ?_)
  · obtain ⟨a, ns, k, rfl, _⟩ := h
    rfl
  · obtain ⟨a, ns, k, rfl, hS, q⟩ := h
    refine ⟨_, (pss_cons (ps_set (i := 2) sc__law_dice.nd rfl (.inl rfl) (pe_op op_add (pe_op op_mul pe_int (pv 1)) pe_int))
  (pss_cons (ps_if (pt_cmpR op_lt (pv 1) (pe_callB (lenQ (K := K) rfl) (by rfl) T.len_ (by decide +kernel) (pa_cons (pv 0) pa_nil)) (nomark _))
  (pss_one (ps_set (i := 2) sc__law_dice.nd rfl (.inl rfl) (pe_ix (ixL (K := K) rfl) (pv 0) (pv 1) (fun _ _ => rfl))))
  pss_nil)
  (pss_cons (ps_set (i := 3) sc__law_dice.nd rfl (.inl rfl) (pe_op op_modN (pe_callTy call_int1 (by rfl) T.int_ (by decide +kernel) (pa_cons (pe_callB call_abs (by rfl) T.abs_ (by decide +kernel) (pa_cons (pv 2) pa_nil)) pa_nil)) (pe_op op_powB (pe_op op_pow pe_int pe_int) pe_int)))
  (pss_cons (ps_set (i := 4) sc__law_dice.nd rfl (.inl rfl) (pe_op op_add (pe_op op_add (pe_op op_add (pe_op op_mul (pe_op op_modN (pe_callTy call_int1 (by rfl) T.int_ (by decide +kernel) (pa_cons (pv 3) pa_nil)) pe_int) pe_int) (pe_op op_mul pe_int (pv 1))) (pe_op op_mul pe_int (pe_callTy call_int1 (by rfl) T.int_ (by decide +kernel) (pa_cons (pe_cmpR op_lt (pv 2) pe_int (nomark _)) pa_nil)))) pe_int))
  (pss_one (ps_ret (pe_lst (pa_cons (pe_callB (call_max2 (by rfl)) (by rfl) T.max_ (by decide +kernel) (pa_cons pe_int (pa_cons (pe_op op_sub (pv 3) (pe_op op_pow pe_int pe_int)) pa_nil))) (pa_cons (pe_op op_modN (pe_callTy call_int1 (by rfl) T.int_ (by decide +kernel) (pa_cons (pv 4) pa_nil)) pe_int) (pa_cons pe_int pa_nil)))))))))), ?_⟩
    refine ⟨_, rfl, _, _, rfl, rfl, mulL (by decide), _, _, rfl, rfl, ?_⟩
    refine ⟨_, rfl, _, rfl, .inl ⟨a, _, rfl, .inl hS, _, _, rfl, rfl, _, rfl, ite2 (fun hk => ?A) (fun _ => ?B)⟩⟩
    case' A =>
      have hk : (k : Int) < ((ns.map V.int).length : Int) := of_decide_eq_true hk
      have hk' : k < ns.length := by rw [List.length_map] at hk; omega
      refine ⟨_, rfl, _, rfl, a, _, k, .int ns[k], rfl, rfl, hS, atI_nat (by rw [List.getElem?_map, List.getElem?_eq_getElem hk']; rfl), ?_⟩
    all_goals
      refine ⟨_, rfl, _, rfl, .inl ⟨_, rfl, _, _, rfl, rfl, p60, _, _, rfl, rfl, p600, _, _, rfl, rfl, n600, ?_⟩⟩
      refine ⟨_, rfl, .inl ⟨_, rfl, _, _, rfl, rfl, m3N, _, _, rfl, rfl, mulR (by decide), _, rfl, _, _, rfl, rfl, mulL (by decide), _, _, rfl, rfl, _, rfl, _, _, rfl, rfl, .inr ⟨_, rfl, _, _, rfl, rfl, mulL (by decide), _, _, rfl, rfl, _, _, rfl, rfl, ?_⟩⟩⟩
      refine ⟨_, rfl, _, _, rfl, rfl, p18, _, _, rfl, rfl, _, _, rfl, _, rfl, .inl ⟨_, rfl, _, _, rfl, rfl, m3N, lenOk 3, fun l nl => ?_⟩⟩
      exact q l _ (same_new nl) nl ⟨_, _, _, upd_same⟩
end
end Eh
set_option Elab.async false
set_option linter.all false
set_option maxRecDepth 100000
namespace Eh
open PySem PySem.SeqAt
theorem dictNoStr (l : Addr) (dd : Option Addr) (es : Array DictEntry) (n : Nat) (sl : Array (Option Value)) (b : Str) (u : Tok) :
    Meets (Builtin.«dict.__eq__» ⟨[.ref l, .str b u], []⟩) (fun _ R s => s.heap.get? l = some { cls := .type "dict", dict := dd, data := .dict es n, slots := sl } ∧ R (.ok (.ret .notImplemented)) s) :=
  .of_wp fun prog w A R s h => by
    obtain ⟨hp, g, d, tk, os⟩ := s
    obtain ⟨hl, h⟩ := h
    have f1 := PySem.F.sub_str_dict
    wp_walk using wpAny_loadPart' hl
    exact ⟨_, rfl, h⟩
theorem strNoDict (l : Addr) (dd : Option Addr) (es : Array DictEntry) (n : Nat) (sl : Array (Option Value)) (b : Str) (u : Tok) :
    Meets (Builtin.«str.__eq__» ⟨[.str b u, .ref l], []⟩) (fun _ R s => s.heap.get? l = some { cls := .type "dict", dict := dd, data := .dict es n, slots := sl } ∧ R (.ok (.ret .notImplemented)) s) :=
  .of_wp fun prog w A R s h => by
    obtain ⟨hp, g, d, tk, os⟩ := s
    obtain ⟨hl, h⟩ := h
    wp_walk using wpAny_loadPart' hl, wpAny_load hl
    exact ⟨_, rfl, h⟩
section
variable {A : Around} {s : Shared}
theorem rcStrDict {l : Addr} {dd : Option Addr} {es : Array DictEntry} {n : Nat} {sl : Array (Option Value)} (b : Str) (u : Tok) (ho : s.heap.get? l = some { cls := .type "dict", dict := dd, data := .dict es n, slots := sl }) (hu : A.units < cLine) :
    RcAt A s (.str b u) (.ref l) false := fun prog w E Q h =>
  rc_eq_decline_or (k := false) (typeIs_str s b u) ⟨_, ho, rfl⟩ (by decide) PySem.F.sub_dict_str PySem.F.slot_str_eq PySem.F.slot_dict_eq_refl
    (fun _ hq => call_meets PySem.F.slot_str_eq (typeIs_str s b u) PySem.F.entry_str_eq (PySem.F.args_str_eq_2 _ _) (strNoDict l dd es n sl b u) ⟨ho, hq⟩)
    (fun _ hq => call_meets PySem.F.slot_dict_eq_refl ⟨_, ho, rfl⟩ PySem.F.entry_dict_eq (PySem.F.args_dict_eq_2 _ _) (dictNoStr l dd es n sl b u) ⟨ho, hq⟩)
    (fun _ hq => wpAny_of_eq (rfl : isSame (.str b u) (.ref l) = pure false) hq) (.inr hu) h
theorem eqStrDict {l : Addr} {dd : Option Addr} {es : Array DictEntry} {n : Nat} {sl : Array (Option Value)} (b : Str) (u : Tok) (ho : s.heap.get? l = some { cls := .type "dict", dict := dd, data := .dict es n, slots := sl }) (hu : A.units < cLine) :
    EqAt A s (.str b u) (.ref l) false := fun prog w E Q h => by
  unfold eqBool
  exact wpAny_holding (wpAny_ite_split (fun z => absurd (eq_of_beq z) nofun) fun _ => wpAny_bind (rcStrDict b u ho hu prog w E _ (wpAny_truthy_bool h)))
end
end Eh
namespace Eh
open PySem PySem.Spec PyProof.Rows L2
/-- what may stand on the left of `in` here: flat, or a list, a tuple, a dict -/
def Sorted5 (H : Hp) (x : V) : Prop := flatV x = true ∨ ∃ a, x = .ref a ∧ ((∃ xs, H a = some (.tup xs)) ∨ (∃ xs, H a = some (.lst xs)) ∨ ∃ kvs, H a = some (.dK kvs))
def rInS (K : PySem.W.Frag) : R2 := fun x y H Q => ∃ (p : Addr) (ws : List Str), y = .ref p ∧ SqT K H p (ws.map V.str) ∧ Sorted5 H x ∧ Q (.bl (inV x (ws.map V.str))) H
theorem flat_strs (ws : List Str) : (ws.map V.str).all flatV = true := by
  rw [List.all_eq_true]
  intro x hx
  obtain ⟨z, _, rfl⟩ := List.mem_map.mp hx
  rfl
theorem strs_only : ∀ {ws : List Str} {us : List Value}, Vals (ws.map V.str) us → ∀ u ∈ us, ∃ z t, u = .str z t
  | [], _, .nil, _, h => by cases h
  | z :: ws, _, .cons r t, u, h => by
    rcases List.mem_cons.mp h with rfl | h
    · obtain ⟨t, e⟩ := r
      exact ⟨z, t, e⟩
    · exact strs_only t u h
theorem inV_ref {a : Addr} (ws : List Str) : inV (.ref a) (ws.map V.str) = false := by
  unfold inV
  rw [List.any_map, List.any_eq_false]
  intro z _
  exact fun h => by cases h
theorem inS {X : Cx} {K : PySem.W.Frag} (hK : X.K = K) (hu : X.A.units + 1 < cLine) : OpR X (compareOp .In) (rInS K) := by
  subst hK
  intro pins s σ H x y v u Q I rx ry h
  obtain ⟨p, ws, rfl, hq, so, q⟩ := h
  rcases so with fl | ⟨a, rfl, so⟩
  · exact op_in_seq pins s σ H x (.ref p) v u Q I rx ry ⟨p, _, rfl, .inr hq, fl, flat_strs ws, q⟩
  · cases rx
    cases ry
    rw [inV_ref] at q
    obtain ⟨its, r, pl, hz⟩ := I.tuple hq
    have e0 : its.toArray.any (fun _ => false) = false := by simp
    refine SeqAt.in_tupleAt (fun _ => false) pl (fun w hw => ?_) ⟨.bl _, H, I, rfl, by rw [e0]; exact q⟩
    obtain ⟨z, t, rfl⟩ := strs_only r w (by simpa using hw)
    have hu1 : X.A.in1.units < cLine := hu
    rcases so with ⟨xs, h⟩ | ⟨xs, h⟩ | ⟨kvs, h⟩
    · obtain ⟨i2, r2, p2, _⟩ := I.tuple (SqT.of h)
      exact SeqAt.EqAt.str_tuple z t p2 hu1
    · obtain ⟨i2, r2, p2, _⟩ := I.list (SqL.of h)
      exact SeqAt.EqAt.str_list z t p2.isList hu1
    · obtain ⟨_, _, _, _, o, es, ep, h1, h2, h3, _⟩ := (show ObjOk X.prog X.w H s.heap a (.dK kvs) from I.hok a _ h)
      obtain ⟨oc, od, dt, sl⟩ := o
      have e1 : oc = .type "dict" := h2.1
      simp only at h3
      subst e1 h3
      exact eqStrDict z t h1 hu1
end Eh
set_option Elab.async false
set_option linter.all false
set_option maxRecDepth 100000
namespace Eh
open PySem PySem.Spec PyProof.Rows L2
structure FnG (P : Program) (w : World) (K : PySem.W.Frag) (mg : Str → Option Value) (base : Heap) (k : Nat) (f : Addr) (fd : FuncData) (ps : List Str) (sp : Sp) : Prop where
  len : ∀ vs H Q E, sp vs H Q E → vs.length = ps.length
  run : ∀ (A : Around) (outer : List Env) (s : Shared) (H : Hp) (args : Args) (us : List Value) (vs : List V) (Q : VK) (E : XK), A.guards = some [] → Room k A → Env0 P w K mg base A outer s H →
    BindsTo s fd args (ps.zip us) → Vals vs us → sp vs H Q E → codeAny (model P w) A (.call (.ref f) args) (CR CX0 outer P w H s Q E) s
section
variable {P : Program} {w : World} {K : PySem.W.Frag} {mg : Str → Option Value} {base : Heap}
theorem funG {x qual : Str} {st : Stmt} {f : Addr} {fd : FuncData} {N ps : List Str} {k : Nat} {sp : Sp} (F : Fun K x qual st f fd) (S : FnScope N ps (defScope st)) (len : ∀ vs H Q E, sp vs H Q E → vs.length = ps.length)
    (body : ∀ (cdv : Value) (A : Around) (outer : List Env) (s : Shared) (H : Hp) (vs : List V) (Q : VK) (E : XK), (A.deeper (envOfC qual (defScope st) s.heap.objs.size f cdv)).guards = some [] →
      Room k (A.deeper (envOfC qual (defScope st) s.heap.objs.size f cdv)) → sp vs H Q E →
      ∃ t, PSs (cxOf CX0 P w K mg base N qual (defScope st) f cdv A outer s H E).nox (defBody st) t ∧ t { nx := fun _ H' => Q .non H', rt := Q } (start N vs) H) : FnG P w K mg base (k + 1) f fd ps sp where
  len := len
  run A outer s H args us vs Q E hg hr e0 hb r hsp := by
    obtain ⟨oc, od, kV, doc, pm, an, cdv, ct, osl, rfl, lk, hcd⟩ := F.ex
    have old := fun b o e => (e0.bs b o e).1
    have KX := e0.mod.kin.keeps old
    have ok := fun (y : Str × Value) (hy : y ∈ ps.zip us) => S.par y.1 (List.of_mem_zip (a := y.1) (b := y.2) hy).1
    refine codeAny_call_function hr.depth (KX _ _ lk) rfl S.co S.gen rfl (PySem.W.codeRec_of KX hcd) (hb _ _ _ _ ?_)
    refine wpAny_newFunctionEnv_cells S.kind (fun y hy => (ok y hy).imp id fun q => ⟨q, PySem.W.cellsFrom_some _ _ _ (.inl q)⟩) fun env he s1 x => ?_
    cases he
    obtain ⟨t, ht, hq⟩ := body cdv A outer s H vs Q E hg (hr.deeper _) hsp
    refine ⟨(e0.mod.nolimit.keeps old).keeps x.toInCall.keep, codeAny_func ?_⟩
    have I := inv_start (CX := CX0) (E := E) S hr.hd e0 (len _ _ _ _ hsp) r x
    refine wpAny_mono (ht.nox.run [] s1 (start N vs) H _ I hq) (fun fl s' hs => ?_) fun _ _ h => h
    have fin {σ' : L2.St} {H' : Hp} {v : V} {u : Value} (J : Inv (cxOf CX0 P w K mg base N qual (defScope st) f cdv A outer s H E) [] σ' H' s') (rv : RelV v u) (q : Q v H') : CE outer P w H s Q u s' := ⟨v, H', J.os, J.bare, J.base, J.hok, rv, q⟩
    match fl, hs with
    | .ret u, ⟨v, _, _, J, rv, q⟩ => exact fin J rv q
    | .next, ⟨_, _, J, q⟩ => exact fin (v := V.non) J rfl q
    | .brk, ⟨_, _, _, q⟩ => exact q.elim
    | .cont, ⟨_, _, _, q⟩ => exact q.elim
end
section
variable {X : Cx} {k : Nat} {f : Addr} {fd : FuncData} {ps : List Str} {sp : Sp} {x : Str} {p pos : Pos} {e : Expr} {es : List Expr} {t : TA}
theorem pe_callG (F : FnG X.prog X.w X.K X.mg X.base k f fd ps sp) (hgd : X.A.guards = some []) (hr : Room k X.A) (hg : Gl X x) (hm : X.mg x = some (.ref f)) (hk : PySem.W.keepIn X.K (.ref f) = true) (hb : Binds X.K fd ps []) (ha : PA X (e :: es) t)
    (hdb : (x == ("__debug__" : Str)) = false := by decide) (he : starEach (e :: es) X.env = (false, eval e X.env) :: starEach es X.env := by rfl)
    (hpl : (backTo pos (starEach es X.env)).any (·.1) = false := by rfl) : PE X (.Call (.Name x p) (e :: es) [] pos) (fun σ H Q => t σ H fun vs H1 => sp vs H1 Q E0) where
  run pins s σ H Q I h := by
    refine wpAny_Call_Name_kw (ld_glob I hg hm (PySem.W.callWith_K (h₀ := X.base) I.ok.mod.kin hk (thn (ha.run pos pins s σ H _ I h) fun us s1 hh => ?_) he hpl) hdb)
    obtain ⟨vs, H1, I1, r, q⟩ := hh
    refine ⟨I1.kIn, wpAny_call (codeAny_mono (F.run X.A X.stack s1 H1 ⟨us, []⟩ us vs Q E0 hgd hr I1.env0 ?_ r q) fun rr s' hq => ?_)⟩
    · have z := hb s1 us I1.kIn
      rw [List.append_nil] at z
      exact z (by rw [← r.length]; exact F.len _ _ _ _ q)
    · match rr, hq with
      | .ok (.ret u), hq => exact I1.after hq
      | .error _, hq => exact (show False from hq).elim
      | .ok .next, hq => exact (show False from hq).elim
      | .ok .brk, hq => exact (show False from hq).elim
      | .ok .cont, hq => exact (show False from hq).elim
end
theorem exmSelf {K : PySem.W.Frag} {C : Addr} (b : PySem.W.subIn K (.ref C) (.type "BaseException") = some true) (i : PySem.W.isClsIn K C = true)
    (t : PySem.W.typeIn K (.ref C) = some (.type "type")) (s : PySem.W.subIn K (.ref C) (.ref C) = some true) : PySem.W.exmOne K (.ref C) (.ref C) = some true := by
  unfold PySem.W.exmOne
  rw [b, if_pos (by decide)]
  have j : ((PySem.W.clsIn K C).isSome && PySem.W.typeIn K (.ref C) == some (.type "type")) = true := by
    rw [show (PySem.W.clsIn K C).isSome = true from i, t]
    decide
  exact (if_pos j).trans s
section
variable {X : Cx} {K : PySem.W.Frag}
def rRepr (K : PySem.W.Frag) : List V → Hp → VK → Prop := fun xs H Q => ∃ (x : V) (d : PyData), xs = [x] ∧ (∃ a, x = .ref a) ∧ Dp K H x d ∧ d.showable = true ∧ d.hasDict = false ∧ d.depth < 60 ∧ d.shown.length ≤ sizeLine ∧ Q (.str d.shown) H
theorem reprD (h : X.K = K) (hgd : X.A.guards = some []) (hu : X.A.units + 64 < cLine) : CallR X (.builtin "repr") (rRepr K) := by
  subst h
  intro pins s σ H xs us Q I r h
  obtain ⟨x, d, rfl, ⟨a, rfl⟩, hd, hs, hnd, hdp, hsz, q⟩ := h
  cases r with
  | cons r1 r2 =>
    cases r2
    cases r1
    obtain ⟨as, rd⟩ := Dp.reads I d (.ref a) (.ref a) hd rfl
    refine repr_of_reads' rd hs (fun z => by rw [hnd] at z; cases z) hgd (by omega) (fun _ _ e => e) (fun h' u tk kp => ?_) (hsz := hsz)
    exact ⟨.str d.shown, H, I.kept (t' := tk) kp, ⟨u, rfl⟩, q⟩
end
/-- nothing stands in H but, perhaps, the script at a -/
structure Bare1 (K : PySem.W.Frag) (a : Addr) (ob : Obj) (xs : List V) (H : Hp) : Prop where
  none : ∀ b, b ≠ a → H b = Option.none
  at_ : H a = Option.none ∨ (H a = some (.frz ob (.lst xs)) ∧ K.lookup a = Option.none)
theorem Bare1.hid {K : PySem.W.Frag} {a b : Addr} {ob o : Obj} {xs : List V} {H : Hp} {h : Heap} (B : Bare1 K a ob xs H) (e : h.get? b = some o) (n : b ≠ a ∨ H a = Option.none) : (hidT h H).get? b = some o := by
  refine hidT_get e ?_
  by_cases z : b = a
  · rcases n with n | n
    · exact absurd z n
    · rw [z]; exact n
  · exact B.none b z
section
variable {P : Program} {w : World} {K : PySem.W.Frag} {mg mb : Str → Option Value} {k : Nat} {fa a : Addr} {fd : FuncData} {x : Str} {sp : Sp} {s₁ : Shared} {vs : List Value} {ns : List Int} {H : Hp}
theorem law_runG (B : Bare1 K a { cls := .type "list", data := .seq vs.toArray } (ns.map V.int) H) (ok : HOk P w H s₁.heap) (hS : SqL K H a (ns.map V.int))
    (KX : K.In s₁.heap) (hns : s₁.heap.Ns mainGlobals mg) (hb : s₁.heap.Ns builtinsNs mb) (hbb : ∀ x : Str, x ≠ "__name__" → mb x = bootBuiltins x) (hlim : s₁.heap.NoLimit) (hg : s₁.gens = #[])
    (ha : s₁.heap.get? a = some { cls := .type "list", data := .seq vs.toArray }) (hr : Room k callerA)
    (F : ∀ base : Heap, K.In base → base.Ns mainGlobals mg → FnG P w K mg base k fa fd [x] sp) (hbind : ∀ (s : Shared) (u : Value), BindsTo s fd ⟨[u], []⟩ [(x, u)])
    (hsp : sp [.ref a] H (fun v _ => v = .bl true) fun _ _ _ => False) :
    codeAny (model P w) callerA (.call (.ref fa) ⟨[.ref a], []⟩) (fun r s' => r = .ok (.ret (.bool true)) ∧ OldK s₁.heap s'.heap ∧ s'.os = s₁.os ∧ AllBare s'.gens) s₁ := by
  have names {b : Addr} {m : Str → Option Value} (hm : s₁.heap.Ns b m) : (hidT s₁.heap H).Ns b m := by
    obtain ⟨o, es, ep, e, d, r⟩ := hm
    refine ⟨o, es, ep, B.hid e (.inl fun z => ?_), d, r⟩
    rw [z, ha] at e
    cases e
    cases d
  have KB : K.In (hidT s₁.heap H) := fun b o e => B.hid (KX b o e) (by
    by_cases z : b = a
    · rcases B.at_ with q | ⟨_, q⟩
      · exact .inr q
      · rw [z, q] at e; cases e
    · exact .inl z)
  obtain ⟨mc, l1, l2⟩ := hlim
  have E : Env0 P w K mg (hidT s₁.heap H) callerA [] s₁ H := {
    frames := rfl
    mod := ⟨KB, names hns, ⟨mb, names hb, hbb⟩, ⟨mc, names l1, l2⟩⟩
    bs := fun b o e => of_hidT e
    bsz := Nat.le_of_eq (hidT_size _ _)
    funs := trivial
    frf := fun b hb => by cases hb
    hok := ok
    bare := .of_eq hg }
  refine codeAny_mono ((F _ KB (names hns)).run callerA [] s₁ H ⟨[.ref a], []⟩ [.ref a] [.ref a] _ _ rfl hr E (hbind s₁ (.ref a)) (.cons rfl .nil) hsp) fun r s' q => ?_
  match r, q with
  | .error _, q => exact (show False from q).elim
  | .ok .next, q => exact (show False from q).elim
  | .ok .brk, q => exact (show False from q).elim
  | .ok .cont, q => exact (show False from q).elim
  | .ok (.ret u), q =>
    obtain ⟨v, H', os, bare, un, ok', rv, ev⟩ := q
    cases (show v = .bl true from ev)
    cases (show u = Value.bool true from rv)
    refine ⟨rfl, OldK.of_keep fun b o e => ?_, os, bare⟩
    have free : H b = Option.none → s'.heap.get? b = some o := fun n => un.keep b o e n (fun z => by cases z) (fun z => by cases z)
    by_cases z : b = a
    · rcases B.at_ with q | ⟨q, _⟩
      · exact free (by rw [z]; exact q)
      · have e2 := (ok' _ _ (un.frzs _ _ _ q)).1
        rw [z, ha] at e
        cases e
        rw [z]
        exact e2
    · exact free (B.none b z)
theorem law_callG (KX : K.In s₁.heap) (hns : s₁.heap.Ns mainGlobals mg) (hb : s₁.heap.Ns builtinsNs mb) (hbb : ∀ x : Str, x ≠ "__name__" → mb x = bootBuiltins x) (hlim : s₁.heap.NoLimit) (hg : s₁.gens = #[])
    (ha : s₁.heap.get? a = some { cls := .type "list", data := .seq vs.toArray }) (hi : IntsAre vs ns) (hl : ns.length ≤ sizeLine) (hr : Room k callerA)
    (F : ∀ base : Heap, K.In base → base.Ns mainGlobals mg → FnG P w K mg base k fa fd [x] sp) (hbind : ∀ (s : Shared) (u : Value), BindsTo s fd ⟨[u], []⟩ [(x, u)])
    (hsp : ∀ H : Hp, SqL K H a (ns.map V.int) → sp [.ref a] H (fun v _ => v = .bl true) fun _ _ _ => False) :
    codeAny (model P w) callerA (.call (.ref fa) ⟨[.ref a], []⟩) (fun r s' => r = .ok (.ret (.bool true)) ∧ OldK s₁.heap s'.heap ∧ s'.os = s₁.os ∧ AllBare s'.gens) s₁ := by
  have rv := vals_ints hi
  have hlv := rv.length
  rw [List.length_map] at hlv
  rcases hk : K.lookup a with _ | o
  · -- the script is tracked, frozen
    have hS : SqL K (fun b => if b = a then some (.frz { cls := .type "list", data := .seq vs.toArray } (.lst (ns.map V.int))) else Option.none) a (ns.map V.int) := .inl (.inr ⟨_, if_pos rfl⟩)
    refine law_runG ⟨fun b z => if_neg z, .inr ⟨if_pos rfl, hk⟩⟩ (fun b u e => ?_) hS KX hns hb hbb hlim hg ha hr F hbind (hsp _ hS)
    by_cases z : b = a
    · subst z
      rw [if_pos rfl] at e
      cases e
      exact ⟨ha, by rw [List.length_map]; exact hl, vs, _, rv, ha⟩
    · rw [if_neg z] at e
      cases e
  · -- it is the module's own
    have e := KX a o hk
    rw [ha] at e
    cases e
    have hS : SqL K (fun _ => Option.none) a (ns.map V.int) := .inr ⟨_, vs.toArray, _, hk, rfl, rfl, rfl, by rw [List.size_toArray, ← hlv]; exact hl, by rw [List.toList_toArray]; exact rv⟩
    exact law_runG ⟨fun _ _ => rfl, .inl rfl⟩ (fun b u e => by cases e) hS KX hns hb hbb hlim hg ha hr F hbind (hsp _ hS)
end
theorem walk_ofG {l : PySem.W.OpenLaw} {n k : Nat} {q : Program} {loose : List Str} {XP : (Str → Option Value) → Heap → Prop} {YP : World → Heap → Prop} {d : DefRec} {K : Params → PySem.W.Frag} {sp : World → Sp} {x : Str}
    (hn : l.most = some n) (hn2 : n ≤ sizeLine) (hdf : d.params.defaults = []) (hr : Room k callerA) (hY : ∀ (w : World) (h : Heap), YP w h → (K w.params).In h)
    (F : ∀ (w : World) (mg : Str → Option Value) (fa : Addr) (h : Heap), (K w.params).In h → h.Ns mainGlobals mg → mg d.name = some (.ref fa) →
      ∃ fd : FuncData, (∀ (s : Shared) (u : Value), BindsTo s fd ⟨[u], []⟩ [(x, u)]) ∧ ∀ base : Heap, (K w.params).In base → base.Ns mainGlobals mg → FnG l.prog w (K w.params) mg base k fa fd [x] (sp w))
    (hsp : ∀ (w : World) (H : Hp) (a : Addr) (ns : List Int), ns.length ≤ n → SqL (K w.params) H a (ns.map V.int) → sp w [.ref a] H (fun v _ => v = .bl true) fun _ _ _ => False) :
    PySem.W.WalkO q loose XP YP l.row.toRowW d [] (fun f vs => PySem.call f vs) :=
  Att.attach_call hn hdf fun w s₀ s₁ mg mb fa o pm cd doc a vs ns G Y ho hd hcd hmg hobj hints hlen hg =>
    match F w mg fa _ (hY w _ Y) G.T.g hmg with
    | ⟨_, hb, hF⟩ => law_callG (hY w _ Y) G.T.g G.T.b G.T.builtins G.T.nolimit hg hobj hints (Nat.le_trans hlen hn2) hr hF hb fun H hS => hsp w H a ns hlen hS
end Eh
set_option Elab.async false
set_option linter.all false
set_option maxRecDepth 100000
set_option maxHeartbeats 2000000
namespace Eh
open PySem PySem.Spec PyProof.Rows L2
def txtOf (e : Int × Value) : Str := match e.2 with
  | .str x _ => x
  | _ => Str.empty
def GoodT (w : World) (e : Int × Value) : Prop := ∃ x tk, e.2 = Value.str x tk ∧ e.1 = hashStr w x
/-- the table es, t holds the texts ts -/
structure TB (w : World) (ts : List Str) (es : Array (Int × Value)) (t : SetTable) : Prop where
  good : ∀ e ∈ es.toList, GoodT w e
  perm : (es.toList.map txtOf).Perm ts
  room : es.size < scanBound
  fits : t.fits es.size = true
  ris : Ris t.place.toList
  led : w.params.followText "set-order" = true ∨ t.led = true
theorem TB.size {w : World} {ts : List Str} {es : Array (Int × Value)} {t : SetTable} (b : TB w ts es t) : es.size = ts.length := by
  rw [← b.perm.length_eq, List.length_map, Array.length_toList]
theorem TB.elems {P : Program} {w : World} {ts : List Str} {es : Array (Int × Value)} {t : SetTable} (b : TB w ts es t) : ElemsOf (strKind P w) es.toList := fun e he => by
  obtain ⟨x, tk, h1, h2⟩ := b.good e he
  refine ⟨⟨x, ?_, h2⟩, by rw [h1]; rfl⟩
  rw [h1]
  exact strKind_is P w x tk
theorem good_str {P : Program} {w : World} {e : Int × Value} (g : GoodT w e) (x : Str) : (strKind P w).is x e.2 = true ↔ txtOf e = x := by
  obtain ⟨y, tk, h1, _⟩ := g
  unfold txtOf
  rw [h1]
  constructor
  · intro h
    obtain ⟨t, ht⟩ := Value.isStrOf_shape (x := x) (v := Value.str y tk) h
    injection ht
  · intro h
    have h' : y = x := h
    rw [h']
    exact strKind_is P w x tk
theorem TB.mem {P : Program} {w : World} {ts : List Str} {es : Array (Int × Value)} {t : SetTable} (b : TB w ts es t) (x : Str) : x ∈ ts ↔ ∃ e ∈ es.toList, (strKind P w).is x e.2 = true := by
  rw [← b.perm.mem_iff, List.mem_map]
  exact ⟨fun ⟨e, he, q⟩ => ⟨e, he, (good_str (b.good e he) x).2 q⟩, fun ⟨e, he, q⟩ => ⟨e, he, (good_str (P := P) (b.good e he) x).1 q⟩⟩
theorem TB.relay {w : World} {ts : List Str} {es : Array (Int × Value)} {t : SetTable} (b : TB w ts es t) (n : Nat) : TB w ts (relayAll t es n).1 (relayAll t es n).2.1 := by
  have pm := relayAll_perm t es n
  have sz : (relayAll t es n).1.size = es.size := by rw [← Array.length_toList, pm.length_eq, Array.length_toList]
  exact ⟨fun e he => b.good e (pm.mem_iff.mp he), (pm.map txtOf).trans b.perm, by rw [sz]; exact b.room, relayAll_fits t es n, relayAll_ris t es n, b.led.imp id fun z => by rw [relayAll_led]; exact z⟩
theorem TB.lay {P : Program} {w : World} {ts : List Str} {es : Array (Int × Value)} {t : SetTable} (b : TB w ts es t) (x : Str) (tk : Tok) (hr : ts.length + 1 < scanBound) :
    TB w (x :: ts) (layNew t es ((strKind P w).hash x) (.str x tk)).1 (layNew t es ((strKind P w).hash x) (.str x tk)).2.1 := by
  have pm := layNew_perm t es ((strKind P w).hash x) (.str x tk)
  rw [Array.toList_push] at pm
  have pc := pm.trans (List.perm_append_singleton _ _)
  refine ⟨fun e he => ?_, (pc.map txtOf).trans (b.perm.cons x), ?_, layNew_fits t es _ _, layNew_ris t es _ _ b.ris, b.led.imp id fun z => by rw [layNew_led]; exact z⟩
  · rcases List.mem_cons.mp (pc.mem_iff.mp he) with z | z
    · exact ⟨x, tk, by rw [z], by rw [z]; rfl⟩
    · exact b.good e z
  · rw [← Array.length_toList, pc.length_eq, List.length_cons, Array.length_toList, b.size]
    exact hr
/-- the set of the texts ts stands at a -/
def SetT (w : World) (h : Heap) (a : Addr) (ts : List Str) : Prop := ts.Nodup ∧ ∃ o es ep t, h.get? a = some o ∧ o.ExactSet ∧ o.data = .set es ep t ∧ TB w ts es t
section
variable {P : Program} {w : World} {A : Around} {E : Value → Shared → Prop} {s : Shared} {a : Addr} {ts : List Str}
theorem setT_stored {o : Obj} {es es1 : Array (Int × Value)} {ep : Nat} {t t1 : SetTable} {R : Unit → Shared → Prop} (ho : s.heap.get? a = some o) (hx : o.ExactSet) (hd : o.data = .set es ep t) (b : TB w ts es1 t1) (nd : ts.Nodup)
    (k : ∀ h' o' ep', Heap.SameBut a s.heap h' → h'.get? a = some o' → o'.ExactSet → o'.data = .set es1 ep' t1 → R () { s with heap := h' }) : wpAny (model P w) A (storeSet a es1 t1) R E s :=
  wpAny_storeSet_of ho hd (k _ _ _ (Heap.SameBut.update s.heap a (Obj.putSet es1 t1)) (store_at (es' := es1) (t' := t1) ho hd) hx rfl) (fits_of_scanBound b.room)
end
end Eh
set_option Elab.async false
set_option linter.all false
set_option maxRecDepth 100000
set_option maxHeartbeats 2000000
namespace Eh
open PySem PySem.Spec PyProof.Rows L2
section
variable {P : Program} {w : World} {A : Around} {E : Value → Shared → Prop} {s : Shared} {a : Addr} {ts : List Str}
/-- the end of an add: the new table stored, perhaps laid again -/
theorem setT_tail {g : Bool → Sem Unit} (hg : ∀ (b : Bool) (s₁ : Shared) (Q' : Unit → Shared → Prop), Q' () s₁ → wpAny (model P w) A (g b) Q' E s₁)
    {o : Obj} {es es1 : Array (Int × Value)} {ep : Nat} {t t1 : SetTable} {R : Option Bool → Shared → Prop} {wd : Bool} (ho : s.heap.get? a = some o) (hx : o.ExactSet) (hd : o.data = .set es ep t) (b : TB w ts es1 t1) (nd : ts.Nodup)
    (k : ∀ h', Heap.SameBut a s.heap h' → SetT w h' a ts → R (some true) { s with heap := h' }) :
    wpAny (model P w) A (do
        storeSet a es1 t1
        if (!wd && t1.tooFull) = true then do
            g (relayAll t1 es1 (SetTable.grown es1.size)).2.2
            storeSet a (relayAll t1 es1 (SetTable.grown es1.size)).1 (relayAll t1 es1 (SetTable.grown es1.size)).2.1
            pure (some true)
          else pure (some true)) R E s := by
  refine wpAny_bind (setT_stored ho hx hd b nd fun h1 o1 ep1 sb1 g1 x1 d1 => ?_)
  split
  · refine wpAny_bind (hg _ _ _ ?_)
    refine wpAny_bind (setT_stored (s := { s with heap := h1 }) g1 x1 d1 (b.relay _) nd fun h2 o2 ep2 sb2 g2 x2 d2 => ?_)
    exact wpAny_pure (k h2 (sb1.trans sb2) ⟨nd, o2, _, ep2, _, g2, x2, d2, b.relay _⟩)
  · exact wpAny_pure (k h1 sb1 ⟨nd, o1, es1, ep1, t1, g1, x1, d1, b⟩)
/-- the text x put in -/
def put (x : Str) (ts : List Str) : List Str := if x ∈ ts then ts else x :: ts
theorem setT_hashed {x : Str} {tk : Tok} {Q : Bool → Shared → Prop} (R : SetT w s.heap a ts) (room : ts.length + 1 < scanBound) (k : ∀ r h', Heap.SameBut a s.heap h' → SetT w h' a (put x ts) → Q r { s with heap := h' }) :
    wpAny (model P w) A (setAddHashed a (.str x tk) ((strKind P w).hash x)) Q E s := by
  obtain ⟨nd, o, es, ep, t, ho, hx, hd, b⟩ := R
  have hkey := strKind_is P w x tk
  have hsc : (Value.str x tk).scannable = true := rfl
  unfold setAddHashed setAddHashedIn
  refine wpAny_holding (wpAny_bind (wpAny_setState_of ho hd b.fits ?_))
  dsimp only
  rw [byScan_of hsc b.room (b.elems (P := P))]
  simp only [↓reduceIte]
  unfold setAddByScan
  refine wpAny_bind (wpAny_bind (wpAny_rule (wpAny_bind (wpAny_setScan_of hkey ho hd b.fits (b.elems (P := P)) ?_))))
  cases hf : List.findIdx? (fun e => (strKind P w).is x e.2) es.toList with
  | some j =>
    dsimp only
    obtain ⟨hj, pj, _⟩ := List.findIdx?_eq_some_iff_getElem.mp hf
    have hm : x ∈ ts := (b.mem (P := P) x).2 ⟨es.toList[j], List.getElem_mem hj, pj⟩
    have e : put x ts = ts := if_pos hm
    refine wpAny_pure (wpAny_pure (k _ s.heap (Heap.SameBut.refl a s.heap) ?_))
    rw [e]
    exact ⟨nd, o, es, ep, t, ho, hx, hd, b⟩
  | none =>
    dsimp only
    have hm : x ∉ ts := fun z => by
      obtain ⟨e, he, q⟩ := (b.mem (P := P) x).1 z
      have c := List.findIdx?_eq_none_iff.mp hf e he
      rw [q] at c
      cases c
    have e : put x ts = x :: ts := if_neg hm
    have nd1 : (x :: ts).Nodup := List.nodup_cons.mpr ⟨hm, nd⟩
    have b1 := b.lay (P := P) x tk room
    have fin : ∀ r h', Heap.SameBut a s.heap h' → SetT w h' a (x :: ts) → Q r { s with heap := h' } := fun r h' sb z => k r h' sb (by rw [e]; exact z)
    have gave : ∀ (c : Bool) {s₁ : Shared} {Q' : Unit → Shared → Prop}, Q' () s₁ → wpAny (model P w) A (match c with | true => rule "set.scan.the-table-gave-way" | false => pure ()) Q' E s₁ :=
      fun c s₁ Q' q => match c with
        | true => wpAny_rule q
        | false => wpAny_pure q
    generalize layNew t es ((strKind P w).hash x) (.str x tk) = Z at b1 ⊢
    obtain ⟨es1, t1, wd, gv⟩ := Z
    dsimp only at b1 ⊢
    refine wpAny_bind (gave _ ?_)
    split
    · refine wpAny_bind ?_
      rw [hashByValue_scannable 8 hsc]
      refine wpAny_pure ?_
      refine setT_tail (fun c s₁ Q' q => by cases c <;> first | exact wpAny_pure q | exact wpAny_rule q) ho hx hd (ts := x :: ts) ?_ nd1 fun h' sb z => ?_
      · refine ⟨b1.good, b1.perm, b1.room, ?_, ?_, ?_⟩
        · have := b1.fits
          first | (split <;> first | exact this | exact SetTable.fits_plain_off this) | exact this
        · have := b1.ris
          first | (split <;> exact this) | exact this
        · have := b1.led
          first | (split <;> exact this) | exact this
      · dsimp only
        exact wpAny_pure (fin _ h' sb z)
    · refine wpAny_bind (wpAny_pure ?_)
      simp only [↓reduceIte]
      refine setT_tail (fun c s₁ Q' q => by cases c <;> first | exact wpAny_pure q | exact wpAny_rule q) ho hx hd b1 nd1 fun h' sb z => ?_
      dsimp only
      exact wpAny_pure (fin _ h' sb z)
theorem SetT.typeIs (R : SetT w s.heap a ts) : s.TypeIs (.ref a) "set" := by
  obtain ⟨_, o, es, ep, t, ho, hx, _⟩ := R
  exact ⟨o, ho, hx.1⟩
/-- found.add(x) -/
theorem setT_add {x : Str} {tk : Tok} {Q : Value → Shared → Prop} (R : SetT w s.heap a ts) (room : ts.length + 1 < scanBound)
    (k : ∀ h', Heap.SameBut a s.heap h' → SetT w h' a (put x ts) → Q .none { s with heap := h', toks := s.toks + 1 }) : wpAny (model P w) A (call (.builtin "set.add") [.ref a, .str x tk]) Q E s := by
  refine wpAny_call_entry PySem.F.slot_set_add R.typeIs PySem.F.entry_set_add ?_ (PySem.F.args_set_add_2 _ _)
  unfold Builtin.«set.add» Builtin.Frozenset.oneOther
  simp only [List.isEmpty_nil, bind_assoc]
  unfold Builtin.Frozenset.addrOf setAdd
  refine wpAny_bind (wpAny_pure ?_)
  try dsimp only
  refine wpAny_bind (wpAny_pure ?_)
  try dsimp only
  refine wpAny_bind (wpAny_holding (wpAny_bind ((strKind P w).pyHash (strKind_is P w x tk) (setT_hashed (s := { s with toks := s.toks + 1 }) R room fun r h' sb z => ?_))))
  show wpAny _ _ (ret Value.none) _ _ _
  exact wpAny_pure ⟨_, rfl, k h' sb z⟩
end
end Eh
set_option Elab.async false
set_option linter.all false
set_option maxRecDepth 100000
set_option maxHeartbeats 4000000
namespace Eh
open PySem PySem.Spec PyProof.Rows L2
/-- the set of the texts ts, at a -/
def SetX (w : World) (a : Addr) (ts : List Str) : HO := .ext fun h => SetT w h a ts
theorem SetT.at {w : World} {h h' : Heap} {a : Addr} {ts : List Str} (R : SetT w h a ts) (k : ∀ o, h.get? a = some o → h'.get? a = some o) : SetT w h' a ts := by
  obtain ⟨nd, o, es, ep, t, ho, r⟩ := R
  exact ⟨nd, o, es, ep, t, k o ho, r⟩
theorem setX_ok {w : World} {P : Program} {H : Hp} {h : Heap} {a : Addr} {ts : List Str} (R : SetT w h a ts) : ObjOk P w H h a (SetX w a ts) := by
  obtain ⟨nd, o, es, ep, t, ho, r⟩ := id R
  exact ⟨R, ⟨o, ho⟩, fun _ _ p k => p.at k⟩
section
variable {X : Cx} {pins : List (Addr × Obj)} {σ : L2.St} {H : Hp} {s : Shared} {a : Addr} {ts : List Str}
theorem setX_get (I : Inv X pins σ H s) (ha : H a = some (SetX X.w a ts)) : SetT X.w s.heap a ts := (I.hok a _ ha).1
theorem setT_empty (w : World) (h : Heap) : SetT w (h.push { cls := .type "set", dict := none, data := .set #[] 0 (.fresh 0 0 (!w.params.followText "set-order")) }) h.objs.size [] := by
  refine ⟨List.nodup_nil, _, #[], 0, _, Heap.get?_push_size _ rfl, ⟨rfl, rfl, rfl⟩, rfl, fun e he => by simp at he, List.Perm.refl _, by decide, rfl, List.Pairwise.nil, ?_⟩
  cases hq : w.params.followText "set-order" with
  | true => exact .inl rfl
  | false => exact .inr rfl
/-- set.add of a tracked set -/
theorem add_run {z : Str} {v : Value} {Q : Value → Shared → Prop} {E : Value → Shared → Prop} (I : Inv X pins σ H s) (ha : H a = some (SetX X.w a ts)) (hz : ts.length < 1000) (r : RelV (.str z) v)
    (k : ∀ s', Inv X pins σ (upd H a (SetX X.w a (put z ts))) s' → Q .none s') : wpAny (model X.prog X.w) X.A (call (.builtin "set.add") [.ref a, v]) Q E s := by
  obtain ⟨t, rfl⟩ := r
  refine setT_add (setX_get I ha) (Nat.lt_trans (by omega : ts.length + 1 < 1002) (by decide)) fun h' sb R => k _ ?_
  obtain ⟨_, o, _, _, _, ho, _⟩ := id R
  exact I.write (e := a) (t' := s.toks + 1) (by rw [ha]; trivial) (.inl rfl) (fun b u hb hu => (sb.2 b hb).trans hu) ⟨o, ho⟩ (setX_ok R)
end
/-- {e for target in iter if ..}, the elements texts: D the new set -/
def tSc (w : World) (wi : TI) (g : TG) (tt : TT) (te : TE) (vs : List Nat) : TE := fun σ H Q => wi σ H fun J H1 => ∀ D, H1 D = none → ∃ W : Nat → Nat → Hp → Prop, (∃ m, W 0 m (upd H1 D (SetX w D []))) ∧ ∀ i m H, W i m H →
  (J.stop i H ∧ Q (.ref D) H) ∨ (J.go i H ∧ ∃ Nx : Hp → Prop, (∀ H', Nx H' → ∃ m', m' < m ∧ W (i + 1) m' H') ∧ ∀ x H', J.yld i H x H' → g x (wipe σ vs) H' fun σ2 H2 => wipe σ2 vs = wipe σ vs ∧ tt σ2 H2 fun b H3 =>
    if b = true then te σ2 H3 fun y H4 => ∃ ts z, y = .str z ∧ H4 D = some (SetX w D ts) ∧ ts.length < 1000 ∧ Nx (upd H4 D (SetX w D (put z ts))) else Nx H3)
section
variable {X : Cx} {elt tg iter : Expr} {ifs : List Expr} {scope : Scope} {own : List (Str × Nat)} {pos : Pos} {wi : TI} {g : TG} {tt : TT} {te : TE}
theorem pe_sc (hc : X.calm = true) (hN : X.N.Nodup) (hi : PI X tg iter wi) (ok : BlkOk X.N X.env.scope scope own)
    (hg : ∀ (s : Shared) (H : Hp) (C : Addr) (cl : List (Str × Addr)) (fp : List Addr), PG (X.blk s H scope (compEnvC scope cl C X.env) fp) tg g)
    (ht : ∀ (s : Shared) (H : Hp) (C : Addr) (cl : List (Str × Addr)) (fp : List Addr), PTs (X.blk s H scope (compEnvC scope cl C X.env) fp) ifs tt)
    (he : ∀ (s : Shared) (H : Hp) (C : Addr) (cl : List (Str × Addr)) (fp : List Addr), PE (X.blk s H scope (compEnvC scope cl C X.env) fp) elt te)
    (hs : ∀ x, foldedSetIterable iter X.env x = pure x := by intro _; rfl) :
    PE X (.SetComp elt [⟨tg, iter, ifs, 0⟩] scope pos) (tSc X.w wi g tt te (own.map (·.2))) where
  run pins s σ H Q I h := by
    rw [arm_eval_SetComp]
    have cells : ∀ y ∈ scope.names, y.2 = .free → ∃ c, X.env.cells.lookup y.1 = some c := fun y hy e => (ok.free y hy e).elim (fun k => I.ok.has _ (.inl k)) fun k => I.ok.has _ (.inr k)
    refine wpAny_comprehension_free (use := none) rfl hs (closure_ok cells) ok.kind (fun y hy e => by rw [ok.uniq y hy, e]) (thn (hi.run pins s σ H _ I h) fun xv s1 hx => thn hx fun itv s2 h2 => ?_)
    obtain ⟨it, fp, tn, J, H2, rfl, I2, T, st2, f2, q⟩ := h2
    refine wpAny_newSet_raw fun led hled => newEnv_comp ?_
    subst hled
    obtain ⟨D, hD⟩ : ∃ D, D = s2.heap.objs.size := ⟨_, rfl⟩
    obtain ⟨W, ⟨m0, w0⟩, turn⟩ := q D (I2.hok.fresh (Nat.le_of_eq hD.symm))
    obtain ⟨h3, e3⟩ : ∃ h3, h3 = s2.heap.push { cls := .type "set", dict := none, data := .set #[] 0 (.fresh 0 0 (!X.w.params.followText "set-order")) } := ⟨_, rfl⟩
    have new : SetT X.w h3 D [] := by
      rw [e3, hD]
      exact setT_empty X.w s2.heap
    have I3 : Inv X pins σ (upd H2 D (SetX X.w D [])) { s2 with heap := h3 } := I2.laid (t' := s2.toks) (fun b o e => by rw [e3]; exact Heap.get?_push_of_some _ e) (Nat.le_of_eq hD.symm) (setX_ok new)
    have f3 : ∀ b ∈ fp, FpOk X pins (upd H2 D (SetX X.w D [])) b ∧ b < h3.objs.size := fun b hb => by
      obtain ⟨o, e, _⟩ := T.obj _ _ st2 b hb
      have lt := Heap.lt_size e
      refine ⟨⟨(upd_ne (by rw [hD]; exact Nat.ne_of_lt lt)).trans (f2 b hb).1, (f2 b hb).2⟩, ?_⟩
      rw [e3, Heap.size_push]
      exact Nat.lt_succ_of_lt lt
    have st3 : tn 0 h3 := T.keep _ _ _ st2 fun b _ o e => by rw [e3]; exact Heap.get?_push_of_some _ e
    show codeAny _ _ (.compStart _ 0 (.ref it) (.ref s2.heap.objs.size) _) (compPost _ _ _ _ _ (.ref s2.heap.objs.size) _) _
    rw [← hD, ← e3]
    show codeAny _ _ (.compStart _ 0 (.ref it) (.ref D) (compEnvC scope (cellsFrom (h3.objs.size + 1) scope.names (cloFrom X.env.cells scope.names [])) h3.objs.size X.env))
      (compPost _ _ _ _ _ (.ref D) h3.objs.size) { s2 with heap := pushCells (h3.push { cls := .type "dict", data := .dict #[] }) scope.names }
    have I4 := block_start I3 ok hN f3
    have pg := hg { s2 with heap := h3 } (upd H2 D (SetX X.w D [])) h3.objs.size (cellsFrom (h3.objs.size + 1) scope.names (cloFrom X.env.cells scope.names [])) fp
    have pt := ht { s2 with heap := h3 } (upd H2 D (SetX X.w D [])) h3.objs.size (cellsFrom (h3.objs.size + 1) scope.names (cloFrom X.env.cells scope.names [])) fp
    have pe := he { s2 with heap := h3 } (upd H2 D (SetX X.w D [])) h3.objs.size (cellsFrom (h3.objs.size + 1) scope.names (cloFrom X.env.cells scope.names [])) fp
    have nfp : ∀ b ∈ fp, (upd H2 D (SetX X.w D [])) b = none := fun b hb => (f3 b hb).1.1
    generalize hce : compEnvC scope (cellsFrom (h3.objs.size + 1) scope.names (cloFrom X.env.cells scope.names [])) h3.objs.size X.env = ce at I4 pg pt pe ⊢
    have cL : ce.locals = h3.objs.size := by rw [← hce]; rfl
    obtain ⟨H3, hH3⟩ : ∃ H3, H3 = upd H2 D (SetX X.w D []) := ⟨_, rfl⟩
    rw [← hH3] at I3 I4 pg pt pe w0 nfp f3
    obtain ⟨S3, hS3⟩ : ∃ S3 : Shared, S3 = { s2 with heap := h3 } := ⟨_, rfl⟩
    have sz3 : S3.heap = h3 := by rw [hS3]
    rw [← hS3] at I3 pg pt pe
    replace I4 : Inv (X.blk S3 H3 scope ce fp) [] (wipe σ (own.map (·.2))) H3 { s2 with heap := pushCells (h3.push { cls := .type "dict", data := .dict #[] }) scope.names } := by
      rw [hS3]
      exact I4
    -- the places of the iterator are free in the block
    have free : ∀ {τ : L2.St} {H' : Hp} {s' : Shared}, Inv (X.blk S3 H3 scope ce fp) [] τ H' s' → (∀ b ∈ fp, H' b = none) → ∀ b ∈ fp, FpOk (X.blk S3 H3 scope ce fp) [] H' b := fun I' n b hb =>
      ⟨n b hb, (I'.ok.exf b hb).1, I'.ok.exfs b hb, .inl hb, fun x c e => (I'.ok.exf b hb).2 x c e, fun p hp => by cases hp⟩
    have st4 : tn 0 (pushCells (h3.push { cls := .type "dict", data := .dict #[] }) scope.names) := T.keep _ _ _ st3 fun b _ o e => pushCells_keeps _ _ _ _ (Heap.get?_push_of_some _ e)
    have loop : codeAny (model X.prog X.w) X.A (.compLoop (.SetComp elt [⟨tg, iter, ifs, 0⟩] scope pos) 0 (.ref it) (.ref D) ce) (compPost (model X.prog X.w) X.A X.xe none (EP X pins σ Q) (.ref D) h3.objs.size)
        { s2 with heap := pushCells (h3.push { cls := .type "dict", data := .dict #[] }) scope.names } := by
      refine compLoop_set_any (fun n s' => ∃ i H', Inv (X.blk S3 H3 scope ce fp) [] (wipe σ (own.map (·.2))) H' s' ∧ tn i s'.heap ∧ (∀ b ∈ fp, H' b = none) ∧ W i n H') ?_ m0 ⟨0, H3, I4, st4, nfp, w0⟩
      rintro n s5 ⟨i, H5, I5, st5, n5, w5⟩
      rcases turn i n H5 w5 with ⟨stop, qq⟩ | ⟨go, Nx, hNx, step⟩
      · refine thnF (T.done (X.blk S3 H3 scope ce fp) rfl rfl rfl hc i [] s5 _ H5 (fun _ _ => False) I5 (free I5 n5) st5 stop) fun r s6 ⟨hr, I6⟩ => ?_
        subst hr
        have I7 : Inv X pins σ H5 s6 := I3.call' (ch := fp) I6.os I6.base I6.hok I6.bare fun b hb => ⟨(f3 b hb).1.2.2.2.1, (f3 b hb).1.2.1, (f3 b hb).1.2.2.2.2.1, (f3 b hb).1.2.2.2.2.2⟩
        have nC : H5 h3.objs.size = none := by
          rw [← cL]
          exact I6.free
        obtain ⟨m, hn, _⟩ := I6.loc
        have hn : s6.heap.Ns ce.locals m := hn
        rw [cL] at hn
        have fp7 : FpOk X pins H5 h3.objs.size := I3.fpOk (Nat.le_of_eq (by rw [sz3])) nC
        obtain ⟨a0, a1, _, a3, a4, a5⟩ := fp7
        exact ⟨m, hn, fun h'' sb => ⟨.ref D, H5, I7.turned (t' := s6.toks) (fun b o hb e => (sb.2 b hb).trans e) a0 a1 a3 a4 a5, rfl, qq⟩⟩
      · refine thnF (T.item (X.blk S3 H3 scope ce fp) rfl rfl rfl hc i [] s5 _ H5 (fun _ _ => False) I5 (free I5 n5) st5 go) fun r s6 ⟨u, hr, h6⟩ => ?_
        subst hr
        refine thnF h6 fun _ s7 ⟨x, H7, I7, r7, y7, st7, n7⟩ => ?_
        have J7 := I7.pinned (free I7 n7) (T.obj _ _ st7)
        refine thnF (pg.run _ s7 _ H7 x u _ J7 r7 (step x H7 y7)) fun _ s8 ⟨σ8, H8, I8, hw8, q8⟩ => thnF (pt.run _ s8 σ8 H8 _ I8 q8) fun b s9 ⟨H9, I9, q9⟩ => ?_
        have back : ∀ {s' : Shared} {H' : Hp}, Inv (X.blk S3 H3 scope ce fp) ([] ++ pinsAt fp s7.heap) σ8 H' s' → Nx H' → ∃ m, m < n ∧ ∃ i H', Inv (X.blk S3 H3 scope ce fp) [] (wipe σ (own.map (·.2))) H' s' ∧ tn i s'.heap ∧ (∀ b ∈ fp, H' b = none) ∧ W i m H' := fun {s' H'} I' nx => by
          obtain ⟨m', hm, w'⟩ := hNx H' nx
          have held {b : Addr} {o : Obj} (hb : b ∈ fp) (e : s7.heap.get? b = some o) : s'.heap.get? b = some o ∧ H' b = none :=
            have z := I'.pin (b, o) (List.mem_append_right _ (List.mem_append_right _ (mem_pinsAt hb e)))
            ⟨z.1, z.2.1⟩
          refine ⟨m', hm, i + 1, H', (I'.unpinned (pins := [])).weak (by rw [← hw8, wipe_length]) (fun j v e => ?_), T.keep _ _ _ st7 fun b hb o e => (held hb e).1, fun b hb => ?_, w'⟩
          · rw [← hw8] at e
            exact (wipe_some e).1
          · obtain ⟨o, e, _⟩ := T.obj _ _ st7 b hb
            exact (held hb e).2
        cases b with
        | false =>
          simp only [Bool.false_eq_true, if_false] at q9 ⊢
          exact back I9 q9
        | true =>
          simp only [if_true] at q9 ⊢
          refine thnF (pe.run _ s9 σ8 H9 _ I9 q9) fun z s10 ⟨y, H10, I10, r10, ts, x, ey, hD10, hz10, nx⟩ => ?_
          subst ey
          exact add_run (X := X.blk S3 H3 scope ce fp) I10 hD10 hz10 r10 fun s12 I12 => back I12 nx
    exact codeAny_compStart_set loop (T.self X.A 0 _ _ _ st4 loop)
end
end Eh
set_option Elab.async false
set_option linter.all false
set_option maxRecDepth 100000
set_option maxHeartbeats 2000000
namespace Eh
open PySem PySem.Spec PyProof.Rows L2
section
variable {P : Program} {w : World} {A : Around} {E : Value → Shared → Prop} {s : Shared} {a : Addr} {ts : List Str}
theorem strs_txt : ∀ (l : List Value), (∀ v ∈ l, ∃ x tk, v = Value.str x tk) → StrsAre l (l.map fun v => txtOf (0, v))
  | [], _ => .nil
  | v :: l, h => by
    obtain ⟨x, tk, rfl⟩ := h v List.mem_cons_self
    exact .cons x tk (strs_txt l fun u hu => h u (List.mem_cons_of_mem _ hu))
theorem setT_sorted {Q : Value → Shared → Prop} (R : SetT w s.heap a ts) (hh : A.handled = none) (h64 : ts.length < 64)
    (k : ∀ s' p (out : Array Value) (c : Nat) (ys : List Str), (∀ b o, s.heap.get? b = some o → s'.heap.get? b = some o) → s'.gens = s.gens → s'.os = s.os → s.heap.objs.size ≤ p →
      s'.heap.get? p = some (seqObj "list" out c) → StrsAre out.toList ys → ys.Perm ts → sortedS ys = true → Q (.ref p) s') : wpAny (model P w) A (call (.builtin "sorted") [.ref a]) Q E s := by
  obtain ⟨nd, o, es, ep, t, ho, hx, hd, b⟩ := R
  refine Calls.call_function_entry kind_sorted plain_sorted entry_sorted (args_sorted1 _) ?_
  unfold Builtin.«sorted»
  refine wpAny_bind (m := checkCount "sorted" 1 1 _) (wpAny_pure (wpAny_bind (collect_set (A := A.in1) hh ⟨o, ho, hx.1, hd⟩ b.fits b.room b.ris b.led fun s1 vs k1 hz g1 o1 pm => ?_)))
  have hvl : vs.length = ts.length := by rw [pm.length_eq, List.length_map, Array.length_toList, b.size]
  have hS := strs_txt vs fun v hv => by
    obtain ⟨e, he, q⟩ := List.mem_map.mp (pm.mem_iff.mp hv)
    obtain ⟨x, tk, h1, _⟩ := b.good e he
    exact ⟨x, tk, by rw [← q]; exact h1⟩
  have pk : (vs.map fun v => txtOf (0, v)).Perm ts := by
    have q := pm.map fun v => txtOf (0, v)
    rw [List.map_map] at q
    exact q.trans b.perm
  refine wpAny_bind (wpAny_newList ?_ (by rw [hvl, sizeLine_eq]; omega))
  have hoL : (s1.heap.push (seqObj "list" vs.toArray 0)).get? s1.heap.objs.size = some (seqObj "list" vs.toArray 0) := Heap.get?_push_size _ rfl
  refine wpAny_bind (wpAny_holding (wpAny_call_entry slot_list_sort ⟨_, hoL, rfl⟩ entry_list_sort (list_sort_treeK strKind_oneLt hoL hS.keysOf (fun v₁ v₂ rest e => keyKind_strs (by rw [← e]; exact hS)) (by rw [hvl]; exact h64) fun st' hp hs => ⟨_, rfl, ?_⟩) (args_list_sort _)))
  obtain ⟨ys, y1, y2, y3⟩ := sorted_out_str hS hp hs
  obtain ⟨c, hc⟩ := sortedHeap_at (vs := vs) (out := (arrOf st').map (·.2)) hoL
  refine wpAny_pure ⟨_, rfl, k _ s1.heap.objs.size _ c ys (fun d u e => ?_) g1 o1 hz hc y1 (y2.trans pk) y3⟩
  have q := k1 d u e
  have hlt := Heap.lt_size q
  show (sortedHeap (s1.heap.push (seqObj "list" vs.toArray 0)) s1.heap.objs.size vs _).get? d = some u
  rw [sortedHeap_old (Nat.ne_of_lt hlt) (by rw [size_push']; exact Nat.lt_succ_of_lt hlt)]
  exact Heap.get?_push_of_some _ q
end
section
variable {X : Cx}
def rSortX (w : World) : List V → Hp → VK → Prop := fun vs H Q => ∃ (a : Addr) (ts : List Str), vs = [.ref a] ∧ H a = some (SetX w a ts) ∧ ts.Nodup ∧ ts.length < 64 ∧ ∀ (ys : List Str) p, ys.Perm ts → sortedS ys = true → H p = none → Q (.ref p) (upd H p (.lst (ys.map V.str)))
theorem sortX (hc : X.calm = true) : CallR X (.builtin "sorted") (rSortX X.w) := by
  intro pins s σ H vs us Q I r h
  obtain ⟨a, ts, rfl, ha, nd, h64, q⟩ := h
  rw [Vals.ref1 r]
  refine setT_sorted (setX_get I ha) (I.ok.hd hc) h64 fun s' p out c ys k g o hp hg hs h1 h2 => ?_
  have hlen : (ys.map V.str).length ≤ sizeLine := by rw [List.length_map, h1.length_eq, sizeLine_eq]; omega
  have hn : H p = none := I.hok.fresh hp
  obtain ⟨h', g', d', t', o'⟩ := s'
  obtain rfl : o' = s.os := o
  have J : Inv X pins σ (upd H p (.lst (ys.map V.str))) { s with heap := h', gens := g', drawn := d', toks := t' } :=
    I.call (ch := []) (Un.laid k hp hn) (I.hok.laid k hp ⟨hlen, out.toList, c, vals_of_strs hs, hg⟩) (by rw [show g' = s.gens from g]; exact I.bare) (fun _ z => nomatch z)
  exact ⟨.ref p, _, J, rfl, q ys p h1 h2 hn⟩
end
section
variable {te : TE} {tt : TT} {g : TG} {σ : L2.St} {H1 : Hp} {D : Addr} {Qd : Hp → Prop} {vs : List Nat} {K : PySem.W.Frag} {a : Addr} {xs : List V}
theorem lcTg (R : Nat → List V → Hp → Prop) (h0 : R 0 [] (upd H1 D (.lst []))) (hl : ∀ j acc H, R j acc H → SqT K H a xs)
    (hs : ∀ j x acc H, xs[j]? = some x → acc.length ≤ j → H D = some (.lst acc) → R j acc H →
      g x (wipe σ vs) H fun σ2 H2 => wipe σ2 vs = wipe σ vs ∧ tt σ2 H2 fun b H3 => if b = true then te σ2 H3 (LcK R D j) else LcP R D (j + 1) H3)
    (hd : ∀ acc H, acc.length ≤ xs.length → H D = some (.lst acc) → R xs.length acc H → Qd H) : LcGoal (Itt K a) g tt te vs σ H1 D Qd := by
  refine ⟨fun j m H => m = xs.length - j ∧ j ≤ xs.length ∧ LcP R D j H, ⟨xs.length, by omega, Nat.zero_le _, [], Nat.le_refl _, upd_same, h0⟩, ?_⟩
  rintro j m H ⟨rfl, hj, acc, hlen, e, r⟩
  have q := hl _ _ _ r
  by_cases hlt : j < xs.length
  · refine .inr ⟨⟨xs, xs[j], q, List.getElem?_eq_getElem hlt⟩, LcP R D (j + 1), fun H' p => ⟨xs.length - (j + 1), by omega, rfl, hlt, p⟩, fun x H' y => ?_⟩
    obtain ⟨rfl, y⟩ := y
    exact hs j x acc _ (y xs q) hlen e r
  · have ej : j = xs.length := by omega
    subst ej
    exact .inl ⟨⟨xs, q, Nat.le_refl _⟩, hd acc H hlen e r⟩
def ScP (w : World) (R : Nat → List Str → Hp → Prop) (D : Addr) (j : Nat) (H : Hp) : Prop := ∃ ts, ts.length ≤ j ∧ H D = some (SetX w D ts) ∧ R j ts H
def ScK (w : World) (R : Nat → List Str → Hp → Prop) (D : Addr) (j : Nat) : VK := fun y H4 => ∃ ts z, y = .str z ∧ H4 D = some (SetX w D ts) ∧ ts.length < 1000 ∧ ScP w R D (j + 1) (upd H4 D (SetX w D (put z ts)))
theorem put_len (z : Str) (ts : List Str) : (put z ts).length ≤ ts.length + 1 := by
  unfold put
  split
  · omega
  · simp
theorem ScK.mk {w : World} {R : Nat → List Str → Hp → Prop} {j : Nat} {ts : List Str} {z : Str} {H : Hp} (hl : ts.length ≤ j) (hj : j < 1000) (e : H D = some (SetX w D ts)) (r : R (j + 1) (put z ts) (upd H D (SetX w D (put z ts)))) : ScK w R D j (.str z) H :=
  ⟨ts, z, rfl, e, by omega, put z ts, Nat.le_trans (put_len z ts) (by omega), upd_same, r⟩
theorem scTg {w : World} (R : Nat → List Str → Hp → Prop) (h0 : R 0 [] (upd H1 D (SetX w D []))) (hl : ∀ j acc H, R j acc H → SqT K H a xs)
    (hs : ∀ j x ts H, xs[j]? = some x → ts.length ≤ j → H D = some (SetX w D ts) → R j ts H →
      g x (wipe σ vs) H fun σ2 H2 => wipe σ2 vs = wipe σ vs ∧ tt σ2 H2 fun b H3 => if b = true then te σ2 H3 (ScK w R D j) else ScP w R D (j + 1) H3)
    (hd : ∀ ts H, ts.length ≤ xs.length → H D = some (SetX w D ts) → R xs.length ts H → Qd H) :
    ∃ W : Nat → Nat → Hp → Prop, (∃ m, W 0 m (upd H1 D (SetX w D []))) ∧ ∀ i m H, W i m H →
      ((Itt K a).stop i H ∧ Qd H) ∨ ((Itt K a).go i H ∧ ∃ Nx : Hp → Prop, (∀ H', Nx H' → ∃ m', m' < m ∧ W (i + 1) m' H') ∧ ∀ x H', (Itt K a).yld i H x H' → g x (wipe σ vs) H' fun σ2 H2 => wipe σ2 vs = wipe σ vs ∧ tt σ2 H2 fun b H3 =>
        if b = true then te σ2 H3 fun y H4 => ∃ ts z, y = .str z ∧ H4 D = some (SetX w D ts) ∧ ts.length < 1000 ∧ Nx (upd H4 D (SetX w D (put z ts))) else Nx H3) := by
  refine ⟨fun j m H => m = xs.length - j ∧ j ≤ xs.length ∧ ScP w R D j H, ⟨xs.length, by omega, Nat.zero_le _, [], Nat.le_refl _, upd_same, h0⟩, ?_⟩
  rintro j m H ⟨rfl, hj, ts, hlen, e, r⟩
  have q := hl _ _ _ r
  by_cases hlt : j < xs.length
  · refine .inr ⟨⟨xs, xs[j], q, List.getElem?_eq_getElem hlt⟩, ScP w R D (j + 1), fun H' p => ⟨xs.length - (j + 1), by omega, rfl, hlt, p⟩, fun x H' y => ?_⟩
    obtain ⟨rfl, y⟩ := y
    exact hs j x ts _ (y xs q) hlen e r
  · have ej : j = xs.length := by omega
    subst ej
    exact .inl ⟨⟨xs, q, Nat.le_refl _⟩, hd ts H hlen e r⟩
end
end Eh
set_option Elab.async false
set_option linter.all false
set_option maxRecDepth 100000
namespace Eh
open PySem PySem.Spec PyProof.Rows L2
inductive Pl
  | leaf (k : Str) (t : V)
  | node (k : Str) (ps : List Pl)
mutual
def nodesOf : Pl → List (Str × V)
  | .leaf k t => [(k, t)]
  | .node k ps => (k, .int (ps.length : Int)) :: nodesAll ps
def nodesAll : List Pl → List (Str × V)
  | [] => []
  | p :: ps => nodesOf p ++ nodesAll ps
end
def leafOk (k : Str) (t : V) : Bool := match t with
  | .str _ => k == "fact" || k == "not"
  | .int i => (k == "yes" || k == "no") && decide (i = 0)
  | _ => false
def nodeKinds : List Str := ["all", "some", "mine", "yours"]
def nodeOk (k : Str) : Bool := nodeKinds.contains k
mutual
inductive At (K : PySem.W.Frag) (H : Hp) : V → Pl → Prop
  | leaf {a : Addr} {k : Str} {t : V} : SqT K H a [.str k, t] → leafOk k t = true → At K H (.ref a) (.leaf k t)
  | node {a b : Addr} {k : Str} {vs : List V} {ps : List Pl} : SqT K H a [.str k, .ref b] → SqT K H b vs → nodeOk k = true → 2 ≤ ps.length → ps.length ≤ 4 → AtAll K H vs ps → At K H (.ref a) (.node k ps)
inductive AtAll (K : PySem.W.Frag) (H : Hp) : List V → List Pl → Prop
  | nil : AtAll K H [] []
  | cons {v : V} {vs : List V} {p : Pl} {ps : List Pl} : At K H v p → AtAll K H vs ps → AtAll K H (v :: vs) (p :: ps)
end
/-- the tuples stay -/
def Tk (H H' : Hp) : Prop := ∀ a xs, Rd H a (.tup xs) → Rd H' a (.tup xs)
theorem Tk.refl {H : Hp} : Tk H H := fun _ _ h => h
theorem Tk.trans {H H1 H2 : Hp} (a : Tk H H1) (b : Tk H1 H2) : Tk H H2 := fun p xs h => b p xs (a p xs h)
theorem Tk.seq {K : PySem.W.Frag} {H H' : Hp} {a : Addr} {xs : List V} (t : Tk H H') (h : SqT K H a xs) : SqT K H' a xs := h.imp (t a xs) id
theorem stk {H H' : Hp} (s : Same H H') : Tk H H' := fun a xs h => h.imp (s a _) fun ⟨o, e⟩ => ⟨o, s a _ e⟩
theorem Gr.tk {d : Addr} {H H' : Hp} (g : Gr d H H') (D : D3 H d) : Tk H H' := fun a xs h => by
  obtain ⟨x, b, c, e⟩ := D
  rcases h with h | ⟨o, h⟩
  · exact .inl (g.keep a _ (fun z => by rw [z, e] at h; cases h) h)
  · exact .inr ⟨o, g.keep a _ (fun z => by rw [z, e] at h; cases h) h⟩
theorem Tk.new {H : Hp} {l : Addr} {o : HO} (n : H l = none) : Tk H (upd H l o) := stk (same_new n)
theorem Tk.put {H : Hp} {l : Addr} {xs ys : List V} (e : H l = some (.lst xs)) : Tk H (upd H l (.lst ys)) := fun a zs h => by
  have n : a ≠ l := fun z => by
    rw [z] at h
    rcases h with h | ⟨o, h⟩
    · rw [e] at h; cases h
    · rw [e] at h; cases h
  rcases h with h | ⟨o, h⟩
  · exact .inl (by rw [upd_ne n]; exact h)
  · exact .inr ⟨o, by rw [upd_ne n]; exact h⟩
mutual
theorem At.tk {K : PySem.W.Frag} {H H' : Hp} (t : Tk H H') : ∀ {v : V} {p : Pl}, At K H v p → At K H' v p
  | _, _, .leaf h o => .leaf (t.seq h) o
  | _, _, .node h1 h2 o a b r => .node (t.seq h1) (t.seq h2) o a b (AtAll.tk t r)
theorem AtAll.tk {K : PySem.W.Frag} {H H' : Hp} (t : Tk H H') : ∀ {vs : List V} {ps : List Pl}, AtAll K H vs ps → AtAll K H' vs ps
  | _, _, .nil => .nil
  | _, _, .cons h r => .cons (At.tk t h) (AtAll.tk t r)
end
theorem AtAll.length {K : PySem.W.Frag} {H : Hp} : ∀ {vs : List V} {ps : List Pl}, AtAll K H vs ps → vs.length = ps.length
  | _, _, .nil => rfl
  | _, _, .cons _ r => by rw [List.length_cons, List.length_cons, r.length]
theorem AtAll.get {K : PySem.W.Frag} {H : Hp} : ∀ {vs : List V} {ps : List Pl}, AtAll K H vs ps → ∀ {i : Nat} {v : V}, vs[i]? = some v → ∃ p, ps[i]? = some p ∧ At K H v p
  | _, _, .nil, i, v, h => by simp at h
  | _, _, .cons (v := x) (p := p) hp r, 0, v, h => by
    cases (show some x = some v from h)
    exact ⟨p, rfl, hp⟩
  | _, _, .cons hp r, i + 1, v, h => r.get (i := i) h
theorem AtAll.snoc {K : PySem.W.Frag} {H : Hp} : ∀ {vs : List V} {ps : List Pl} {v : V} {p : Pl}, AtAll K H vs ps → At K H v p → AtAll K H (vs ++ [v]) (ps ++ [p])
  | _, _, _, _, .nil, h => .cons h .nil
  | _, _, _, _, .cons h r, h' => .cons h (r.snoc h')
theorem nodesAll_append : ∀ (ps qs : List Pl), nodesAll (ps ++ qs) = nodesAll ps ++ nodesAll qs
  | [], qs => by rw [List.nil_append, nodesAll, List.nil_append]
  | p :: ps, qs => by rw [List.cons_append, nodesAll, nodesAll, nodesAll_append ps qs, List.append_assoc]
theorem nodesOf_pos (p : Pl) : 0 < (nodesOf p).length := by
  cases p with
  | leaf k t => rw [nodesOf]; exact Nat.one_pos
  | node k ps => rw [nodesOf]; exact Nat.succ_pos _
theorem nodesOf_get : ∀ {ps : List Pl} {i : Nat} {p : Pl}, ps[i]? = some p → (nodesOf p).length ≤ (nodesAll ps).length
  | [], _, _, h => by simp at h
  | q :: ps, 0, p, h => by
    cases (show some q = some p from h)
    rw [nodesAll, List.length_append]
    omega
  | q :: ps, i + 1, p, h => by
    have := nodesOf_get (ps := ps) (i := i) h
    rw [nodesAll, List.length_append]
    omega
theorem nodesAll_take : ∀ {ps : List Pl} {i : Nat} {p : Pl}, ps[i]? = some p → nodesAll (ps.take (i + 1)) = nodesAll (ps.take i) ++ nodesOf p
  | [], _, _, h => by simp at h
  | q :: ps, 0, p, h => by
    cases (show some q = some p from h)
    show nodesAll [q] = nodesAll [] ++ nodesOf q
    show nodesOf q ++ nodesAll [] = [] ++ nodesOf q
    rw [show nodesAll [] = [] from by rw [nodesAll], List.append_nil, List.nil_append]
  | q :: ps, i + 1, p, h => by
    show nodesAll (q :: ps.take (i + 1)) = nodesAll (q :: ps.take i) ++ nodesOf p
    rw [nodesAll, nodesAll, nodesAll_take (ps := ps) (i := i) h, List.append_assoc]
/-- nodes as they stand: pairs -/
inductive NdsAt (K : PySem.W.Frag) (H : Hp) : List V → List (Str × V) → Prop
  | nil : NdsAt K H [] []
  | cons {a : Addr} {k : Str} {t : V} {vs : List V} {ns : List (Str × V)} : SqT K H a [.str k, t] → NdsAt K H vs ns → NdsAt K H (.ref a :: vs) ((k, t) :: ns)
theorem NdsAt.tk {K : PySem.W.Frag} {H H' : Hp} (t : Tk H H') : ∀ {vs : List V} {ns : List (Str × V)}, NdsAt K H vs ns → NdsAt K H' vs ns
  | _, _, .nil => .nil
  | _, _, .cons h r => .cons (t.seq h) (r.tk t)
theorem NdsAt.length {K : PySem.W.Frag} {H : Hp} : ∀ {vs : List V} {ns : List (Str × V)}, NdsAt K H vs ns → vs.length = ns.length
  | _, _, .nil => rfl
  | _, _, .cons _ r => by rw [List.length_cons, List.length_cons, r.length]
theorem NdsAt.app {K : PySem.W.Frag} {H : Hp} : ∀ {vs us : List V} {ns ms : List (Str × V)}, NdsAt K H vs ns → NdsAt K H us ms → NdsAt K H (vs ++ us) (ns ++ ms)
  | _, _, _, _, .nil, h => h
  | _, _, _, _, .cons h r, h' => .cons h (r.app h')
theorem NdsAt.get {K : PySem.W.Frag} {H : Hp} : ∀ {vs : List V} {ns : List (Str × V)}, NdsAt K H vs ns → ∀ {i : Nat} {v : V}, vs[i]? = some v → ∃ a k t, v = .ref a ∧ ns[i]? = some (k, t) ∧ SqT K H a [.str k, t]
  | _, _, .nil, i, v, h => by simp at h
  | _, _, .cons (a := a) (k := k) (t := t) hp r, 0, v, h => by
    cases (show some (V.ref a) = some v from h)
    exact ⟨a, k, t, rfl, rfl, hp⟩
  | _, _, .cons hp r, i + 1, v, h => r.get (i := i) h
def isLeaf : Pl → Bool
  | .leaf _ _ => true
  | .node _ _ => false
def leafKinds : List Str := ["fact", "not", "yes", "no"]
theorem leaf_kind {k : Str} {t : V} (h : leafOk k t = true) : leafKinds.contains k = true := by
  unfold leafOk at h
  cases t with
  | str z =>
    rcases (Bool.or_eq_true _ _).mp h with h | h
    · rw [eq_of_beq h]; decide +kernel
    · rw [eq_of_beq h]; decide +kernel
  | int i =>
    rcases (Bool.or_eq_true _ _).mp ((Bool.and_eq_true _ _).mp h).1 with h | h
    · rw [eq_of_beq h]; decide +kernel
    · rw [eq_of_beq h]; decide +kernel
  | _ => cases h
theorem node_cases {k : Str} (h : nodeOk k = true) : k = "all" ∨ k = "some" ∨ k = "mine" ∨ k = "yours" := by
  unfold nodeOk nodeKinds at h
  rw [List.contains_iff_mem] at h
  simpa only [List.mem_cons, List.not_mem_nil, or_false] using h
theorem node_kind {k : Str} (h : nodeOk k = true) : leafKinds.contains k = false := by
  rcases node_cases h with rfl | rfl | rfl | rfl <;> decide +kernel
theorem inV_strs (k : Str) (ws : List Str) : inV (.str k) (ws.map V.str) = ws.contains k := by
  unfold inV
  rw [List.any_map, List.contains_eq_any_beq]
  congr 1
  funext z
  show (z == k) = (k == z)
  rw [Bool.eq_iff_iff, beq_iff_eq, beq_iff_eq]
  exact eq_comm
section
variable {P : Program} {w : World} {K : PySem.W.Frag} {mg : Str → Option Value} {base : Heap}
def spIsLeaf (K : PySem.W.Frag) : Sp := fun vs H Q _ => ∃ v pl, vs = [v] ∧ At K H v pl ∧ ∀ H', Same H H' → Q (.bl (isLeaf pl)) H'
theorem ok_is_leaf {f : Addr} {fd : FuncData} (F : Fun K "_law_is_leaf" "_law_is_leaf" s__law_is_leaf f fd) (T : Txt mg) : FnOk P w K mg base CX0 1 f fd ["plain"] (spIsLeaf K) := by
  refine F.ok sc__law_is_leaf (fun vs H Q E h => ?_) (fun cdv A outer s H vs Q E hr h => ?_)
  · obtain ⟨v, pl, rfl, _⟩ := h
    rfl
  · obtain ⟨v, pl, rfl, hA, q⟩ := h
    refine ⟨_, (pss_one (ps_ret (pe_cmpR (inQ (K := K) rfl) (pe_ix (ixT (K := K) rfl) (pv 0) pe_int (fun _ _ => rfl)) (pe_lst (pa_cons pe_str (pa_cons pe_str (pa_cons pe_str (pa_cons pe_str pa_nil))))) (by rfl)))), ?_⟩
    obtain ⟨a, k, t, rfl, hk, hb⟩ : ∃ a k t, v = .ref a ∧ SqT K H a [.str k, t] ∧ leafKinds.contains k = isLeaf pl := by
      cases hA with
      | leaf h o => exact ⟨_, _, _, rfl, h, leaf_kind o⟩
      | node h1 _ o _ _ _ => exact ⟨_, _, _, rfl, h1, node_kind o⟩
    refine ⟨_, rfl, a, _, 0, .str k, rfl, rfl, hk, rfl, lenOk 4, fun p np => ?_⟩
    refine ⟨p, leafKinds.map V.str, rfl, .inl (SqL.of upd_same), rfl, flat_strs _, ?_⟩
    rw [inV_strs, hb]
    exact q _ (same_new np)
def spNodes (K : PySem.W.Frag) (n : Nat) : Sp := fun vs H Q _ => ∃ v pl, vs = [v] ∧ At K H v pl ∧ (nodesOf pl).length ≤ n ∧ n < 1000 ∧ ∀ xs p H', Same H H' → H p = none → H' p = some (.lst xs) → NdsAt K H' xs (nodesOf pl) → Q (.ref p) H'
theorem ok_nodes {f fL : Addr} {fd fdL : FuncData} (F : Fun K "_law_nodes" "_law_nodes" s__law_nodes f fd) (T : Txt mg) (C__law_is_leaf : Cal P w K mg base 1 "_law_is_leaf" fL fdL ["plain"] (spIsLeaf K))
    (m : mg "_law_nodes" = some (.ref f)) (kp : PySem.W.keepIn K (.ref f) = true) (b : Binds K fd ["plain"] []) : ∀ n : Nat, FnOk P w K mg base CX0 (n + 1) f fd ["plain"] (spNodes K n)
  | 0 => F.ok sc__law_nodes (fun vs H Q E h => by
      obtain ⟨v, pl, rfl, _⟩ := h
      rfl) (fun cdv A outer s H vs Q E hr h => by
      obtain ⟨v, pl, rfl, _, h0, _⟩ := h
      have := nodesOf_pos pl
      omega)
  | n + 1 => by
    have G := ok_nodes F T C__law_is_leaf m kp b n
    refine F.ok sc__law_nodes (fun vs H Q E h => ?_) (fun cdv A outer s H vs Q E hr h => ?_)
    · obtain ⟨v, pl, rfl, _⟩ := h
      rfl
    · obtain ⟨v, pl, rfl, hA, hn, hn1, q⟩ := h
      have hr1 := hr.mono (j := 1) (by omega)
      refine ⟨_, (pss_cons (ps_if (pt_val (pe_call C__law_is_leaf.G hr1 (by rfl) C__law_is_leaf.m C__law_is_leaf.k C__law_is_leaf.b .nil pass0 (pa_cons (pv 0) pa_nil)))
  (pss_one (ps_ret (pe_lst (pa_cons (pv 0) pa_nil))))
  pss_nil)
  (pss_cons (ps_set (i := 1) sc__law_nodes.nd rfl (.inl rfl) (pe_lst (pa_cons (pe_tup (pa_cons (pe_ix (ixT (K := K) rfl) (pv 0) pe_int (fun _ _ => rfl)) (pa_cons (pe_callB (lenQ (K := K) rfl) (by rfl) T.len_ (by decide +kernel) (pa_cons (pe_ix (ixT (K := K) rfl) (pv 0) pe_int (fun _ _ => rfl)) pa_nil)) pa_nil))) pa_nil)))
  (pss_cons (ps_for PassesOwn.never (by rfl) (pi_tup (pe_ix (ixT (K := K) rfl) (pv 0) pe_int (fun _ _ => rfl))) (pg_name (i := 2) sc__law_nodes.nd rfl (.inl rfl))
  (pss_one (ps_set (i := 1) sc__law_nodes.nd rfl (.inl rfl) (pe_op op_cat (pv 1) (pe_call G hr (by rfl) m kp b .nil pass0 (pa_cons (pv 2) pa_nil))))))
  (pss_one (ps_ret (pv 1)))))), ?_⟩
      refine ⟨_, rfl, v, pl, rfl, hA, fun H1 s1 => ?_⟩
      refine ⟨_, rfl, ?_⟩
      cases hA with
      | leaf h o =>
        rename_i a k t
        refine iteT ?_
        refine ⟨_, rfl, lenOk 1, fun p np => ?_⟩
        have s2 := s1.trans (same_new (o := .lst [V.ref a]) np)
        refine q _ p _ s2 (s1.free np) upd_same ?_
        rw [nodesOf]
        exact .cons ((stk s2).seq h) .nil
      | node h1 h2 o a1 a2 r =>
        rename_i a c k vs ps
        refine iteF ?_
        refine ⟨_, rfl, a, _, 0, .str k, rfl, rfl, (stk s1).seq h1, rfl, _, rfl, a, _, 1, .ref c, rfl, rfl, (stk s1).seq h1, rfl, ?_⟩
        refine .inl ⟨c, vs, rfl, .inr ((stk s1).seq h2), lenOk 2, fun t nt => ⟨lenOk 1, fun l nl => ?_⟩⟩
        have s2 := s1.trans (same_new (o := .tup [.str k, .int (vs.length : Int)]) nt)
        have s3 := s2.trans (same_new (o := .lst [V.ref t]) nl)
        have nlt : l ≠ t := fun e => by rw [e, upd_same] at nl; cases nl
        have nH : H l = none := s2.free nl
        have hlen := r.length
        have hn' : (nodesAll ps).length ≤ n := by
          rw [nodesOf, List.length_cons] at hn
          omega
        refine ⟨_, rfl, a, _, 1, .ref c, rfl, rfl, (stk s3).seq h1, rfl, c, rfl, ⟨vs, (stk s3).seq h2⟩, for_tup (K := K) (a := c) (xs := vs) (fun i σ H2 => ∃ x l xs, σ = [some (.ref a), some (.ref l), x] ∧ Same H H2 ∧ H l = none ∧ H2 l = some (.lst xs) ∧ NdsAt K H2 xs ((k, .int (ps.length : Int)) :: nodesAll (ps.take i))) ?_ (fun i σ H2 _ h => ?_) ?_ ?_⟩
        · refine ⟨none, l, _, rfl, s3, nH, upd_same, ?_⟩
          rw [← hlen]
          have e : (nodesAll (ps.take 0)) = [] := by rw [List.take_zero, nodesAll]
          rw [e]
          exact .cons (SqT.of (by rw [upd_ne nlt.symm]; exact upd_same)) .nil
        · obtain ⟨_, _, _, _, s4, _⟩ := h
          exact (stk s4).seq h2
        · rintro i v2 σ H2 hi ⟨x, l2, xs, rfl, s4, n4, e4, d4⟩
          obtain ⟨p2, hp2, hA2⟩ := r.get hi
          refine ⟨_, rfl, _, rfl, v2, p2, rfl, hA2.tk (stk s4), Nat.le_trans (nodesOf_get hp2) hn', by omega, fun ys p5 H5 s5 n5 e5 d5 => ?_⟩
          have b1 := (d4.tk (stk s5)).length
          have b2 := d5.length
          have b3 := nodesOf_get hp2
          have b4 : (nodesAll (ps.take i)).length ≤ n := by
            have := congrArg List.length (nodesAll_append (ps.take i) (ps.drop i))
            rw [List.take_append_drop, List.length_append] at this
            omega
          rw [List.length_cons] at b1
          refine ⟨l2, p5, xs, ys, rfl, rfl, s5 _ _ e4, e5, Nat.le_of_lt (small (by omega)), fun p6 n6 => ?_⟩
          have s6 := s5.trans (same_new (o := .lst (xs ++ ys)) n6)
          refine ⟨_, p6, _, rfl, s4.trans s6, (s4.trans s5).free n6, upd_same, ?_⟩
          rw [nodesAll_take hp2, ← List.cons_append]
          exact (d4.tk (stk s6)).app (d5.tk (Tk.new n6))
        · rintro σ H2 ⟨x, l2, xs, rfl, s4, n4, e4, d4⟩
          refine ⟨_, rfl, q xs l2 H2 s4 n4 e4 ?_⟩
          rw [nodesOf]
          have e : ps.take vs.length = ps := by rw [hlen]; exact List.take_length
          rw [e] at d4
          exact d4
end
end Eh
set_option Elab.async false
set_option linter.all false
set_option maxRecDepth 100000
namespace Eh
open PySem PySem.Spec PyProof.Rows L2
theorem off_gr {d : Addr} {H H' : Hp} (D : D3 H' d) (k : ∀ b, b ≠ d → H' b = H b) : Gr d H H' := ⟨D, fun a o n e => by rw [k a n]; exact e⟩
theorem same_gr {d : Addr} {H H' : Hp} (D : D3 H d) (s : Same H H') : Gr d H H' := by
  obtain ⟨g, b, c, e⟩ := D
  exact ⟨⟨g, b, c, s _ _ e⟩, fun a o _ z => s a o z⟩
theorem gr_same {d : Addr} {H0 H H' : Hp} (n : H0 d = none) (s : Same H0 H) (g : Gr d H H') : Same H0 H' := fun b o e => g.keep b o (ne_of_none e n) (s b o e)
theorem lenS (n : Nat) {m : Nat} (e : m = n := by rfl) (h : n < 1000000 := by decide) : m ≤ sizeLine := by
  rw [e]
  exact Nat.le_of_lt (small h)
theorem iteT' {c : Bool} {A B : Prop} (e : c = true) (h : A) : if c = true then A else B := by
  rw [if_pos e]
  exact h
theorem iteF' {c : Bool} {A B : Prop} (e : c = false) (h : B) : if c = true then A else B := by
  rw [e]
  exact iteF h
/-- how many nodes are of some kinds -/
def countIn (ws : List Str) (ns : List (Str × V)) : Nat := (ns.filter fun n => ws.contains n.1).length
theorem countIn_app (ws : List Str) (a b : List (Str × V)) : countIn ws (a ++ b) = countIn ws a + countIn ws b := by
  unfold countIn
  rw [List.filter_append, List.length_append]
theorem countIn_one (ws : List Str) (k : Str) (u : V) : countIn ws [(k, u)] = if ws.contains k = true then 1 else 0 := by
  unfold countIn
  rw [List.filter_cons]
  show (if ws.contains k = true then _ else _ : List (Str × V)).length = _
  split <;> rfl
theorem take_succ' {α : Type} {l : List α} {j : Nat} {c : α} (h : l[j]? = some c) : l.take (j + 1) = l.take j ++ [c] := by
  rw [List.take_add_one, h]
  rfl
/-- its words are among some -/
def InW (ws : List Str) (ns : List (Str × V)) : Prop := ∀ k z, (k, V.str z) ∈ ns → z ∈ ws
section
variable {P : Program} {w : World} {K : PySem.W.Frag} {mg : Str → Option Value} {base : Heap}
def spCount (K : PySem.W.Frag) (n : Nat) : Sp := fun vs H Q _ => ∃ v pl a ws, vs = [v, .ref a] ∧ At K H v pl ∧ SqL K H a (ws.map V.str) ∧ (nodesOf pl).length ≤ n ∧ n < 1000 ∧ ∀ H', Same H H' → Q (.int (countIn ws (nodesOf pl))) H'
theorem ok_count {n : Nat} {f fN : Addr} {fd fdN : FuncData} (F : Fun K "_law_count" "_law_count" s__law_count f fd) (T : Txt mg) (C__law_nodes : Cal P w K mg base (n + 1) "_law_nodes" fN fdN ["plain"] (spNodes K n)) :
    FnOk P w K mg base CX0 (n + 2) f fd ["plain", "kinds"] (spCount K n) := by
  refine F.ok sc__law_count (fun vs H Q E h => ?_) (fun cdv A outer s H vs Q E hr h => ?_)
  · obtain ⟨v, pl, a, ws, rfl, _⟩ := h
    rfl
  · obtain ⟨v, pl, a, ws, rfl, hA, hS, hn, hn1, q⟩ := h
    refine ⟨_, (pss_one (ps_ret (pe_callB (lenQ (K := K) rfl) (by rfl) T.len_ (by decide +kernel) (pa_cons (pe_lc (own := [("node", 2)]) (g := gName 2) (by rfl) sc__law_count.nd (piL (K := K) rfl (pe_call C__law_nodes.G hr (by rfl) C__law_nodes.m C__law_nodes.k C__law_nodes.b .nil pass0 (pa_cons (pv 0) pa_nil))) (blkOk_by (by kernel_rfl)) (fun _ _ _ _ _ => (pg_name (i := 2) sc__law_count.nd rfl (.inl rfl))) (fun _ _ _ _ _ => (pts_one (pt_cmpR (inQ (K := K) rfl) (pe_ix (ixT (K := K) rfl) (pv 2) pe_int (fun _ _ => rfl)) (pv 1) (by rfl)))) (fun _ _ _ _ _ => (pv 2))) pa_nil)))), ?_⟩
    refine ⟨_, rfl, v, pl, rfl, hA, hn, hn1, fun xs p H1 s1 n1 e1 d1 => ?_⟩
    refine ⟨p, rfl, ⟨xs, SqL.of e1⟩, fun D nD => ?_⟩
    have s2 := s1.trans (same_new (o := .lst []) nD)
    have nDH : H D = none := s1.free nD
    have npD : p ≠ D := ne_of_none e1 nD
    have hl := d1.length
    refine lcL (fun j acc H2 => Same H H2 ∧ H2 p = some (.lst xs) ∧ NdsAt K H2 xs (nodesOf pl) ∧ acc.length = countIn ws ((nodesOf pl).take j)) ⟨s2, by rw [upd_ne npD]; exact e1, d1.tk (Tk.new nD), rfl⟩ (fun j acc H2 h => SqL.of h.2.1) ?_ ?_
    · rintro j x acc H2 hx hl2 e2 ⟨s3, e3, d3, ea⟩
      obtain ⟨t, k, u, rfl, hk, ht⟩ := d3.get hx
      have hj : j < 1000 := by
        have := (List.getElem?_eq_some_iff.mp hx).1
        omega
      refine ⟨_, rfl, t, _, 0, .str k, rfl, rfl, ht, rfl, _, rfl, a, ws.map V.str, rfl, .inl (s3.seq hS), rfl, flat_strs _, _, rfl, ?_⟩
      rw [inV_strs]
      have et : countIn ws ((nodesOf pl).take (j + 1)) = countIn ws ((nodesOf pl).take j) + countIn ws [(k, u)] := by rw [take_succ' hk, countIn_app]
      cases ek : ws.contains k with
      | true =>
        refine iteT ⟨_, rfl, ?_⟩
        refine LcK.mk hl2 (by omega) e2 ⟨fun b o eb => ?_, ?_, d3.tk (Tk.put e2), ?_⟩
        · rw [upd_ne (ne_of_none eb nDH)]
          exact s3 b o eb
        · rw [upd_ne npD]
          exact e3
        · rw [List.length_append, ea, et]
          rw [countIn_one, if_pos ek]
          rfl
      | false =>
        refine iteF ⟨acc, by omega, e2, s3, e3, d3, ?_⟩
        rw [ea, et]
        rw [countIn_one, if_neg (by rw [ek]; exact Bool.false_ne_true)]
        rfl
    · rintro acc H2 hl2 e2 ⟨s3, e3, d3, ea⟩
      refine .inl ⟨D, acc, rfl, .inl (SqL.of e2), ?_⟩
      rw [hl, List.take_length] at ea
      rw [ea]
      exact q H2 s3
def spLeaf (K : PySem.W.Frag) : Sp := fun vs H Q _ => ∃ d a ws, vs = [.ref d, .ref a] ∧ D3 H d ∧ SqL K H a (ws.map V.str) ∧ a ≠ d ∧ 0 < ws.length ∧ ws.length < 1000000 ∧
  ∀ v k t H', Gr d H H' → At K H' v (.leaf k t) → InW ws [(k, t)] → Q v H'
theorem ok_leaf {f fR fP : Addr} {fd fdR fdP : FuncData} (F : Fun K "_law_leaf" "_law_leaf" s__law_leaf f fd) (T : Txt mg) (C__law_roll : Cal P w K mg base 1 "_law_roll" fR fdR ["dice", "many"] spRoll)
    (C__law_pick : Cal P w K mg base 2 "_law_pick" fP fdP ["dice", "items"] (spPick K)) : FnOk P w K mg base CX0 3 f fd ["dice", "words"] (spLeaf K) := by
  refine F.ok sc__law_leaf (fun vs H Q E h => ?_) (fun cdv A outer s H vs Q E hr h => ?_)
  · obtain ⟨d, a, ws, rfl, _⟩ := h
    rfl
  · obtain ⟨d, a, ws, rfl, D, hS, hn, h0, h1, q⟩ := h
    have hr1 := hr.mono (j := 1) (by omega)
    refine ⟨_, (pss_cons (ps_set (i := 2) sc__law_leaf.nd rfl (.inl rfl) (pe_call C__law_roll.G hr1 (by rfl) C__law_roll.m C__law_roll.k C__law_roll.b .nil pass0 (pa_cons (pv 0) (pa_cons pe_int pa_nil))))
  (pss_cons (ps_if (pt_cmpR op_lt (pv 2) pe_int (nomark _))
  (pss_one (ps_ret (pe_ix (ixL (K := K) rfl) (pe_lst (pa_cons (pe_tup (pa_cons pe_str (pa_cons pe_int pa_nil))) (pa_cons (pe_tup (pa_cons pe_str (pa_cons pe_int pa_nil))) pa_nil))) (pv 2) (fun _ _ => rfl))))
  pss_nil)
  (pss_one (ps_ret (pe_tup (pa_cons (pe_ix (ixL (K := K) rfl) (pe_lst (pa_cons pe_str (pa_cons pe_str pa_nil))) (pe_op op_modN (pv 2) pe_int) (fun _ _ => rfl)) (pa_cons (pe_call C__law_pick.G hr (by rfl) C__law_pick.m C__law_pick.k C__law_pick.b .nil pass0 (pa_cons (pv 0) (pa_cons (pv 1) pa_nil))) pa_nil))))))), ?_⟩
    refine ⟨_, rfl, d, 9, rfl, D, by decide, by decide, fun r H1 r0 r1 D1 k1 => ?_⟩
    have g1 := off_gr (H := H) D1 k1
    refine ⟨_, rfl, r, 2, rfl, rfl, _, rfl, ite2 (fun hlt => ?_) (fun _ => ?_)⟩
    · have hlt : r < 2 := of_decide_eq_true hlt
      refine ⟨lenOk 2, fun t1 n1 => ⟨lenOk 2, fun t2 n2 => ⟨lenOk 2, fun l n3 => ?_⟩⟩⟩
      have a1 := Gr.laid (o := .tup [.str "yes", .int 0]) g1.dice n1
      have a2 := Gr.laid (o := .tup [.str "no", .int 0]) a1.dice n2
      have a3 := Gr.laid (o := .lst [.ref t1, .ref t2]) a2.dice n3
      have n12 : t1 ≠ t2 := ne_of_none (upd_same) n2
      have n13 : t1 ≠ l := ne_of_none (H := upd (upd H1 t1 _) t2 _) (by rw [upd_ne n12]; exact upd_same) n3
      have n23 : t2 ≠ l := ne_of_none upd_same n3
      have r01 : r = 0 ∨ r = 1 := by omega
      rcases r01 with rfl | rfl
      · refine ⟨_, rfl, l, _, 0, _, rfl, rfl, SqL.of upd_same, rfl, q _ "yes" (.int 0) _ (g1.trans (a1.trans (a2.trans a3))) (.leaf (SqT.of ?_) (by decide +kernel)) (fun k z hz => ?_)⟩
        · rw [upd_ne n13, upd_ne n12]
          exact upd_same
        · rw [List.mem_singleton] at hz
          cases hz
      · refine ⟨_, rfl, l, _, 1, _, rfl, rfl, SqL.of upd_same, rfl, q _ "no" (.int 0) _ (g1.trans (a1.trans (a2.trans a3))) (.leaf (SqT.of ?_) (by decide +kernel)) (fun k z hz => ?_)⟩
        · rw [upd_ne n23]
          exact upd_same
        · rw [List.mem_singleton] at hz
          cases hz
    · refine ⟨lenOk 2, fun l n1 => ?_⟩
      have a1 := Gr.laid (o := .lst [.str "fact", .str "not"]) g1.dice n1
      refine ⟨_, rfl, _, _, rfl, rfl, (show (2 : Int) ≠ 0 by decide), ?_⟩
      have b0 := fmod_in (i := r) (m := 2) (by decide)
      obtain ⟨k, ek, hk⟩ : ∃ k, atI [V.str "fact", .str "not"] (r.fmod 2) = some (.str k) ∧ (k = "fact" ∨ k = "not") := by
        have : r.fmod 2 = 0 ∨ r.fmod 2 = 1 := by omega
        rcases this with e | e
        · exact ⟨"fact", by rw [e]; rfl, .inl rfl⟩
        · exact ⟨"not", by rw [e]; rfl, .inr rfl⟩
      have g2 := g1.trans a1
      refine ⟨l, _, _, _, rfl, rfl, SqL.of upd_same, ek, _, rfl, _, rfl, d, a, ws.map V.str, rfl, g2.dice, g2.seq hn hS, hn, by rw [List.length_map]; exact h0, by rw [List.length_map]; exact h1, fun x H3 hx D3' k3 => ?_⟩
      obtain ⟨z, hz, rfl⟩ := List.mem_map.mp hx
      have g3 := g2.trans (off_gr D3' k3)
      refine ⟨lenOk 2, fun t nt => ?_⟩
      refine q _ k (.str z) _ (g3.trans (Gr.laid D3' nt)) (.leaf (SqT.of upd_same) ?_) (fun k2 z2 h2 => ?_)
      · rcases hk with rfl | rfl <;> rfl
      · rw [List.mem_singleton] at h2
        cases h2
        exact hz
end
end Eh
set_option Elab.async false
set_option linter.all false
set_option maxRecDepth 100000
namespace Eh
open PySem PySem.Spec PyProof.Rows L2
/-- two ways that come together -/
theorem join2 {α β : Type} {C Pm : α → β → Prop} {c : Bool} {A B : Prop} (ha : c = true → (∀ x y, C x y → Pm x y) → A) (hb : c = false → (∀ x y, C x y → Pm x y) → B) (tail : ∀ x y, C x y → Pm x y) : if c = true then A else B := by
  cases c with
  | true => exact iteT (ha rfl tail)
  | false => exact iteF (hb rfl tail)
theorem atI_last {xs : List V} {v : V} : atI (xs ++ [v]) (-1) = some v := by
  have h : xs.length < (xs ++ [v]).length := by rw [List.length_append]; exact Nat.lt_succ_self _
  unfold atI ixN
  rw [if_neg (by omega), if_pos (by rw [List.length_append, List.length_singleton]; omega)]
  have e : ((-1 : Int) + ((xs ++ [v]).length : Int)).toNat = xs.length := by
    rw [List.length_append, List.length_singleton]
    omega
  show (xs ++ [v])[_]? = _
  first
    | rw [e]
    | rw [show (((xs ++ [v]).length : Int) + -1).toNat = xs.length from by rw [List.length_append, List.length_singleton]; omega]
  exact List.getElem?_concat_length
end Eh
set_option Elab.async false
set_option linter.all false
set_option maxRecDepth 100000
namespace Eh
open PySem PySem.Spec PyProof.Rows L2
def choiceKinds : List Str := ["mine", "yours"]
theorem InW.app {ws : List Str} {a b : List (Str × V)} (h : InW ws a) (k : InW ws b) : InW ws (a ++ b) := fun x z hz => (List.mem_append.mp hz).elim (h x z) (k x z)
theorem InW.nil {ws : List Str} : InW ws [] := fun _ _ h => nomatch h
theorem Gr.ne {d l : Addr} {H : Hp} {xs : List V} (D : D3 H d) (n : H l = none) : l ≠ d := D.ne n
theorem choice_node {k : Str} (h : choiceKinds.contains k = true) : nodeOk k = true := by
  unfold choiceKinds at h
  rw [List.contains_iff_mem] at h
  simp only [List.mem_cons, List.not_mem_nil, or_false] at h
  rcases h with rfl | rfl <;> decide +kernel
theorem iteC {K' : VK} {σ : L2.St} {H : Hp} {a b : V} {c : Bool} (h : ∀ v, (c = true → v = a) → (c = false → v = b) → tC v σ H K') : if c = true then tC a σ H K' else tC b σ H K' := by
  cases c with
  | true => exact iteT (h a (fun _ => rfl) (fun e => nomatch e))
  | false => exact iteF (h b (fun e => nomatch e) (fun _ => rfl))
section
variable {P : Program} {w : World} {K : PySem.W.Frag} {mg : Str → Option Value} {base : Heap}
def spDrawn (K : PySem.W.Frag) (n : Nat) : Sp := fun vs H Q _ => ∃ (d a : Addr) (ws : List Str) (most choices : Int), vs = [.ref d, .ref a, .int most, .int choices] ∧ D3 H d ∧ SqL K H a (ws.map V.str) ∧ a ≠ d ∧ 0 < ws.length ∧ ws.length < 1000000 ∧
  1 ≤ most ∧ most ≤ n ∧ n < 900 ∧ 0 ≤ choices ∧ choices < 100000 ∧
  ∀ v pl H', Gr d H H' → At K H' v pl → InW ws (nodesOf pl) → ((nodesOf pl).length : Int) ≤ most → (countIn choiceKinds (nodesOf pl) : Int) ≤ choices → Q v H'
theorem ok_drawn {N : Nat} (hNb : N < 1000) {f fR fP fL fN fC : Addr} {fd fdR fdP fdL fdN fdC : FuncData} (F : Fun K "_law_drawn" "_law_drawn" s__law_drawn f fd) (T : Txt mg) (C__law_roll : Cal P w K mg base 1 "_law_roll" fR fdR ["dice", "many"] spRoll)
    (C__law_pick : Cal P w K mg base 2 "_law_pick" fP fdP ["dice", "items"] (spPick K)) (C__law_leaf : Cal P w K mg base 3 "_law_leaf" fL fdL ["dice", "words"] (spLeaf K)) (C__law_nodes : Cal P w K mg base (N + 1) "_law_nodes" fN fdN ["plain"] (spNodes K N))
    (C__law_count : Cal P w K mg base (N + 2) "_law_count" fC fdC ["plain", "kinds"] (spCount K N)) (m : mg "_law_drawn" = some (.ref f)) (kp : PySem.W.keepIn K (.ref f) = true) (b : Binds K fd ["dice", "words", "most", "choices"] []) :
    ∀ n : Nat, n ≤ N → FnOk P w K mg base CX0 (N + 3 + n) f fd ["dice", "words", "most", "choices"] (spDrawn K n)
  | 0, _ => F.ok sc__law_drawn (fun vs H Q E h => by
      obtain ⟨d, a, ws, most, choices, rfl, _⟩ := h
      rfl) (fun cdv A outer s H vs Q E hr h => by
      obtain ⟨d, a, ws, most, choices, rfl, _, _, _, _, _, h1, h2, _⟩ := h
      omega)
  | n + 1, hN => by
    have G := ok_drawn hNb F T C__law_roll C__law_pick C__law_leaf C__law_nodes C__law_count m kp b n (by omega)
    refine F.ok sc__law_drawn (fun vs H Q E h => ?_) (fun cdv A outer s H vs Q E hr h => ?_)
    · obtain ⟨d, a, ws, most, choices, rfl, _⟩ := h
      rfl
    · obtain ⟨d, a, ws, most, choices, rfl, D, hS, hn, hw0, hw1, hm1, hm2, hn9, hc0, hc1, q⟩ := h
      have hr : Room (N + 3 + n) _ := hr
      have hr0 := hr.mono (j := 1) (by omega)
      have hr2 := hr.mono (j := 2) (by omega)
      have hr3 := hr.mono (j := 3) (by omega)
      have hrN := hr.mono (j := N + 1) (by omega)
      have hrC := hr.mono (j := N + 2) (by omega)
      have hrG := hr.mono (j := N + 3 + n) (by omega)
      refine ⟨_, (pss_cons (ps_if (PW.pt (pw_or (pt_cmpR op_lt (pv 2) pe_int (nomark _)) (pw_or1 (pt_cmpR op_eq (pe_call C__law_roll.G hr0 (by rfl) C__law_roll.m C__law_roll.k C__law_roll.b .nil pass0 (pa_cons (pv 0) (pa_cons pe_int pa_nil))) pe_int (nomark _)))))
  (pss_one (ps_ret (pe_call C__law_leaf.G hr3 (by rfl) C__law_leaf.m C__law_leaf.k C__law_leaf.b .nil pass0 (pa_cons (pv 0) (pa_cons (pv 1) pa_nil)))))
  pss_nil)
  (pss_cons (ps_set (i := 4) sc__law_drawn.nd rfl (.inl rfl) (pe_call C__law_pick.G hr2 (by rfl) C__law_pick.m C__law_pick.k C__law_pick.b .nil pass0 (pa_cons (pv 0) (pa_cons (pe_op op_cat (pe_lst (pa_cons pe_str (pa_cons pe_str pa_nil))) (pe_ifExp (pt_cmpR op_gt (pv 3) pe_int (nomark _)) (pe_op op_rep (pe_lst (pa_cons pe_str (pa_cons pe_str pa_nil))) pe_int) (pe_lst pa_nil))) pa_nil))))
  (pss_cons (ps_set (i := 5) sc__law_drawn.nd rfl (.inl rfl) (pe_ifExp (pt_cmpR op_lt (pv 2) pe_int (nomark _)) pe_int (pe_call C__law_pick.G hr2 (by rfl) C__law_pick.m C__law_pick.k C__law_pick.b .nil pass0 (pa_cons (pv 0) (pa_cons (pe_lst (pa_cons pe_int (pa_cons pe_int (pa_cons pe_int (pa_cons pe_int pa_nil))))) pa_nil)))))
  (pss_cons (ps_par (i := 6) (j := 7) (by rfl) sc__law_drawn.nd rfl rfl (by decide) (by rfl) (by rfl) (pa_cons (pe_op op_sub (pv 3) (pe_ifExp (pt_cmpR (inQ (K := K) rfl) (pv 4) (pe_lst (pa_cons pe_str (pa_cons pe_str pa_nil))) (by rfl)) pe_int pe_int)) (pa_cons (pe_lst pa_nil) pa_nil)) (by rfl))
  (pss_cons (ps_set (i := 8) sc__law_drawn.nd rfl (.inl rfl) (pe_op op_sub (pe_op op_sub (pv 2) pe_int) (pv 5)))
  (pss_cons (ps_for PassesOwn.never (by rfl) (pi_range1 (by rfl) T.range_ (pa_cons (pv 5) pa_nil)) (pg_name (i := 9) sc__law_drawn.nd rfl (.inl rfl))
  (pss_cons (ps_set (i := 10) sc__law_drawn.nd rfl (.inl rfl) (pe_ifExp (pt_cmpR op_lt (pv 9) (pe_op op_sub (pv 5) pe_int) (nomark _)) (pe_call C__law_pick.G hr2 (by rfl) C__law_pick.m C__law_pick.k C__law_pick.b .nil pass0 (pa_cons (pv 0) (pa_cons (pe_lst (pa_cons pe_int (pa_cons (pe_op op_fdivN (pv 8) pe_int) (pa_cons (pv 8) pa_nil)))) pa_nil))) (pv 8)))
  (pss_cons (ps_set (i := 11) sc__law_drawn.nd rfl (.inl rfl) (pe_ifExp (pt_cmpR op_lt (pv 9) (pe_op op_sub (pv 5) pe_int) (nomark _)) (pe_call C__law_roll.G hr0 (by rfl) C__law_roll.m C__law_roll.k C__law_roll.b .nil pass0 (pa_cons (pv 0) (pa_cons (pe_op op_add (pv 6) pe_int) pa_nil))) (pv 6)))
  (pss_cons (ps_expr (bmK (K := K) rfl (pe_bm PySem.F.plainAttrs_list PySem.F.slot_list_append PySem.F.type_list_append mt_append (pv 7) (pa_cons (pe_call G hrG (by rfl) m kp b .nil pass0 (pa_cons (pv 0) (pa_cons (pv 1) (pa_cons (pe_op op_add pe_int (pv 10)) (pa_cons (pv 11) pa_nil))))) pa_nil))))
  (pss_cons (ps_set (i := 8) sc__law_drawn.nd rfl (.inl rfl) (pe_op op_add (pe_op op_sub (pv 8) (pe_callB (lenQ (K := K) rfl) (by rfl) T.len_ (by decide +kernel) (pa_cons (pe_call C__law_nodes.G hrN (by rfl) C__law_nodes.m C__law_nodes.k C__law_nodes.b .nil pass0 (pa_cons (pe_ix (ixL (K := K) rfl) (pv 7) (pe_un un_neg pe_int) (fun _ _ => rfl)) pa_nil)) pa_nil))) pe_int))
  (pss_one (ps_set (i := 6) sc__law_drawn.nd rfl (.inl rfl) (pe_op op_sub (pv 6) (pe_call C__law_count.G hrC (by rfl) C__law_count.m C__law_count.k C__law_count.b .nil pass0 (pa_cons (pe_ix (ixL (K := K) rfl) (pv 7) (pe_un un_neg pe_int) (fun _ _ => rfl)) (pa_cons (pe_lst (pa_cons pe_str (pa_cons pe_str pa_nil))) pa_nil)))))))))))
  (pss_one (ps_ret (pe_tup (pa_cons (pv 4) (pa_cons (pe_callTy call_tuple_of (by rfl) T.tuple_ (by decide +kernel) (pa_cons (pv 7) pa_nil)) pa_nil))))))))))), ?_⟩
      have leafK : ∀ H1, Gr d H H1 → ∃ d' a' ws', [V.ref d, V.ref a] = [.ref d', .ref a'] ∧ D3 H1 d' ∧ SqL K H1 a' (ws'.map V.str) ∧ a' ≠ d' ∧ 0 < ws'.length ∧ ws'.length < 1000000 ∧ ∀ v k t H', Gr d' H1 H' → At K H' v (.leaf k t) → InW ws' [(k, t)] → Q v H' := fun H1 g1 =>
        ⟨d, a, ws, rfl, g1.dice, g1.seq hn hS, hn, hw0, hw1, fun v k t H' g2 hA hw => q v _ H' (g1.trans g2) hA (by rw [nodesOf]; exact hw) (by rw [nodesOf]; exact hm1) (by
          rw [nodesOf, countIn_one, if_neg]
          · exact hc0
          · intro hk
            have := choice_node hk
            cases hA with
            | leaf _ o =>
              have h1 := leaf_kind o
              rw [node_kind this] at h1
              cases h1)⟩
      refine ⟨_, rfl, most, 3, rfl, rfl, _, rfl, ite2 (fun _ => ?_) (fun hm3 => ?_)⟩
      · exact ⟨_, rfl, _, rfl, leafK H (.refl D)⟩
      have hm3 : 3 ≤ most := by
        have := mt decide_eq_true hm3
        omega
      refine ⟨_, rfl, d, 6, rfl, D, by decide, by decide, fun r H1 r0 r1 D1 k1 => ?_⟩
      have g1 := off_gr (H := H) D1 k1
      refine ⟨rfl, _, rfl, ite2 (fun _ => ?_) (fun _ => ?_)⟩
      · exact ⟨_, rfl, _, rfl, leafK H1 g1⟩
      clear leafK
      -- kind
      refine ⟨_, rfl, lenOk 2, fun l1 n1 => ?_⟩
      have a1 := Gr.laid (o := .lst [.str "all", .str "some"]) g1.dice n1
      refine ⟨_, rfl, choices, 0, rfl, rfl, _, rfl, ?_⟩
      refine' join2 (C := fun (k : Str) H' => Gr d H H' ∧ nodeOk k = true ∧ (choiceKinds.contains k = true → 0 < choices)) (ha := ?ha1) (hb := ?hb1) (tail := ?tl1)
      case ha1 =>
        intro hch tail
        have hch : 0 < choices := of_decide_eq_true hch
        refine ⟨lenOk 2, fun l2 n2 => ?_⟩
        have a2 := Gr.laid (o := .lst [.str "mine", .str "yours"]) a1.dice n2
        refine ⟨l2, 2, _, rfl, rfl, upd_same, by decide, by decide, by rw [sizeLine_eq]; show 2 * 2 ≤ _; omega, fun l3 n3 => ?_⟩
        have a3 := Gr.laid (o := .lst (List.replicate (2 : Int).toNat [V.str "mine", .str "yours"]).flatten) a2.dice n3
        have e1 : l1 ≠ d := g1.dice.ne n1
        refine ⟨l1, l3, _, _, rfl, rfl, a3.keep _ _ e1 (a2.keep _ _ e1 upd_same), upd_same, lenS 6, fun l4 n4 => ?_⟩
        have a4 := Gr.laid (o := .lst ([V.str "all", .str "some"] ++ (List.replicate (2 : Int).toNat [V.str "mine", .str "yours"]).flatten)) a3.dice n4
        refine ⟨d, l4, _, rfl, a4.dice, SqL.of upd_same, a3.dice.ne n4, by decide, by decide, fun x H2 hx D2 k2 => ?_⟩
        have hx : x ∈ [V.str "all", .str "some", .str "mine", .str "yours", .str "mine", .str "yours"] := hx
        obtain ⟨k, rfl, hk⟩ : ∃ k, x = .str k ∧ nodeOk k = true := by
          simp only [List.mem_cons, List.not_mem_nil, or_false] at hx
          rcases hx with rfl | rfl | rfl | rfl | rfl | rfl <;> exact ⟨_, rfl, by decide +kernel⟩
        exact tail k H2 ⟨g1.trans (a1.trans (a2.trans (a3.trans (a4.trans (off_gr D2 k2))))), hk, fun _ => hch⟩
      case hb1 =>
        intro hch tail
        refine ⟨Nat.zero_le _, fun l2 n2 => ?_⟩
        have a2 := Gr.laid (o := .lst []) a1.dice n2
        have e1 : l1 ≠ d := g1.dice.ne n1
        refine ⟨l1, l2, _, _, rfl, rfl, a2.keep _ _ e1 upd_same, upd_same, lenS 2, fun l4 n4 => ?_⟩
        have a4 := Gr.laid (o := .lst ([V.str "all", .str "some"] ++ [])) a2.dice n4
        refine ⟨d, l4, _, rfl, a4.dice, SqL.of upd_same, a2.dice.ne n4, by decide, by decide, fun x H2 hx D2 k2 => ?_⟩
        have hx : x ∈ [V.str "all", .str "some"] := hx
        obtain ⟨k, rfl, hk, hk2⟩ : ∃ k, x = .str k ∧ nodeOk k = true ∧ choiceKinds.contains k = false := by
          simp only [List.mem_cons, List.not_mem_nil, or_false] at hx
          rcases hx with rfl | rfl <;> exact ⟨_, rfl, by decide +kernel, by decide +kernel⟩
        exact tail k H2 ⟨g1.trans (a1.trans (a2.trans (a4.trans (off_gr D2 k2)))), hk, fun h => absurd h (by rw [hk2]; exact Bool.false_ne_true)⟩
      clear a1 n1 g1
      intro k H3 ⟨g3, hk, hkc⟩
      -- many
      refine ⟨_, rfl, most, 4, rfl, rfl, _, rfl, ?_⟩
      refine' join2 (C := fun (mm : Int) H' => Gr d H H' ∧ (mm = 2 ∨ (mm = 3 ∧ 4 ≤ most))) (ha := ?ha2) (hb := ?hb2) (tail := ?tl2)
      case hb2 =>
        intro h4 tail
        have h4 : 4 ≤ most := by
          have := of_decide_eq_false h4
          omega
        refine ⟨_, rfl, lenOk 4, fun l1 n1 => ?_⟩
        have a1 := Gr.laid (o := .lst [.int 2, .int 2, .int 2, .int 3]) g3.dice n1
        refine ⟨d, l1, _, rfl, a1.dice, SqL.of upd_same, g3.dice.ne n1, by decide, by decide, fun x H2 hx D2 k2 => ?_⟩
        obtain ⟨mm, rfl, hm⟩ : ∃ mm : Int, x = .int mm ∧ (mm = 2 ∨ mm = 3) := by
          simp only [List.mem_cons, List.not_mem_nil, or_false] at hx
          rcases hx with rfl | rfl | rfl | rfl
          · exact ⟨_, rfl, .inl rfl⟩
          · exact ⟨_, rfl, .inl rfl⟩
          · exact ⟨_, rfl, .inl rfl⟩
          · exact ⟨_, rfl, .inr rfl⟩
        exact tail mm H2 ⟨g3.trans (a1.trans (off_gr D2 k2)), hm.imp id fun e => ⟨e, h4⟩⟩
      case ha2 =>
        intro _ tail
        exact tail 2 H3 ⟨g3, .inl rfl⟩
      clear g3
      intro mm H4 ⟨g4, hmm⟩
      -- left
      refine ⟨_, rfl, _, rfl, lenOk 2, fun l1 n1 => ?_⟩
      have a1 := Gr.laid (o := .lst [.str "mine", .str "yours"]) g4.dice n1
      refine ⟨l1, choiceKinds.map V.str, rfl, .inl (SqL.of upd_same), rfl, flat_strs _, _, rfl, ?_⟩
      refine iteC (fun v e1 e2 => ?_)
      obtain ⟨j, rfl, hj0, hj1, hjc⟩ : ∃ j : Int, v = .int j ∧ 0 ≤ j ∧ j ≤ choices ∧ (choiceKinds.contains k = true → j = 1) := by
        cases hb : choiceKinds.contains k with
        | true => 
          have := hkc hb
          exact ⟨1, e1 ((inV_strs k choiceKinds).trans hb), by omega, by omega, fun _ => rfl⟩
        | false => exact ⟨0, e2 ((inV_strs k choiceKinds).trans hb), by omega, by omega, fun h => nomatch h⟩
      have g5 := g4.trans a1
      show tC (V.int j) _ ?h5 _
      generalize ?h5 = H5 at g5 ⊢
      clear e1 e2 a1 n1 g4
      refine ⟨_, _, rfl, rfl, Nat.zero_le _, fun l n1 => ?_⟩
      have a1 := Gr.laid (o := .lst []) g5.dice n1
      have nl : l ≠ d := g5.dice.ne n1
      have nlH : H l = none := g5.free D n1
      refine ⟨_, _, rfl, ?_⟩
      refine ⟨_, rfl, _, _, rfl, rfl, _, rfl, _, _, rfl, rfl, ?_⟩
      refine ⟨_, rfl, mm, rfl, by omega, by omega, ?_⟩
      have i1 : 2 ≤ mm := by omega
      have i2 : mm ≤ 3 := by omega
      have i3 : 0 ≤ most - 1 - mm := by omega
      refine for_range (lo := 0) (n := mm.toNat) (fun i σ H2 => ∃ (room left : Int) (vs : List V) (ps : List Pl) (x9 x10 x11 : Option V), σ = [some (.ref d), some (.ref a), some (.int most), some (.int choices), some (.str k), some (.int mm), some (.int left), some (.ref l), some (.int room), x9, x10, x11] ∧
        Gr d H H2 ∧ H2 l = some (.lst vs) ∧ AtAll K H2 vs ps ∧ ps.length = i ∧ InW ws (nodesAll ps) ∧ 0 ≤ room ∧ room + (nodesAll ps).length = most - 1 - mm + i ∧ i ≤ (nodesAll ps).length ∧ 0 ≤ left ∧ left + countIn choiceKinds (nodesAll ps) = choices - j) ?_ ?_ ?_
      · exact ⟨_, _, [], [], _, _, _, rfl, g5.trans a1, upd_same, .nil, rfl, (by rw [nodesAll]; exact InW.nil), i3, (by rw [nodesAll]; rfl), Nat.zero_le _, by omega, by rw [nodesAll]; show _ + ((0 : Nat) : Int) = _; omega⟩
      · rintro i σ H6 hi ⟨room, left, vs, ps, x9, x10, x11, rfl, g6, e6, A6, hps, w6, r0, r6, hi6, l0, l6⟩
        have him : (i : Int) < mm := by omega
        have hroom : room ≤ most - 1 - mm := by omega
        have nl0 : l ≠ d := fun e => by
          obtain ⟨u1, u2, u3, e3⟩ := D
          rw [e, e3] at nlH
          cases nlH
        refine ⟨_, rfl, _, rfl, _, _, rfl, rfl, _, _, rfl, rfl, _, rfl, ?_⟩
        refine' join2 (C := fun (more : Int) H' => Gr d H6 H' ∧ 0 ≤ more ∧ more ≤ room) (ha := ?ha4) (hb := ?hb4) (tail := ?tl4)
        case ha4 =>
          intro _ tail
          refine ⟨_, rfl, _, rfl, _, _, rfl, rfl, (show (2 : Int) ≠ 0 ∧ (2 : Int).natAbs < 1073741824 by decide), _, rfl, lenOk 3, fun l1 n1 => ?_⟩
          have a1 := Gr.laid (o := .lst [.int 0, .int (room.fdiv 2), .int room]) g6.dice n1
          refine ⟨d, l1, _, rfl, a1.dice, SqL.of upd_same, g6.dice.ne n1, (show 0 < 3 by decide), (show 3 < 1000000 by decide), fun x H2 hx D2 k2 => ?_⟩
          have hf : room.fdiv 2 = room / 2 := Int.fdiv_eq_ediv_of_nonneg room (by decide)
          obtain ⟨more, rfl, h1, h2⟩ : ∃ more : Int, x = .int more ∧ 0 ≤ more ∧ more ≤ room := by
            simp only [List.mem_cons, List.not_mem_nil, or_false] at hx
            rcases hx with rfl | rfl | rfl
            · exact ⟨0, rfl, by omega, by omega⟩
            · exact ⟨_, rfl, by omega, by omega⟩
            · exact ⟨_, rfl, by omega, by omega⟩
          exact tail more H2 ⟨a1.trans (off_gr D2 k2), h1, h2⟩
        case hb4 =>
          intro _ tail
          exact ⟨_, rfl, tail room H6 ⟨.refl g6.dice, r0, by omega⟩⟩
        intro more H7 ⟨g7, hm0, hm1'⟩
        refine ⟨_, rfl, _, rfl, _, _, rfl, rfl, _, _, rfl, rfl, _, rfl, ?_⟩
        refine' join2 (C := fun (share : Int) H' => Gr d H6 H' ∧ 0 ≤ share ∧ share ≤ left) (ha := ?ha5) (hb := ?hb5) (tail := ?tl5)
        case ha5 =>
          intro _ tail
          refine ⟨_, rfl, _, rfl, _, _, rfl, rfl, d, _, rfl, g7.dice, by omega, by omega, fun r H8 q0 q1 D8 k8 => ?_⟩
          exact tail r H8 ⟨g7.trans (off_gr D8 k8), q0, by omega⟩
        case hb5 =>
          intro _ tail
          exact ⟨_, rfl, tail left H7 ⟨g7, l0, by omega⟩⟩
        intro share H8 ⟨g8, hs0, hs1⟩
        clear g7
        have g68 := g6.trans g8
        refine ⟨_, rfl, .inl ⟨rfl, _, SqL.of (g8.keep _ _ nl0 e6)⟩, _, rfl, _, rfl, _, rfl, _, _, rfl, rfl, _, rfl, ?_⟩
        refine ⟨d, a, ws, _, _, rfl, g68.dice, g68.seq hn hS, hn, hw0, hw1, by omega, by omega, by omega, hs0, by omega, fun v pl H9 g9 A9 w9 s9 c9 => ?_⟩
        have g69 := g8.trans g9
        have e9 := g69.keep _ _ nl0 e6
        have hvs := A6.length
        have tk9 : Tk H6 H9 := g69.tk g6.dice
        refine ⟨l, vs, v, rfl, rfl, e9, small (by omega), ?_⟩
        have tkp : Tk H9 (upd H9 l (.lst (vs ++ [v]))) := Tk.put e9
        have g610 : Gr d H (upd H9 l (.lst (vs ++ [v]))) := (g6.trans g69).put nlH nl0
        have A10 := A9.tk tkp
        have AA := ((A6.tk tk9).tk tkp).snoc A10
        have p1 := nodesOf_pos pl
        refine ⟨_, rfl, _, rfl, _, rfl, l, _, (-1), v, rfl, rfl, SqL.of upd_same, atI_last, v, pl, rfl, A10, by omega, by omega, fun xs p H11 s11 n11 e11 d11 => ?_⟩
        have el : H11 l = some (.lst (vs ++ [v])) := s11 _ _ upd_same
        refine .inl ⟨p, xs, rfl, .inl (SqL.of e11), _, _, rfl, rfl, _, _, rfl, rfl, ?_⟩
        refine ⟨_, rfl, _, rfl, _, rfl, l, _, (-1), v, rfl, rfl, SqL.of el, atI_last, lenOk 2, fun l3 n3 => ?_⟩
        have s12 := s11.trans (same_new (o := .lst [.str "mine", .str "yours"]) n3)
        refine ⟨v, pl, l3, choiceKinds, rfl, A10.tk (stk s12), SqL.of upd_same, by omega, by omega, fun H13 s13 => ?_⟩
        have s14 := s12.trans s13
        have s15 := same_gr g610.dice s14
        have hl := d11.length
        refine ⟨_, _, rfl, rfl, ?_⟩
        have ea : nodesAll (ps ++ [pl]) = nodesAll ps ++ nodesOf pl := by
          rw [nodesAll_append, nodesAll, nodesAll, List.append_nil]
        refine ⟨_, _, vs ++ [v], ps ++ [pl], _, _, _, rfl, g610.trans s15, s14 _ _ upd_same, AA.tk (stk s14), by rw [List.length_append, hps]; rfl, by rw [ea]; exact w6.app w9, ?_, ?_, ?_, ?_, ?_⟩
        · omega
        · rw [ea, List.length_append]
          omega
        · rw [ea, List.length_append]
          omega
        · omega
        · rw [ea, countIn_app]
          omega
      · rintro σ H6 ⟨room, left, vs, ps, x9, x10, x11, rfl, g6, e6, A6, hps, w6, r0, r6, hi6, l0, l6⟩
        refine ⟨_, rfl, _, rfl, l, vs, rfl, .inl ⟨SqL.of e6, fun t nt => ⟨lenOk 2, fun t2 nt2 => ?_⟩⟩⟩
        have a1 := Gr.laid (o := .tup vs) g6.dice nt
        have a2 := Gr.laid (o := .tup [.str k, .ref t]) a1.dice nt2
        have ne : t ≠ t2 := ne_of_none upd_same nt2
        have tk2 : Tk H6 _ := (a1.trans a2).tk g6.dice
        refine q _ (.node k ps) _ (g6.trans (a1.trans a2)) (.node (SqT.of upd_same) (SqT.of (by rw [upd_ne ne]; exact upd_same)) hk (by omega) (by omega) (A6.tk tk2)) ?_ ?_ ?_
        · rw [nodesOf]
          intro x z hz
          rcases List.mem_cons.mp hz with e | e
          · cases e
          · exact w6 x z e
        · rw [nodesOf, List.length_cons]
          omega
        · rw [nodesOf, show (k, V.int (ps.length : Int)) :: nodesAll ps = [(k, V.int (ps.length : Int))] ++ nodesAll ps from rfl, countIn_app, countIn_one]
          split
          · rename_i hc
            have := hjc hc
            omega
          · omega
end
end Eh
set_option Elab.async false
set_option linter.all false
set_option maxRecDepth 100000
namespace Eh
open PySem PySem.Spec PyProof.Rows L2
def inWB (ws : List Str) (ns : List (Str × V)) : Bool := ns.all fun n => match n.2 with
  | .str z => ws.contains z
  | _ => true
theorem inW_of {ws : List Str} {ns : List (Str × V)} (h : inWB ws ns = true) : InW ws ns := fun k z hz => List.contains_iff_mem.mp (List.all_eq_true.mp h _ hz)
def abc : List Str := ["a", "b", "c"]
/-- a known one -/
def Kn (K : PySem.W.Frag) (H : Hp) (x : V) : Prop := ∃ pl, At K H x pl ∧ inWB abc (nodesOf pl) = true ∧ (nodesOf pl).length ≤ 11 ∧ countIn choiceKinds (nodesOf pl) ≤ 4
def KnAll (K : PySem.W.Frag) (H : Hp) (xs : List V) : Prop := ∀ x ∈ xs, Kn K H x
theorem KnAll.tk {K : PySem.W.Frag} {H H' : Hp} {xs : List V} (h : KnAll K H xs) (t : Tk H H') : KnAll K H' xs := fun x hx => by
  obtain ⟨pl, A, r⟩ := h x hx
  exact ⟨pl, A.tk t, r⟩
theorem KnAll.add {K : PySem.W.Frag} {H : Hp} {xs : List V} {x : V} (h : KnAll K H xs) (k : Kn K H x) : KnAll K H (xs ++ [x]) := fun y hy => (List.mem_append.mp hy).elim (h y) fun z => by
  rw [List.mem_singleton.mp z]
  exact k
structure Six (K : PySem.W.Frag) (H : Hp) (va vb vc wa wb wc : V) : Prop where
  a : At K H va (.leaf "fact" (.str "a"))
  b : At K H vb (.leaf "fact" (.str "b"))
  c : At K H vc (.leaf "fact" (.str "c"))
  na : At K H wa (.leaf "not" (.str "a"))
  nb : At K H wb (.leaf "not" (.str "b"))
  nc : At K H wc (.leaf "not" (.str "c"))
theorem Six.tk {K : PySem.W.Frag} {H H' : Hp} {va vb vc wa wb wc : V} (h : Six K H va vb vc wa wb wc) (t : Tk H H') : Six K H' va vb vc wa wb wc := ⟨h.a.tk t, h.b.tk t, h.c.tk t, h.na.tk t, h.nb.tk t, h.nc.tk t⟩
theorem node_new {K : PySem.W.Frag} {d t u : Addr} {H : Hp} {vs : List V} {ps : List Pl} {k : Str} (D : D3 H d) (A : AtAll K H vs ps) (hk : nodeOk k = true) (h2 : 2 ≤ ps.length) (h4 : ps.length ≤ 4) (n : H t = none) (m : (upd H t (.tup vs)) u = none) :
    Gr d H (upd (upd H t (.tup vs)) u (.tup [.str k, .ref t])) ∧ At K (upd (upd H t (.tup vs)) u (.tup [.str k, .ref t])) (.ref u) (.node k ps) := by
  have a1 := Gr.laid (o := .tup vs) D n
  have a2 := Gr.laid (o := .tup [.str k, .ref t]) a1.dice m
  exact ⟨a1.trans a2, .node (SqT.of upd_same) (SqT.of (by rw [upd_ne (ne_of_none upd_same m)]; exact upd_same)) hk h2 h4 (A.tk ((a1.trans a2).tk D))⟩
theorem leaf_new {K : PySem.W.Frag} {d t : Addr} {H : Hp} {k : Str} {v : V} (D : D3 H d) (hk : leafOk k v = true) (n : H t = none) : Gr d H (upd H t (.tup [.str k, v])) ∧ At K (upd H t (.tup [.str k, v])) (.ref t) (.leaf k v) :=
  ⟨.laid D n, .leaf (SqT.of upd_same) hk⟩
section
variable {P : Program} {w : World} {K : PySem.W.Frag} {mg : Str → Option Value} {base : Heap}
def spKnown (K : PySem.W.Frag) : Sp := fun vs H Q _ => ∃ d, vs = [.ref d] ∧ D3 H d ∧ ∀ v pl H', Gr d H H' → At K H' v pl → InW abc (nodesOf pl) → (nodesOf pl).length ≤ 11 → countIn choiceKinds (nodesOf pl) ≤ 4 → Q v H'
theorem ok_known {f fP : Addr} {fd fdP : FuncData} (F : Fun K "_law_known" "_law_known" s__law_known f fd) (T : Txt mg) (C__law_pick : Cal P w K mg base 2 "_law_pick" fP fdP ["dice", "items"] (spPick K)) : FnOk P w K mg base CX0 3 f fd ["dice"] (spKnown K) := by
  refine F.ok sc__law_known (fun vs H Q E h => ?_) (fun cdv A outer s H vs Q E hr h => ?_)
  · obtain ⟨d, rfl, _⟩ := h
    rfl
  · obtain ⟨d, rfl, D, q⟩ := h
    refine ⟨_, (pss_cons (ps_asg (pe_tup (pa_cons (pe_tup (pa_cons pe_str (pa_cons pe_str pa_nil))) (pa_cons (pe_tup (pa_cons pe_str (pa_cons pe_str pa_nil))) (pa_cons (pe_tup (pa_cons pe_str (pa_cons pe_str pa_nil))) pa_nil)))) (pg_tup (by rfl) (pgs_cons (pg_name (i := 1) sc__law_known.nd rfl (.inl rfl)) (pgs_cons (pg_name (i := 2) sc__law_known.nd rfl (.inl rfl)) (pgs_cons (pg_name (i := 3) sc__law_known.nd rfl (.inl rfl)) pgs_nil)))))
  (pss_cons (ps_asg (pe_tup (pa_cons (pe_tup (pa_cons pe_str (pa_cons pe_str pa_nil))) (pa_cons (pe_tup (pa_cons pe_str (pa_cons pe_str pa_nil))) (pa_cons (pe_tup (pa_cons pe_str (pa_cons pe_str pa_nil))) pa_nil)))) (pg_tup (by rfl) (pgs_cons (pg_name (i := 4) sc__law_known.nd rfl (.inl rfl)) (pgs_cons (pg_name (i := 5) sc__law_known.nd rfl (.inl rfl)) (pgs_cons (pg_name (i := 6) sc__law_known.nd rfl (.inl rfl)) pgs_nil)))))
  (pss_cons (ps_set (i := 7) sc__law_known.nd rfl (.inl rfl) (pe_lst (pa_cons (pe_tup (pa_cons pe_str (pa_cons (pe_tup (pa_cons (pv 1) (pa_cons (pv 4) pa_nil))) pa_nil))) (pa_cons (pe_tup (pa_cons pe_str (pa_cons (pe_tup (pa_cons (pv 1) (pa_cons (pv 4) pa_nil))) pa_nil))) (pa_cons (pe_tup (pa_cons pe_str (pa_cons (pe_tup (pa_cons (pv 1) (pa_cons (pv 4) pa_nil))) pa_nil))) (pa_cons (pe_tup (pa_cons pe_str (pa_cons (pe_tup (pa_cons (pv 4) (pa_cons (pe_tup (pa_cons pe_str (pa_cons (pe_tup (pa_cons (pv 1) (pa_cons (pv 1) pa_nil))) pa_nil))) pa_nil))) pa_nil))) pa_nil))))))
  (pss_cons (ps_expr (bmK (K := K) rfl (pe_bm PySem.F.plainAttrs_list PySem.F.slot_list_append PySem.F.type_list_append mt_append (pv 7) (pa_cons (pe_tup (pa_cons pe_str (pa_cons (pe_tup (pa_cons (pe_tup (pa_cons pe_str (pa_cons (pe_tup (pa_cons (pv 1) (pa_cons (pv 2) pa_nil))) pa_nil))) (pa_cons (pe_tup (pa_cons pe_str (pa_cons (pe_tup (pa_cons (pv 4) (pa_cons (pv 5) pa_nil))) pa_nil))) pa_nil))) pa_nil))) pa_nil))))
  (pss_cons (ps_expr (bmK (K := K) rfl (pe_bm PySem.F.plainAttrs_list PySem.F.slot_list_append PySem.F.type_list_append mt_append (pv 7) (pa_cons (pe_tup (pa_cons pe_str (pa_cons (pe_tup (pa_cons (pe_tup (pa_cons pe_str (pa_cons (pe_tup (pa_cons (pv 5) (pa_cons (pv 6) pa_nil))) pa_nil))) (pa_cons (pe_tup (pa_cons pe_str (pa_cons (pe_tup (pa_cons (pe_tup (pa_cons pe_str (pa_cons (pe_tup (pa_cons (pv 2) (pa_cons (pv 3) pa_nil))) pa_nil))) (pa_cons (pe_tup (pa_cons pe_str (pa_cons (pe_tup (pa_cons (pv 2) (pa_cons (pv 3) pa_nil))) pa_nil))) pa_nil))) pa_nil))) pa_nil))) pa_nil))) pa_nil))))
  (pss_cons (ps_expr (bmK (K := K) rfl (pe_bm PySem.F.plainAttrs_list PySem.F.slot_list_append PySem.F.type_list_append mt_append (pv 7) (pa_cons (pe_tup (pa_cons pe_str (pa_cons (pe_tup (pa_cons (pe_tup (pa_cons pe_str (pa_cons (pe_tup (pa_cons (pv 1) (pa_cons (pv 2) pa_nil))) pa_nil))) (pa_cons (pe_tup (pa_cons pe_str (pa_cons (pe_tup (pa_cons (pv 4) (pa_cons (pv 1) pa_nil))) pa_nil))) pa_nil))) pa_nil))) pa_nil))))
  (pss_cons (ps_expr (bmK (K := K) rfl (pe_bm PySem.F.plainAttrs_list PySem.F.slot_list_append PySem.F.type_list_append mt_append (pv 7) (pa_cons (pe_tup (pa_cons pe_str (pa_cons (pe_tup (pa_cons (pe_tup (pa_cons pe_str (pa_cons (pe_tup (pa_cons (pv 1) (pa_cons (pv 2) pa_nil))) pa_nil))) (pa_cons (pe_tup (pa_cons pe_str (pa_cons (pe_tup (pa_cons (pv 4) (pa_cons (pv 5) pa_nil))) pa_nil))) pa_nil))) pa_nil))) pa_nil))))
  (pss_one (ps_ret (pe_call C__law_pick.G hr (by rfl) C__law_pick.m C__law_pick.k C__law_pick.b .nil pass0 (pa_cons (pv 0) (pa_cons (pv 7) pa_nil)))))))))))), ?_⟩
    refine ⟨lenOk 2, fun t1 n1 => ⟨lenOk 2, fun t2 n2 => ⟨lenOk 2, fun t3 n3 => ⟨lenOk 3, fun s1 o1 => ?_⟩⟩⟩⟩
    refine ⟨s1, _, rfl, SqT.of upd_same, rfl, _, _, rfl, _, _, rfl, _, _, rfl, rfl, ?_⟩
    obtain ⟨g1, l1⟩ := leaf_new (K := K) (k := "fact") (v := .str "a") D rfl n1
    obtain ⟨g2, l2⟩ := leaf_new (K := K) (k := "fact") (v := .str "b") g1.dice rfl n2
    obtain ⟨g3, l3⟩ := leaf_new (K := K) (k := "fact") (v := .str "c") g2.dice rfl n3
    have j1 := Gr.laid (o := .tup [.ref t1, .ref t2, .ref t3]) g3.dice o1
    refine ⟨lenOk 2, fun t4 n4 => ⟨lenOk 2, fun t5 n5 => ⟨lenOk 2, fun t6 n6 => ⟨lenOk 3, fun s2 o2 => ?_⟩⟩⟩⟩
    refine ⟨s2, _, rfl, SqT.of upd_same, rfl, _, _, rfl, _, _, rfl, _, _, rfl, rfl, ?_⟩
    obtain ⟨g4, l4⟩ := leaf_new (K := K) (k := "not") (v := .str "a") j1.dice rfl n4
    obtain ⟨g5, l5⟩ := leaf_new (K := K) (k := "not") (v := .str "b") g4.dice rfl n5
    obtain ⟨g6, l6⟩ := leaf_new (K := K) (k := "not") (v := .str "c") g5.dice rfl n6
    have j2 := Gr.laid (o := .tup [.ref t4, .ref t5, .ref t6]) g6.dice o2
    have L : Six K _ _ _ _ _ _ _ := ⟨l1.tk ((g2.trans (g3.trans (j1.trans (g4.trans (g5.trans (g6.trans j2)))))).tk g1.dice), l2.tk ((g3.trans (j1.trans (g4.trans (g5.trans (g6.trans j2))))).tk g2.dice), l3.tk ((j1.trans (g4.trans (g5.trans (g6.trans j2)))).tk g3.dice), l4.tk ((g5.trans (g6.trans j2)).tk g4.dice), l5.tk ((g6.trans j2).tk g5.dice), l6.tk (j2.tk g6.dice)⟩
    have g := g1.trans (g2.trans (g3.trans (j1.trans (g4.trans (g5.trans (g6.trans j2))))))
    clear l1 l2 l3 l4 l5 l6 g1 g2 g3 g4 g5 g6 j1 j2
    generalize upd _ s2 _ = H0 at g L ⊢
    clear n1 n2 n3 n4 n5 n6 o1 o2
    have dn : KnAll K H0 [] := fun _ h => nomatch h
    refine ⟨_, rfl, ?_⟩
    refine ⟨_, rfl, ?_⟩
    refine ⟨lenOk 2, fun t1 n1 => ⟨lenOk 2, fun u1 m1 => ?_⟩⟩
    obtain ⟨h1, A1⟩ := node_new (k := "mine") g.dice (.cons L.a (.cons L.na .nil)) (by decide +kernel) (by decide) (by decide) n1 m1
    replace L := L.tk (h1.tk g.dice)
    replace dn := dn.tk (h1.tk g.dice)
    skip
    replace g := g.trans h1
    generalize upd (upd _ t1 _) u1 _ = H1 at g A1 L dn ⊢
    clear n1 m1 h1
    replace dn := dn.add ⟨_, A1, by decide +kernel, by decide +kernel, by decide +kernel⟩
    refine ⟨_, rfl, ?_⟩
    refine ⟨_, rfl, ?_⟩
    refine ⟨lenOk 2, fun t2 n2 => ⟨lenOk 2, fun u2 m2 => ?_⟩⟩
    obtain ⟨h2, A2⟩ := node_new (k := "yours") g.dice (.cons L.a (.cons L.na .nil)) (by decide +kernel) (by decide) (by decide) n2 m2
    replace L := L.tk (h2.tk g.dice)
    replace dn := dn.tk (h2.tk g.dice)
    skip
    replace g := g.trans h2
    generalize upd (upd _ t2 _) u2 _ = H2 at g A2 L dn ⊢
    clear n2 m2 h2
    replace dn := dn.add ⟨_, A2, by decide +kernel, by decide +kernel, by decide +kernel⟩
    refine ⟨_, rfl, ?_⟩
    refine ⟨_, rfl, ?_⟩
    refine ⟨lenOk 2, fun t3 n3 => ⟨lenOk 2, fun u3 m3 => ?_⟩⟩
    obtain ⟨h3, A3⟩ := node_new (k := "some") g.dice (.cons L.a (.cons L.na .nil)) (by decide +kernel) (by decide) (by decide) n3 m3
    replace L := L.tk (h3.tk g.dice)
    replace dn := dn.tk (h3.tk g.dice)
    skip
    replace g := g.trans h3
    generalize upd (upd _ t3 _) u3 _ = H3 at g A3 L dn ⊢
    clear n3 m3 h3
    replace dn := dn.add ⟨_, A3, by decide +kernel, by decide +kernel, by decide +kernel⟩
    refine ⟨_, rfl, ?_⟩
    refine ⟨_, rfl, ?_⟩
    refine ⟨_, rfl, ?_⟩
    refine ⟨lenOk 2, fun t4 n4 => ⟨lenOk 2, fun u4 m4 => ?_⟩⟩
    obtain ⟨h4, A4⟩ := node_new (k := "all") g.dice (.cons L.a (.cons L.a .nil)) (by decide +kernel) (by decide) (by decide) n4 m4
    replace L := L.tk (h4.tk g.dice)
    replace dn := dn.tk (h4.tk g.dice)
    skip
    replace g := g.trans h4
    generalize upd (upd _ t4 _) u4 _ = H4 at g A4 L dn ⊢
    clear n4 m4 h4
    refine ⟨lenOk 2, fun t5 n5 => ⟨lenOk 2, fun u5 m5 => ?_⟩⟩
    obtain ⟨h5, A5⟩ := node_new (k := "some") g.dice (.cons L.na (.cons A4 .nil)) (by decide +kernel) (by decide) (by decide) n5 m5
    replace L := L.tk (h5.tk g.dice)
    replace dn := dn.tk (h5.tk g.dice)
    skip
    replace g := g.trans h5
    generalize upd (upd _ t5 _) u5 _ = H5 at g A5 L dn ⊢
    clear n5 m5 h5
    replace dn := dn.add ⟨_, A5, by decide +kernel, by decide +kernel, by decide +kernel⟩
    refine ⟨lenOk 4, fun l nL => ?_⟩
    have nl : l ≠ d := g.dice.ne nL
    have nlH : H l = none := g.free D nL
    obtain ⟨xs, hxs, ex⟩ : ∃ xs : List V, xs.length = 4 ∧ xs = [.ref u1, .ref u2, .ref u3, .ref u5] := ⟨_, rfl, rfl⟩
    replace dn : KnAll K H5 xs := by rw [ex]; exact dn
    have eL : upd H5 l (.lst xs) l = some (.lst xs) := upd_same
    have hh := Gr.laid (o := .lst xs) g.dice nL
    replace L := L.tk (hh.tk g.dice)
    replace dn := dn.tk (hh.tk g.dice)
    replace g := g.trans hh
    rw [← ex]
    clear ex hh nL
    generalize upd H5 l _ = H6x at g eL L dn ⊢
    refine ⟨_, rfl, .inl ⟨rfl, _, SqL.of eL⟩, ?_⟩
    refine ⟨_, rfl, ?_⟩
    refine ⟨_, rfl, ?_⟩
    refine ⟨lenOk 2, fun t6 n6 => ⟨lenOk 2, fun u6 m6 => ?_⟩⟩
    obtain ⟨h6, A6⟩ := node_new (k := "mine") g.dice (.cons L.a (.cons L.b .nil)) (by decide +kernel) (by decide) (by decide) n6 m6
    replace L := L.tk (h6.tk g.dice)
    replace dn := dn.tk (h6.tk g.dice)
    replace eL := h6.keep _ _ nl eL
    replace g := g.trans h6
    generalize upd (upd _ t6 _) u6 _ = H6 at g A6 eL L dn ⊢
    clear n6 m6 h6
    refine ⟨_, rfl, ?_⟩
    refine ⟨_, rfl, ?_⟩
    refine ⟨lenOk 2, fun t7 n7 => ⟨lenOk 2, fun u7 m7 => ?_⟩⟩
    obtain ⟨h7, A7⟩ := node_new (k := "yours") g.dice (.cons L.na (.cons L.nb .nil)) (by decide +kernel) (by decide) (by decide) n7 m7
    replace L := L.tk (h7.tk g.dice)
    replace A6 := A6.tk (h7.tk g.dice)
    replace dn := dn.tk (h7.tk g.dice)
    replace eL := h7.keep _ _ nl eL
    replace g := g.trans h7
    generalize upd (upd _ t7 _) u7 _ = H7 at g A7 eL L A6 dn ⊢
    clear n7 m7 h7
    refine ⟨lenOk 2, fun t8 n8 => ⟨lenOk 2, fun u8 m8 => ?_⟩⟩
    obtain ⟨h8, A8⟩ := node_new (k := "some") g.dice (.cons A6 (.cons A7 .nil)) (by decide +kernel) (by decide) (by decide) n8 m8
    replace L := L.tk (h8.tk g.dice)
    replace dn := dn.tk (h8.tk g.dice)
    replace eL := h8.keep _ _ nl eL
    replace g := g.trans h8
    generalize upd (upd _ t8 _) u8 _ = H8 at g A8 eL L dn ⊢
    clear n8 m8 h8
    refine ⟨l, xs, .ref u8, rfl, rfl, eL, small (by omega), ?_⟩
    have tp : Tk H8 (upd H8 l (.lst (xs ++ [.ref u8]))) := Tk.put eL
    replace L := L.tk tp
    replace dn := (dn.tk tp).add ⟨_, A8.tk tp, by decide +kernel, by decide +kernel, by decide +kernel⟩
    replace g := g.put (o := .lst (xs ++ [.ref u8])) nlH nl
    replace eL : upd H8 l (.lst (xs ++ [.ref u8])) l = some (.lst (xs ++ [.ref u8])) := upd_same
    replace hxs : (xs ++ [V.ref u8]).length = 5 := by rw [List.length_append, hxs]; rfl
    clear tp A8
    generalize xs ++ [V.ref u8] = xs1 at g eL hxs dn L ⊢
    generalize upd H8 l _ = Hy0 at g eL L dn ⊢
    refine ⟨_, rfl, .inl ⟨rfl, _, SqL.of eL⟩, ?_⟩
    refine ⟨_, rfl, ?_⟩
    refine ⟨_, rfl, ?_⟩
    refine ⟨lenOk 2, fun t9 n9 => ⟨lenOk 2, fun u9 m9 => ?_⟩⟩
    obtain ⟨h9, A9⟩ := node_new (k := "mine") g.dice (.cons L.nb (.cons L.nc .nil)) (by decide +kernel) (by decide) (by decide) n9 m9
    replace L := L.tk (h9.tk g.dice)
    replace dn := dn.tk (h9.tk g.dice)
    replace eL := h9.keep _ _ nl eL
    replace g := g.trans h9
    generalize upd (upd _ t9 _) u9 _ = H9 at g A9 eL L dn ⊢
    clear n9 m9 h9
    refine ⟨_, rfl, ?_⟩
    refine ⟨_, rfl, ?_⟩
    refine ⟨lenOk 2, fun t10 n10 => ⟨lenOk 2, fun u10 m10 => ?_⟩⟩
    obtain ⟨h10, A10⟩ := node_new (k := "yours") g.dice (.cons L.b (.cons L.c .nil)) (by decide +kernel) (by decide) (by decide) n10 m10
    replace L := L.tk (h10.tk g.dice)
    replace A9 := A9.tk (h10.tk g.dice)
    replace dn := dn.tk (h10.tk g.dice)
    replace eL := h10.keep _ _ nl eL
    replace g := g.trans h10
    generalize upd (upd _ t10 _) u10 _ = H10 at g A10 eL L A9 dn ⊢
    clear n10 m10 h10
    refine ⟨_, rfl, ?_⟩
    refine ⟨_, rfl, ?_⟩
    refine ⟨lenOk 2, fun t11 n11 => ⟨lenOk 2, fun u11 m11 => ?_⟩⟩
    obtain ⟨h11, A11⟩ := node_new (k := "yours") g.dice (.cons L.b (.cons L.c .nil)) (by decide +kernel) (by decide) (by decide) n11 m11
    replace L := L.tk (h11.tk g.dice)
    replace A9 := A9.tk (h11.tk g.dice)
    replace A10 := A10.tk (h11.tk g.dice)
    replace dn := dn.tk (h11.tk g.dice)
    replace eL := h11.keep _ _ nl eL
    replace g := g.trans h11
    generalize upd (upd _ t11 _) u11 _ = H11 at g A11 eL L A9 A10 dn ⊢
    clear n11 m11 h11
    refine ⟨lenOk 2, fun t12 n12 => ⟨lenOk 2, fun u12 m12 => ?_⟩⟩
    obtain ⟨h12, A12⟩ := node_new (k := "all") g.dice (.cons A10 (.cons A11 .nil)) (by decide +kernel) (by decide) (by decide) n12 m12
    replace L := L.tk (h12.tk g.dice)
    replace A9 := A9.tk (h12.tk g.dice)
    replace dn := dn.tk (h12.tk g.dice)
    replace eL := h12.keep _ _ nl eL
    replace g := g.trans h12
    generalize upd (upd _ t12 _) u12 _ = H12 at g A12 eL L A9 dn ⊢
    clear n12 m12 h12
    refine ⟨lenOk 2, fun t13 n13 => ⟨lenOk 2, fun u13 m13 => ?_⟩⟩
    obtain ⟨h13, A13⟩ := node_new (k := "some") g.dice (.cons A9 (.cons A12 .nil)) (by decide +kernel) (by decide) (by decide) n13 m13
    replace L := L.tk (h13.tk g.dice)
    replace dn := dn.tk (h13.tk g.dice)
    replace eL := h13.keep _ _ nl eL
    replace g := g.trans h13
    generalize upd (upd _ t13 _) u13 _ = H13 at g A13 eL L dn ⊢
    clear n13 m13 h13
    refine ⟨l, xs1, .ref u13, rfl, rfl, eL, small (by omega), ?_⟩
    have tp : Tk H13 (upd H13 l (.lst (xs1 ++ [.ref u13]))) := Tk.put eL
    replace L := L.tk tp
    replace dn := (dn.tk tp).add ⟨_, A13.tk tp, by decide +kernel, by decide +kernel, by decide +kernel⟩
    replace g := g.put (o := .lst (xs1 ++ [.ref u13])) nlH nl
    replace eL : upd H13 l (.lst (xs1 ++ [.ref u13])) l = some (.lst (xs1 ++ [.ref u13])) := upd_same
    replace hxs : (xs1 ++ [V.ref u13]).length = 6 := by rw [List.length_append, hxs]; rfl
    clear tp A13
    generalize xs1 ++ [V.ref u13] = xs2 at g eL hxs dn L ⊢
    generalize upd H13 l _ = Hy1 at g eL L dn ⊢
    refine ⟨_, rfl, .inl ⟨rfl, _, SqL.of eL⟩, ?_⟩
    refine ⟨_, rfl, ?_⟩
    refine ⟨_, rfl, ?_⟩
    refine ⟨lenOk 2, fun t14 n14 => ⟨lenOk 2, fun u14 m14 => ?_⟩⟩
    obtain ⟨h14, A14⟩ := node_new (k := "mine") g.dice (.cons L.a (.cons L.b .nil)) (by decide +kernel) (by decide) (by decide) n14 m14
    replace L := L.tk (h14.tk g.dice)
    replace dn := dn.tk (h14.tk g.dice)
    replace eL := h14.keep _ _ nl eL
    replace g := g.trans h14
    generalize upd (upd _ t14 _) u14 _ = H14 at g A14 eL L dn ⊢
    clear n14 m14 h14
    refine ⟨_, rfl, ?_⟩
    refine ⟨_, rfl, ?_⟩
    refine ⟨lenOk 2, fun t15 n15 => ⟨lenOk 2, fun u15 m15 => ?_⟩⟩
    obtain ⟨h15, A15⟩ := node_new (k := "some") g.dice (.cons L.na (.cons L.a .nil)) (by decide +kernel) (by decide) (by decide) n15 m15
    replace L := L.tk (h15.tk g.dice)
    replace A14 := A14.tk (h15.tk g.dice)
    replace dn := dn.tk (h15.tk g.dice)
    replace eL := h15.keep _ _ nl eL
    replace g := g.trans h15
    generalize upd (upd _ t15 _) u15 _ = H15 at g A15 eL L A14 dn ⊢
    clear n15 m15 h15
    refine ⟨lenOk 2, fun t16 n16 => ⟨lenOk 2, fun u16 m16 => ?_⟩⟩
    obtain ⟨h16, A16⟩ := node_new (k := "yours") g.dice (.cons A14 (.cons A15 .nil)) (by decide +kernel) (by decide) (by decide) n16 m16
    replace L := L.tk (h16.tk g.dice)
    replace dn := dn.tk (h16.tk g.dice)
    replace eL := h16.keep _ _ nl eL
    replace g := g.trans h16
    generalize upd (upd _ t16 _) u16 _ = H16 at g A16 eL L dn ⊢
    clear n16 m16 h16
    refine ⟨l, xs2, .ref u16, rfl, rfl, eL, small (by omega), ?_⟩
    have tp : Tk H16 (upd H16 l (.lst (xs2 ++ [.ref u16]))) := Tk.put eL
    replace L := L.tk tp
    replace dn := (dn.tk tp).add ⟨_, A16.tk tp, by decide +kernel, by decide +kernel, by decide +kernel⟩
    replace g := g.put (o := .lst (xs2 ++ [.ref u16])) nlH nl
    replace eL : upd H16 l (.lst (xs2 ++ [.ref u16])) l = some (.lst (xs2 ++ [.ref u16])) := upd_same
    replace hxs : (xs2 ++ [V.ref u16]).length = 7 := by rw [List.length_append, hxs]; rfl
    clear tp A16
    generalize xs2 ++ [V.ref u16] = xs3 at g eL hxs dn L ⊢
    generalize upd H16 l _ = Hy2 at g eL L dn ⊢
    refine ⟨_, rfl, .inl ⟨rfl, _, SqL.of eL⟩, ?_⟩
    refine ⟨_, rfl, ?_⟩
    refine ⟨_, rfl, ?_⟩
    refine ⟨lenOk 2, fun t17 n17 => ⟨lenOk 2, fun u17 m17 => ?_⟩⟩
    obtain ⟨h17, A17⟩ := node_new (k := "mine") g.dice (.cons L.a (.cons L.b .nil)) (by decide +kernel) (by decide) (by decide) n17 m17
    replace L := L.tk (h17.tk g.dice)
    replace dn := dn.tk (h17.tk g.dice)
    replace eL := h17.keep _ _ nl eL
    replace g := g.trans h17
    generalize upd (upd _ t17 _) u17 _ = H17 at g A17 eL L dn ⊢
    clear n17 m17 h17
    refine ⟨_, rfl, ?_⟩
    refine ⟨_, rfl, ?_⟩
    refine ⟨lenOk 2, fun t18 n18 => ⟨lenOk 2, fun u18 m18 => ?_⟩⟩
    obtain ⟨h18, A18⟩ := node_new (k := "yours") g.dice (.cons L.na (.cons L.nb .nil)) (by decide +kernel) (by decide) (by decide) n18 m18
    replace L := L.tk (h18.tk g.dice)
    replace A17 := A17.tk (h18.tk g.dice)
    replace dn := dn.tk (h18.tk g.dice)
    replace eL := h18.keep _ _ nl eL
    replace g := g.trans h18
    generalize upd (upd _ t18 _) u18 _ = H18 at g A18 eL L A17 dn ⊢
    clear n18 m18 h18
    refine ⟨lenOk 2, fun t19 n19 => ⟨lenOk 2, fun u19 m19 => ?_⟩⟩
    obtain ⟨h19, A19⟩ := node_new (k := "all") g.dice (.cons A17 (.cons A18 .nil)) (by decide +kernel) (by decide) (by decide) n19 m19
    replace L := L.tk (h19.tk g.dice)
    replace dn := dn.tk (h19.tk g.dice)
    replace eL := h19.keep _ _ nl eL
    replace g := g.trans h19
    generalize upd (upd _ t19 _) u19 _ = H19 at g A19 eL L dn ⊢
    clear n19 m19 h19
    refine ⟨l, xs3, .ref u19, rfl, rfl, eL, small (by omega), ?_⟩
    have tp : Tk H19 (upd H19 l (.lst (xs3 ++ [.ref u19]))) := Tk.put eL
    replace L := L.tk tp
    replace dn := (dn.tk tp).add ⟨_, A19.tk tp, by decide +kernel, by decide +kernel, by decide +kernel⟩
    replace g := g.put (o := .lst (xs3 ++ [.ref u19])) nlH nl
    replace eL : upd H19 l (.lst (xs3 ++ [.ref u19])) l = some (.lst (xs3 ++ [.ref u19])) := upd_same
    replace hxs : (xs3 ++ [V.ref u19]).length = 8 := by rw [List.length_append, hxs]; rfl
    clear tp A19
    generalize xs3 ++ [V.ref u19] = xs4 at g eL hxs dn L ⊢
    generalize upd H19 l _ = Hy3 at g eL L dn ⊢

    refine ⟨_, rfl, _, rfl, d, l, xs4, rfl, g.dice, SqL.of eL, nl, by omega, by omega, fun x H' hx D' k' => ?_⟩
    obtain ⟨pl, A, w1, w2, w3⟩ := dn x hx
    have h' := off_gr D' k'
    exact q x pl H' (g.trans h') (A.tk (h'.tk g.dice)) (inW_of w1) w2 w3
end
end Eh
set_option Elab.async false
set_option linter.all false
set_option maxRecDepth 100000
namespace Eh
open PySem PySem.Spec PyProof.Rows L2
section
variable {P : Program} {w : World} {K : PySem.W.Frag} {mg : Str → Option Value} {base : Heap}
/-- ys are some of xs -/
def SomeOf (ys xs : List V) : Prop := ∃ rest, (ys ++ rest).Perm xs
def spSome (K : PySem.W.Frag) : Sp := fun vs H Q _ => ∃ (d a : Addr) (xs : List V) (n : Nat), vs = [.ref d, .ref a, .int n] ∧ D3 H d ∧ SqL K H a xs ∧ a ≠ d ∧ xs.length < 1000000 ∧ n < 1000000 ∧
  ∀ ys p H', SomeOf ys xs → ys.length = min n xs.length → Gr d H H' → H p = none → H' p = some (.lst ys) → Q (.ref p) H'
theorem perm_erase {α : Type} : ∀ {xs : List α} {i : Nat} {x : α}, xs[i]? = some x → (x :: xs.eraseIdx i).Perm xs
  | [], _, _, h => by simp at h
  | y :: r, 0, x, h => by
    cases (show some y = some x from h)
    exact List.Perm.refl _
  | y :: r, i + 1, x, h => by
    have ih := perm_erase (xs := r) (i := i) (x := x) h
    exact (List.Perm.swap y x _).trans (ih.cons y)
theorem seqIndex_nat {n j : Nat} (h : j < n) : seqIndex? (j : Int) n = some j := (ixN_seq (n := n) (i := (j : Int)) (j := j) (by
  unfold ixN
  rw [if_pos (by omega), if_pos (by omega)]
  rfl)).1
theorem ok_some {f fR : Addr} {fd fdR : FuncData} (F : Fun K "_law_some" "_law_some" s__law_some f fd) (T : Txt mg) (C__law_roll : Cal P w K mg base 1 "_law_roll" fR fdR ["dice", "many"] spRoll) :
    FnOk P w K mg base CX0 2 f fd ["dice", "items", "size"] (spSome K) := by
  refine F.ok sc__law_some (fun vs H Q E h => ?_) (fun cdv A outer s H vs Q E hr h => ?_)
  · obtain ⟨d, a, xs, n, rfl, _⟩ := h
    rfl
  · obtain ⟨d, a, xs, n, rfl, D, hS, hn, h1, h2, q⟩ := h
    refine ⟨_, (pss_cons (ps_set (i := 3) sc__law_some.nd rfl (.inr rfl) (pe_callTy (lstOf (K := K) rfl) (by rfl) T.list_ (by decide +kernel) (pa_cons (pv 1) pa_nil)))
  (pss_one (ps_ret (pe_lc (own := [("turn", 4)]) (g := gName 4) (by rfl) sc__law_some.nd (pi_range1 (by rfl) T.range_ (pa_cons (pe_callB (call_min2 (by rfl)) (by rfl) T.min_ (by decide +kernel) (pa_cons (pv 2) (pa_cons (pe_callB (lenQ (K := K) rfl) (by rfl) T.len_ (by decide +kernel) (pa_cons (pv 3) pa_nil)) pa_nil))) pa_nil)) (blkOk_by (by kernel_rfl)) (fun _ _ _ _ _ => (pg_name (i := 4) sc__law_some.nd rfl (.inl rfl))) (fun _ _ _ _ _ => pts_nil) (fun _ _ _ _ _ => (bmK (K := K) rfl (pe_bm PySem.F.plainAttrs_list PySem.F.slot_list_pop PySem.F.type_list_pop mt_popAt (pv 3) (pa_cons (pe_call C__law_roll.G hr (by rfl) C__law_roll.m C__law_roll.k C__law_roll.b .nil pass0 (pa_cons (pv 0) (pa_cons (pe_callB (lenQ (K := K) rfl) (by rfl) T.len_ (by decide +kernel) (pa_cons (pv 3) pa_nil)) pa_nil))) pa_nil)))))))), ?_⟩
    -- left = list(items)
    refine ⟨_, rfl, a, xs, rfl, .inl hS, fun l nl => ?_⟩
    have nld : l ≠ d := D.ne nl
    have g0 : Gr d H (upd H l (.lst xs)) := .laid D nl
    -- min(size, len(left))
    refine ⟨_, rfl, _, rfl, .inl ⟨l, xs, rfl, .inl (SqL.of upd_same), n, xs.length, rfl, ?_⟩⟩
    obtain ⟨m, em, hm⟩ : ∃ m : Nat, (if (xs.length : Int) < (n : Int) then (xs.length : Int) else (n : Int)) = (m : Int) ∧ m = min n xs.length := by
      refine ⟨min n xs.length, ?_, rfl⟩
      split <;> omega
    rw [em]
    refine ⟨m, rfl, by omega, by omega, fun p np => ?_⟩
    have npl : p ≠ l := fun e => by rw [e, upd_same] at np; cases np
    have npH : H p = none := by rw [upd_ne npl] at np; exact np
    have npd : p ≠ d := D.ne npH
    refine lcR (fun i ys H2 => ∃ zs, (ys ++ zs).Perm xs ∧ ys.length = i ∧ Gr d H H2 ∧ H2 l = some (.lst zs)) ⟨xs, List.Perm.refl _, rfl, g0.put npH npd, by rw [upd_ne npl.symm, upd_same]⟩ ?_ ?_
    · rintro i ys H2 hi hly e1 ⟨zs, hp, hl, g2, e2⟩
      have hlen : ys.length + zs.length = xs.length := by rw [← hp.length_eq, List.length_append]
      refine ⟨_, rfl, .inl ⟨rfl, _, SqL.of e2⟩, _, rfl, _, rfl, .inl ⟨l, zs, rfl, .inl (SqL.of e2), d, _, rfl, g2.dice, by omega, by omega, fun r H3 r0 r1 D3' k => ?_⟩⟩
      have hr' : r.toNat < zs.length := by omega
      have e2' : H3 l = some (.lst zs) := by rw [k l nld]; exact e2
      have e1' : H3 p = some (.lst ys) := by rw [k p npd]; exact e1
      have er := seqIndex_nat hr'
      rw [Int.toNat_of_nonneg r0] at er
      refine ⟨l, zs, r, r.toNat, zs[r.toNat], rfl, rfl, e2', by omega, by omega, er, List.getElem?_eq_getElem hr', ?_⟩
      refine LcK.mk hly (by omega) (by rw [upd_ne npl]; exact e1') ⟨zs.eraseIdx r.toNat, ?_, ?_, ?_, ?_⟩
      · rw [List.append_assoc]
        exact (List.Perm.append_left ys (perm_erase (List.getElem?_eq_getElem hr'))).trans hp
      · rw [List.length_append]
        show ys.length + 1 = i + 1
        omega
      · have g3 : Gr d H H3 := ⟨D3', fun b o nb e => by rw [k b nb]; exact g2.keep b o nb e⟩
        exact (g3.put nl nld).put npH npd
      · rw [upd_ne npl.symm, upd_same]
    · rintro ys H2 _ e1 ⟨zs, hp, hl, g2, e2⟩
      exact q ys p H2 ⟨zs, hp⟩ (by omega) g2 npH e1
end
end Eh
set_option Elab.async false
set_option linter.all false
set_option maxRecDepth 100000
namespace Eh
open PySem PySem.Spec PyProof.Rows L2
def uni6 : List Str := ["a", "b", "c", "fact", "zz", "d"]
def six6 : List Str := ["a", "b", "c", "fact", "no", "zz"]
theorem six_uni {z : Str} (h : z ∈ six6) (n : z ≠ "no") : z ∈ uni6 := by
  unfold six6 at h
  simp only [List.mem_cons, List.not_mem_nil, or_false] at h
  rcases h with rfl | rfl | rfl | rfl | rfl | rfl
  · decide +kernel
  · decide +kernel
  · decide +kernel
  · decide +kernel
  · exact absurd rfl n
  · decide +kernel
theorem abc_uni {z : Str} (h : z ∈ abc) : z ∈ uni6 := by
  unfold abc at h
  simp only [List.mem_cons, List.not_mem_nil, or_false] at h
  rcases h with rfl | rfl | rfl <;> decide +kernel
theorem cut3 (xs : List V) : cutV xs none (some 3) = xs.take 3 := by
  unfold cutV HT.sIx
  simp
section
variable {P : Program} {w : World} {K : PySem.W.Frag} {mg : Str → Option Value} {base : Heap}
def spPromise (K : PySem.W.Frag) : Sp := fun vs H Q _ => ∃ d, vs = [.ref d] ∧ D3 H d ∧ ∀ v pl ws H', Gr d H H' → At K H' v pl → ws.length ≤ 3 → (∀ z ∈ ws, z ∈ uni6) → InW ws (nodesOf pl) → (nodesOf pl).length ≤ 11 → countIn choiceKinds (nodesOf pl) ≤ 4 → Q v H'
theorem ok_promise {k : Nat} (hk : 3 ≤ k) {f fR fP fS fK fD : Addr} {fd fdR fdP fdS fdK fdD : FuncData} (F : Fun K "_law_promise" "_law_promise" s__law_promise f fd) (T : Txt mg) (C__law_roll : Cal P w K mg base 1 "_law_roll" fR fdR ["dice", "many"] spRoll)
    (C__law_pick : Cal P w K mg base 2 "_law_pick" fP fdP ["dice", "items"] (spPick K)) (C__law_some : Cal P w K mg base 2 "_law_some" fS fdS ["dice", "items", "size"] (spSome K))
    (C__law_known : Cal P w K mg base 3 "_law_known" fK fdK ["dice"] (spKnown K)) (C__law_drawn : Cal P w K mg base k "_law_drawn" fD fdD ["dice", "words", "most", "choices"] (spDrawn K 11)) : FnOk P w K mg base CX0 (k + 1) f fd ["dice"] (spPromise K) := by
  refine F.ok sc__law_promise (fun vs H Q E h => ?_) (fun cdv A outer s H vs Q E hr h => ?_)
  · obtain ⟨d, rfl, _⟩ := h
    rfl
  · obtain ⟨d, rfl, D, q⟩ := h
    have hr1 := hr.mono (j := 1) (by omega)
    have hr2 := hr.mono (j := 2) (by omega)
    have hr3 := hr.mono (j := 3) (by omega)
    refine ⟨_, (pss_cons (ps_if (pt_cmpR op_eq (pe_call C__law_roll.G hr1 (by rfl) C__law_roll.m C__law_roll.k C__law_roll.b .nil pass0 (pa_cons (pv 0) (pa_cons pe_int pa_nil))) pe_int (nomark _))
  (pss_one (ps_ret (pe_call C__law_known.G hr3 (by rfl) C__law_known.m C__law_known.k C__law_known.b .nil pass0 (pa_cons (pv 0) pa_nil))))
  pss_nil)
  (pss_cons (ps_set (i := 1) sc__law_promise.nd rfl (.inl rfl) (pe_call C__law_some.G hr2 (by rfl) C__law_some.m C__law_some.k C__law_some.b .nil pass0 (pa_cons (pv 0) (pa_cons (pe_lst (pa_cons pe_str (pa_cons pe_str (pa_cons pe_str (pa_cons pe_str (pa_cons pe_str (pa_cons pe_str pa_nil))))))) (pa_cons (pe_op op_add pe_int (pe_call C__law_roll.G hr1 (by rfl) C__law_roll.m C__law_roll.k C__law_roll.b .nil pass0 (pa_cons (pv 0) (pa_cons pe_int pa_nil)))) pa_nil)))))
  (pss_cons (ps_set (i := 1) sc__law_promise.nd rfl (.inl rfl) (pe_op op_cat (pe_lc (own := [("word", 2)]) (g := gName 2) (by rfl) sc__law_promise.nd (piL (K := K) rfl (pv 1)) (blkOk_by (by kernel_rfl)) (fun _ _ _ _ _ => (pg_name (i := 2) sc__law_promise.nd rfl (.inl rfl))) (fun _ _ _ _ _ => (pts_one (pt_cmpR op_ne (pv 2) pe_str (nomark _)))) (fun _ _ _ _ _ => (pv 2))) (pe_lst (pa_cons pe_str pa_nil))))
  (pss_one (ps_ret (pe_call C__law_drawn.G hr (by rfl) C__law_drawn.m C__law_drawn.k C__law_drawn.b .nil pass0 (pa_cons (pv 0) (pa_cons (pe_slice (slL (K := K) rfl) (pv 1) po_none (po_some pe_int)) (pa_cons (pe_call C__law_pick.G hr2 (by rfl) C__law_pick.m C__law_pick.k C__law_pick.b .nil pass0 (pa_cons (pv 0) (pa_cons (pe_lst (pa_cons pe_int (pa_cons pe_int (pa_cons pe_int (pa_cons pe_int (pa_cons pe_int pa_nil)))))) pa_nil))) (pa_cons (pe_call C__law_pick.G hr2 (by rfl) C__law_pick.m C__law_pick.k C__law_pick.b .nil pass0 (pa_cons (pv 0) (pa_cons (pe_lst (pa_cons pe_int (pa_cons pe_int (pa_cons pe_int (pa_cons pe_int (pa_cons pe_int pa_nil)))))) pa_nil))) pa_nil)))))))))), ?_⟩
    refine ⟨_, rfl, d, 6, rfl, D, by decide, by decide, fun r H1 r0 r1 D1 k1 => ?_⟩
    have g1 := off_gr (H := H) D1 k1
    refine ⟨rfl, _, rfl, ite2 (fun _ => ?_) (fun _ => ?_)⟩
    · exact ⟨_, rfl, d, rfl, D1, fun v pl H2 g2 A hw hl hc => q v pl abc H2 (g1.trans g2) A (by decide) (fun z hz => abc_uni hz) hw hl hc⟩
    refine ⟨_, rfl, lenOk 6, fun l1 n1 => ?_⟩
    have a1 := Gr.laid (o := .lst (six6.map V.str)) g1.dice n1
    refine ⟨_, rfl, d, 3, rfl, a1.dice, by decide, by decide, fun r2 H2 r20 r21 D2 k2 => ?_⟩
    have g2 := g1.trans (a1.trans (off_gr D2 k2))
    refine ⟨_, _, rfl, rfl, ?_⟩
    obtain ⟨n, en, hn⟩ : ∃ n : Nat, (1 : Int) + r2 = (n : Int) ∧ 1 ≤ n ∧ n ≤ 3 := ⟨(1 + r2).toNat, by omega, by omega, by omega⟩
    have nl1 : l1 ≠ d := g1.dice.ne n1
    refine ⟨d, l1, six6.map V.str, n, (by show [V.ref d, V.ref l1, V.int (1 + r2)] = _; rw [en]), D2, SqL.of (by rw [k2 l1 nl1]; exact upd_same), nl1, by decide, by omega, fun ys p H3 hys hyl g3 n3 e3 => ?_⟩
    have g4 := g2.trans g3
    have npd : p ≠ d := g2.dice.ne n3
    refine ⟨_, rfl, p, rfl, ⟨ys, SqL.of e3⟩, fun D0 nD => ?_⟩
    have a2 := Gr.laid (o := .lst []) g4.dice nD
    have nDd : D0 ≠ d := g4.dice.ne nD
    have nDH : H D0 = none := g4.free D nD
    have npD : p ≠ D0 := ne_of_none e3 nD
    have mem : ∀ y ∈ ys, ∃ z, y = V.str z ∧ z ∈ six6 := fun y hy => by
      obtain ⟨rest, hp⟩ := hys
      have := hp.mem_iff.mp (List.mem_append_left rest hy)
      obtain ⟨z, hz, rfl⟩ := List.mem_map.mp this
      exact ⟨z, rfl, hz⟩
    have hlen : ys.length ≤ 3 := by omega
    refine lcL (fun j acc H5 => Gr d H H5 ∧ H5 p = some (.lst ys) ∧ ∃ zs : List Str, acc = zs.map V.str ∧ ∀ z ∈ zs, z ∈ uni6) ⟨g4.trans a2, by rw [upd_ne npD]; exact e3, [], rfl, fun _ h => nomatch h⟩ (fun j acc H5 h => SqL.of h.2.1) ?_ ?_
    · rintro j x acc H5 hx hl2 e2 ⟨g5, e5, zs, rfl, hzs⟩
      obtain ⟨z, rfl, hz⟩ := mem x (List.mem_of_getElem? hx)
      have hj : j < 3 := by
        have := (List.getElem?_eq_some_iff.mp hx).1
        omega
      refine ⟨_, rfl, rfl, _, rfl, ?_⟩
      by_cases ez : V.str z = V.str "no"
      · rw [decide_eq_true ez]
        exact iteF ⟨_, by omega, e2, g5, e5, zs, rfl, hzs⟩
      · rw [decide_eq_false ez]
        refine iteT ⟨_, rfl, LcK.mk hl2 (by omega) e2 ⟨g5.put nDH nDd, by rw [upd_ne npD]; exact e5, zs ++ [z], by rw [List.map_append]; rfl, fun u hu => ?_⟩⟩
        rcases List.mem_append.mp hu with h | h
        · exact hzs u h
        · rw [List.mem_singleton.mp h]
          exact six_uni hz fun e => ez (by rw [e])
    · rintro acc H5 hl2 e2 ⟨g5, e5, zs, rfl, hzs⟩
      refine ⟨lenOk 1, fun l3 n5 => ?_⟩
      have a3 := Gr.laid (o := .lst [.str "d"]) g5.dice n5
      refine ⟨D0, l3, _, _, rfl, rfl, a3.keep _ _ nDd e2, upd_same, Nat.le_of_lt (small (by show _ + 1 < _; omega)), fun l4 n6 => ?_⟩
      rw [show zs.map V.str ++ [V.str "d"] = (zs ++ [("d" : Str)]).map V.str from by rw [List.map_append]; rfl]
      have a4 := Gr.laid (o := .lst ((zs ++ [("d" : Str)]).map V.str)) a3.dice n6
      have g6 := g5.trans (a3.trans a4)
      refine ⟨_, rfl, _, rfl, _, rfl, l4, _, rfl, SqL.of upd_same, fun l5 n7 => ?_⟩
      rw [cut3, ← List.map_take]
      obtain ⟨ws, ews⟩ : ∃ ws, ws = (zs ++ [("d" : Str)]).take 3 := ⟨_, rfl⟩
      rw [← ews]
      have hws : ∀ z ∈ ws, z ∈ uni6 := fun z hz => by
        rw [ews] at hz
        rcases List.mem_append.mp (List.mem_of_mem_take hz) with h | h
        · exact hzs z h
        · rw [List.mem_singleton.mp h]
          decide +kernel
      have hw3 : ws.length ≤ 3 := by rw [ews, List.length_take]; omega
      have hw0 : 0 < ws.length := by rw [ews, List.length_take, List.length_append]; show 0 < min 3 (_ + 1); omega
      have a5 := Gr.laid (o := .lst (ws.map V.str)) g6.dice n7
      have g7 := g6.trans a5
      have n5d : l5 ≠ d := g6.dice.ne n7
      refine ⟨_, rfl, lenOk 5, fun l6 n8 => ?_⟩
      have a6 := Gr.laid (o := .lst [.int 3, .int 5, .int 7, .int 9, .int 11]) g7.dice n8
      refine ⟨d, l6, _, rfl, a6.dice, SqL.of upd_same, g7.dice.ne n8, by decide, by decide, fun x H8 hx D8 k8 => ?_⟩
      have g8 := a6.trans (off_gr D8 k8)
      obtain ⟨most, rfl, m1, m2⟩ : ∃ most : Int, x = .int most ∧ 1 ≤ most ∧ most ≤ 11 := by
        simp only [List.mem_cons, List.not_mem_nil, or_false] at hx
        rcases hx with rfl | rfl | rfl | rfl | rfl <;> exact ⟨_, rfl, by decide, by decide⟩
      refine ⟨_, rfl, lenOk 5, fun l7 n9 => ?_⟩
      have a7 := Gr.laid (o := .lst [.int 1, .int 2, .int 2, .int 3, .int 4]) g8.dice n9
      refine ⟨d, l7, _, rfl, a7.dice, SqL.of upd_same, g8.dice.ne n9, by decide, by decide, fun x H9 hx D9 k9 => ?_⟩
      have g9 := g8.trans (a7.trans (off_gr D9 k9))
      obtain ⟨ch, rfl, c1, c2⟩ : ∃ ch : Int, x = .int ch ∧ 0 ≤ ch ∧ ch ≤ 4 := by
        simp only [List.mem_cons, List.not_mem_nil, or_false] at hx
        rcases hx with rfl | rfl | rfl | rfl | rfl <;> exact ⟨_, rfl, by decide, by decide⟩
      refine ⟨d, l5, ws, most, ch, rfl, D9, SqL.of (g9.keep _ _ n5d upd_same), n5d, hw0, by omega, m1, by omega, by decide, c1, by omega, fun v pl H10 g10 A hw hl hc => ?_⟩
      exact q v pl ws H10 (g7.trans (g9.trans g10)) A hw3 hws hw (by omega) (by omega)
end
end Eh
set_option Elab.async false
set_option linter.all false
set_option maxRecDepth 100000
namespace Eh
open PySem PySem.Spec PyProof.Rows L2
def low (c : Nat) : Bool := decide (97 ≤ c ∧ c ≤ 122)
def factS (z : Str) : Bool := decide (1 ≤ z.length ∧ z.length ≤ 8) && !(decide (z = "yes")) && !(decide (z = "no")) && z.cps.toList.all low
def factV : V → Bool
  | .str z => factS z
  | _ => false
/-- a value whose type is known and is not str, or a text -/
def Asc (z : Str) : Prop := z.length < 1000000 ∧ ∀ c ∈ z.cps.toList, c < 128
def Kind (K : PySem.W.Frag) (H : Hp) (v : V) : Prop := (∃ z : Str, v = .str z ∧ Asc z) ∨ ((∀ z, v ≠ .str z) ∧ ∃ t, TyX K H v t ∧ PySem.W.kitOne K t (.type "str") = some false)
section
variable {P : Program} {w : World} {K : PySem.W.Frag} {mg : Str → Option Value} {base : Heap}
def spFact (K : PySem.W.Frag) : Sp := fun vs H Q _ => ∃ v, vs = [v] ∧ Kind K H v ∧ ∀ H', Same H H' → Q (.bl (factV v)) H'
theorem kitStr {K : PySem.W.Frag} : PySem.W.kitOne K (.type "str") (.type "str") = some true := kit_ty (by decide +kernel)
theorem le_sign (c : Nat) : (!decide ((⟨#[c]⟩ : Str).cps.toList < ("a" : Str).cps.toList)) = decide (97 ≤ c) := by
  show (!decide ([c] < [97])) = decide (97 ≤ c)
  have e : ([c] < [97]) ↔ c < 97 := by
    constructor
    · intro h
      cases h with
      | rel h => exact h
      | cons h => cases h
    · intro h
      exact List.Lex.rel h
  rw [decide_eq_decide.mpr e]
  by_cases h : c < 97
  · rw [decide_eq_true h, decide_eq_false (by omega)]
    rfl
  · rw [decide_eq_false h, decide_eq_true (by omega)]
    rfl
theorem ge_sign (c : Nat) : (!decide (("z" : Str).cps.toList < (⟨#[c]⟩ : Str).cps.toList)) = decide (c ≤ 122) := by
  show (!decide ([122] < [c])) = decide (c ≤ 122)
  have e : ([122] < [c]) ↔ 122 < c := by
    constructor
    · intro h
      cases h with
      | rel h => exact h
      | cons h => cases h
    · intro h
      exact List.Lex.rel h
  rw [decide_eq_decide.mpr e]
  by_cases h : 122 < c
  · rw [decide_eq_true h, decide_eq_false (by omega)]
    rfl
  · rw [decide_eq_false h, decide_eq_true (by omega)]
    rfl
theorem sbeq (a b : Str) : (a == b) = decide (a = b) := by rw [Bool.eq_iff_iff, beq_iff_eq, decide_eq_true_iff]
theorem yesno (z : Str) : inV (.str z) [.str "yes", .str "no"] = (decide (("yes" : Str) = z) || decide (("no" : Str) = z)) := by
  show (("yes" : Str) == z || (("no" : Str) == z || false)) = _
  rw [Bool.or_false, sbeq, sbeq]
def rNi (K : PySem.W.Frag) : R2 := fun x y H Q => ∃ p xs, y = .ref p ∧ (SqL K H p xs ∨ SqT K H p xs) ∧ flatV x = true ∧ xs.all flatV = true ∧ ∀ b, inV x xs = b → Q (.bl (!b)) H
theorem niB {X : Cx} (h : X.K = K) : OpR X (compareOp .NotIn) (rNi K) := by
  subst h
  intro pins s σ H x y v u Q I rx ry h
  obtain ⟨p, xs, e1, e2, e3, e4, q⟩ := h
  exact op_notIn_seq pins s σ H x y v u Q I rx ry ⟨p, xs, e1, e2, e3, e4, q _ rfl⟩
theorem all_take {α : Type} {f : α → Bool} {l : List α} {j : Nat} {c : α} (h : l[j]? = some c) : (l.take (j + 1)).map f = (l.take j).map f ++ [f c] := by
  rw [List.take_add_one, h, List.map_append]
  rfl
theorem ok_is_fact {f : Addr} {fd : FuncData} (F : Fun K "is_fact" "is_fact" s_is_fact f fd) (T : Txt mg) (c8 : ∃ t, mg "MAX_LETTERS" = some (.int 8 t)) : FnOk P w K mg base CX0 1 f fd ["value"] (spFact K) := by
  obtain ⟨t8, e8⟩ := c8
  refine F.ok sc_is_fact (fun vs H Q E h => ?_) (fun cdv A outer s H vs Q E hr h => ?_)
  · obtain ⟨v, rfl, _⟩ := h
    rfl
  · obtain ⟨v, rfl, hk, q⟩ := h
    refine ⟨_, (pss_cons (ps_if (PW.pt (pw_or (pt_not (pt_val (pe_callB (isiQ (K := K) rfl) (by rfl) T.isinstance_ (by decide +kernel) (pa_cons (pv 0) (pa_cons (pe_bltn (v := .ty "str") (by rfl) T.str_ (by decide +kernel) rfl) pa_nil))))) (pw_or1 (pt_not (pt_chain op_le op_le pe_int (pe_callB (lenQ (K := K) rfl) (by rfl) T.len_ (by decide +kernel) (pa_cons (pv 0) pa_nil)) (pe_glob (v := .int 8) rfl e8 ⟨_, rfl⟩))))))
  (pss_one (ps_ret pe_bl))
  pss_nil)
  (pss_one (ps_ret (pe_and (pe_cmpR (niB (K := K) rfl) (pv 0) (pe_tup (pa_cons pe_str (pa_cons pe_str pa_nil))) (by rfl)) (pe_one (pe_callB (allQ (K := K) rfl (by rfl)) (by rfl) T.all_ (by decide +kernel) (pa_cons (pe_lc (own := [("letter", 1)]) (g := gName 1) (by rfl) sc_is_fact.nd (pi_str (pv 0)) (blkOk_by (by kernel_rfl)) (fun _ _ _ _ _ => (pg_name (i := 1) sc_is_fact.nd rfl (.inl rfl))) (fun _ _ _ _ _ => pts_nil) (fun _ _ _ _ _ => (pe_chain op_le_str op_le_str pe_str (pv 1) pe_str))) pa_nil))))))), ?_⟩
    rcases hk with ⟨z, rfl, hz, _⟩ | ⟨hn, t, ty, ek⟩
    · refine ⟨_, rfl, .str z, .ty "str", .type "str", .type "str", true, rfl, .ty _, .base (.str z), kitStr, _, rfl, iteF ?_⟩
      refine ⟨_, rfl, .inr ⟨z, rfl, Nat.le_of_lt (small hz), 1, _, rfl, rfl, _, rfl, ite2 (fun h1 => ?_) (fun h1 => ?_)⟩⟩
      · refine ⟨_, 8, rfl, rfl, _, rfl, ?_⟩
        have h1' : (1 : Int) ≤ z.length := of_decide_eq_true h1
        by_cases h8 : (z.length : Int) ≤ 8
        · rw [decide_eq_true h8]
          refine iteF ?_
          refine ⟨_, rfl, lenOk 2, fun t nt => ⟨t, _, rfl, .inr (SqT.of upd_same), rfl, rfl, fun b hb => ⟨_, rfl, ?_⟩⟩⟩
          have s1 : Same H (upd H t (.tup [.str "yes", .str "no"])) := same_new nt
          rw [yesno] at hb
          cases b with
          | true =>
            refine iteF ?_
            have e : factV (.str z) = false := by
              show factS z = false
              unfold factS
              rcases (Bool.or_eq_true _ _).mp hb with h | h
              · rw [← of_decide_eq_true h]; rfl
              · rw [← of_decide_eq_true h]; rfl
            have q' := q _ s1
            rw [e] at q'
            exact q'
          | false =>
            refine iteT ?_
            obtain ⟨hb1, hb2⟩ := (Bool.or_eq_false_iff).mp hb
            refine ⟨_, rfl, z, rfl, fun D nD => ?_⟩
            have s2 := s1.trans (same_new (o := .lst []) nD)
            have nD1 : H D = none := s1.free nD
            refine lcS (fun j acc H2 => Same H H2 ∧ acc = ((z.cps.toList.take j).map low).map V.bl) ⟨s2, rfl⟩ ?_ ?_
            · rintro j c acc H2 hc hl e ⟨s3, ea⟩
              refine yesT ?_
              refine ⟨_, rfl, "a", _, rfl, rfl, _, rfl, ?_⟩
              rw [le_sign]
              have hj : j < 1000000 := by
                have := (Array.getElem?_eq_some_iff.mp hc).1
                have e2 : z.cps.size = z.length := rfl
                omega
              have fin : ∀ H4 b, H4 = H2 → b = low c → LcK (fun j acc H2 => Same H H2 ∧ acc = ((z.cps.toList.take j).map low).map V.bl) D j (.bl b) H4 := by
                rintro _ _ rfl rfl
                refine LcK.mk hl hj e ⟨fun b o eb => ?_, ?_⟩
                · rw [upd_ne (ne_of_none eb nD1)]
                  exact s3 b o eb
                · rw [ea, all_take (by rw [Array.getElem?_toList]; exact hc), List.map_append]
                  rfl
              refine ite2 (fun h1 => ?_) (fun h1 => ?_)
              · refine ⟨_, "z", rfl, rfl, ?_⟩
                rw [ge_sign]
                refine fin _ _ rfl ?_
                have h1' := of_decide_eq_true h1
                unfold low
                exact decide_eq_decide.mpr ⟨fun h => ⟨h1', h⟩, fun h => h.2⟩
              · refine fin _ _ rfl ?_
                have h1' : ¬ (97 ≤ c) := fun h => h1 (decide_eq_true h)
                unfold low
                exact (decide_eq_false (fun h => h1' h.1)).symm
            · rintro acc H2 hl e ⟨s3, ea⟩
              refine ⟨D, _, rfl, SqL.of (e.trans (by rw [ea])), ?_⟩
              have e2 : factV (.str z) = ((z.cps.toList.take z.cps.size).map low).all id := by
                show factS z = _
                unfold factS
                rw [decide_eq_true (show 1 ≤ z.length ∧ z.length ≤ 8 from ⟨by omega, by omega⟩), decide_eq_false (fun h => of_decide_eq_false hb1 h.symm), decide_eq_false (fun h => of_decide_eq_false hb2 h.symm)]
                rw [List.take_of_length_le (by rw [Array.length_toList]; exact Nat.le_refl _), List.all_map]
                rfl
              have q' := q _ s3
              rw [e2] at q'
              exact q'
        · rw [decide_eq_false h8]
          refine iteT ?_
          have e : factV (.str z) = false := by
            show factS z = false
            unfold factS
            rw [decide_eq_false (fun h => h8 (by omega))]
            rfl
          have q' := q _ (Same.refl H)
          rw [e] at q'
          exact q'
      · refine ⟨_, rfl, iteT ?_⟩
        have e : factV (.str z) = false := by
          show factS z = false
          unfold factS
          rw [decide_eq_false (fun h => h1 (decide_eq_true (by omega)))]
          rfl
        have q' := q _ (Same.refl H)
        rw [e] at q'
        exact q'
    · refine ⟨_, rfl, v, .ty "str", t, .type "str", false, rfl, .ty _, ty, ek, _, rfl, iteT ?_⟩
      have e : factV v = false := by
        cases v with
        | str z => exact absurd rfl (hn z)
        | _ => rfl
      have q' := q _ (Same.refl H)
      rw [e] at q'
      exact q'
end
def intV : V → Bool
  | .int i => decide ((if i < 0 then -i else i) < 10 ^ (60 : Int).toNat)
  | _ => false
def KindI (K : PySem.W.Frag) (H : Hp) (v : V) : Prop := (∃ i, v = .int i) ∨ (∃ b, v = .bl b) ∨ ((∀ i, v ≠ .int i) ∧ ∃ t, TyX K H v t ∧ PySem.W.kitOne K t (.type "int") = some false)
section
variable {P : Program} {w : World} {K : PySem.W.Frag} {mg : Str → Option Value} {base : Heap}
def spInteger (K : PySem.W.Frag) : Sp := fun vs H Q _ => ∃ v, vs = [v] ∧ KindI K H v ∧ Q (.bl (intV v)) H
theorem kitII {K : PySem.W.Frag} : PySem.W.kitOne K (.type "int") (.type "int") = some true := kit_ty (by decide +kernel)
theorem kitIB {K : PySem.W.Frag} : PySem.W.kitOne K (.type "int") (.type "bool") = some false := kit_ty (by decide +kernel)
theorem kitBI {K : PySem.W.Frag} : PySem.W.kitOne K (.type "bool") (.type "int") = some true := kit_ty (by decide +kernel)
theorem kitBB {K : PySem.W.Frag} : PySem.W.kitOne K (.type "bool") (.type "bool") = some true := kit_ty (by decide +kernel)
theorem ok_is_integer {f : Addr} {fd : FuncData} (F : Fun K "is_integer" "is_integer" s_is_integer f fd) (T : Txt mg) : FnOk P w K mg base CX0 1 f fd ["value"] (spInteger K) := by
  refine F.ok sc_is_integer (fun vs H Q E h => ?_) (fun cdv A outer s H vs Q E hr h => ?_)
  · obtain ⟨v, rfl, _⟩ := h
    rfl
  · obtain ⟨v, rfl, hk, q⟩ := h
    refine ⟨_, (pss_cons (ps_if (PW.pt (pw_or (pt_not (pt_val (pe_callB (isiQ (K := K) rfl) (by rfl) T.isinstance_ (by decide +kernel) (pa_cons (pv 0) (pa_cons (pe_bltn (v := .ty "int") (by rfl) T.int_ (by decide +kernel) rfl) pa_nil))))) (pw_or1 (pt_val (pe_callB (isiQ (K := K) rfl) (by rfl) T.isinstance_ (by decide +kernel) (pa_cons (pv 0) (pa_cons (pe_bltn (v := .ty "bool") (by rfl) T.bool_ (by decide +kernel) rfl) pa_nil)))))))
  (pss_one (ps_ret pe_bl))
  pss_nil)
  (pss_one (ps_ret (pe_cmpR op_lt (pe_callB call_abs (by rfl) T.abs_ (by decide +kernel) (pa_cons (pv 0) pa_nil)) (pe_op op_pow pe_int pe_int) (nomark _))))), ?_⟩
    rcases hk with ⟨i, rfl⟩ | ⟨b, rfl⟩ | ⟨hn, t, ty, ek⟩
    · refine ⟨_, rfl, .int i, .ty "int", .type "int", .type "int", true, rfl, .ty _, .base (.int i), kitII, _, rfl, iteF ?_⟩
      refine ⟨_, rfl, .int i, .ty "bool", .type "int", .type "bool", false, rfl, .ty _, .base (.int i), kitIB, _, rfl, iteF ?_⟩
      exact ⟨_, rfl, i, rfl, _, _, rfl, rfl, p60, _, _, rfl, rfl, q⟩
    · refine ⟨_, rfl, .bl b, .ty "int", .type "bool", .type "int", true, rfl, .ty _, .base (.bl b), kitBI, _, rfl, iteF ?_⟩
      exact ⟨_, rfl, .bl b, .ty "bool", .type "bool", .type "bool", true, rfl, .ty _, .base (.bl b), kitBB, _, rfl, iteT q⟩
    · refine ⟨_, rfl, v, .ty "int", t, .type "int", false, rfl, .ty _, ty, ek, _, rfl, iteT ?_⟩
      have e : intV v = false := by
        cases v with
        | int i => exact absurd rfl (hn i)
        | _ => rfl
      rw [e] at q
      exact q
end
end Eh
set_option Elab.async false
set_option linter.all false
set_option maxRecDepth 100000
namespace Eh
open PySem PySem.Spec PyProof.Rows L2
def Elt (K : PySem.W.Frag) (H : Hp) (v : V) : Prop := (∃ z, v = .str z ∧ Asc z) ∨ (∃ i, v = .int i) ∨ (∃ b, v = .bl b) ∨ v = .non ∨ ∃ a xs, v = .ref a ∧ SqT K H a xs
theorem ty_tup {K : PySem.W.Frag} {H : Hp} {a : Addr} {xs : List V} (h : SqT K H a xs) : TyX K H (.ref a) (.type "tuple") := by
  rcases h with (h | ⟨o, h⟩) | ⟨o, its, n, h, c, _⟩
  · exact .base (.tup h)
  · exact .fTuple h
  · exact .kTuple h c
theorem Elt.tk {K : PySem.W.Frag} {H H' : Hp} {v : V} (h : Elt K H v) (t : Tk H H') : Elt K H' v := by
  rcases h with h | h | h | h | ⟨a, xs, e, h⟩
  · exact .inl h
  · exact .inr (.inl h)
  · exact .inr (.inr (.inl h))
  · exact .inr (.inr (.inr (.inl h)))
  · exact .inr (.inr (.inr (.inr ⟨a, xs, e, t.seq h⟩)))
theorem Elt.kind {K : PySem.W.Frag} {H : Hp} {v : V} (h : Elt K H v) : Kind K H v := by
  rcases h with h | ⟨i, rfl⟩ | ⟨b, rfl⟩ | rfl | ⟨a, xs, rfl, h⟩
  · exact .inl h
  · exact .inr ⟨fun z e => (nomatch e), _, .base (.int i), kit_ty (by decide +kernel)⟩
  · exact .inr ⟨fun z e => (nomatch e), _, .base (.bl b), kit_ty (by decide +kernel)⟩
  · exact .inr ⟨fun z e => (nomatch e), _, .base .non, kit_ty (by decide +kernel)⟩
  · exact .inr ⟨fun z e => (nomatch e), _, ty_tup h, kit_ty (by decide +kernel)⟩
theorem Elt.kindI {K : PySem.W.Frag} {H : Hp} {v : V} (h : Elt K H v) : KindI K H v := by
  rcases h with ⟨z, rfl, _⟩ | ⟨i, rfl⟩ | ⟨b, rfl⟩ | rfl | ⟨a, xs, rfl, h⟩
  · exact .inr (.inr ⟨fun i e => (nomatch e), _, .base (.str z), kit_ty (by decide +kernel)⟩)
  · exact .inl ⟨i, rfl⟩
  · exact .inr (.inl ⟨b, rfl⟩)
  · exact .inr (.inr ⟨fun i e => (nomatch e), _, .base .non, kit_ty (by decide +kernel)⟩)
  · exact .inr (.inr ⟨fun i e => (nomatch e), _, ty_tup h, kit_ty (by decide +kernel)⟩)
def factKinds : List Str := ["fact", "not"]
def sureKinds : List Str := ["yes", "no"]
def zeroV : V → Bool
  | .int i => decide (i = 0)
  | _ => false
def fewV : V → Bool
  | .int i => decide (2 ≤ i) && decide (i ≤ 4)
  | _ => false
/-- whether a text and a value are a node -/
def nodeAB (k : Str) (b : V) : Bool :=
  if factKinds.contains k then factV b
  else if sureKinds.contains k then zeroV b
  else nodeKinds.contains k && fewV b
def pairNd (a b : V) : Option (Str × V) := match a with
  | .str k => if nodeAB k b = true then some (k, b) else none
  | _ => none
/-- the tuples stay, lists stay lists, dicts stay -/
structure Ku (H H' : Hp) : Prop where
  tk : Tk H H'
  ls : ∀ a xs, H a = some (.lst xs) → ∃ ys, H' a = some (.lst ys)
  dk : ∀ a kvs, H a = some (.dK kvs) → H' a = some (.dK kvs)
theorem ku_same {H H' : Hp} (s : Same H H') : Ku H H' := ⟨stk s, fun a xs e => ⟨xs, s _ _ e⟩, fun a kvs e => s _ _ e⟩
theorem Ku.trans {H H1 H2 : Hp} (a : Ku H H1) (b : Ku H1 H2) : Ku H H2 := ⟨a.tk.trans b.tk, fun p xs e => (a.ls p xs e).elim fun ys e => b.ls p ys e, fun p kvs e => b.dk _ _ (a.dk _ _ e)⟩
theorem Gr.ku {d : Addr} {H H' : Hp} (g : Gr d H H') (D : D3 H d) : Ku H H' := by
  refine ⟨g.tk D, fun a xs e => ?_, fun a kvs e => ?_⟩
  · by_cases z : a = d
    · obtain ⟨x, b, c, e'⟩ := g.dice
      exact ⟨_, by rw [z]; exact e'⟩
    · exact ⟨xs, g.keep a _ z e⟩
  · obtain ⟨x, b, c, e'⟩ := D
    exact g.keep a _ (fun z => by rw [z, e'] at e; cases e) e
theorem Ku.put {H : Hp} {l : Addr} {xs ys : List V} (e : H l = some (.lst xs)) : Ku H (upd H l (.lst ys)) := by
  refine ⟨Tk.put e, fun a zs h => ?_, fun a kvs h => ?_⟩
  · by_cases z : a = l
    · exact ⟨ys, by rw [z]; exact upd_same⟩
    · exact ⟨zs, by rw [upd_ne z]; exact h⟩
  · rw [upd_ne (fun z => by rw [z, e] at h; cases h)]
    exact h
/-- a value that is no tuple -/
def NoT (H : Hp) (v : V) : Prop := (∃ z, v = .str z) ∨ (∃ i, v = .int i) ∨ (∃ b, v = .bl b) ∨ v = .non ∨ (∃ a xs, v = .ref a ∧ H a = some (.lst xs)) ∨ ∃ a kvs, v = .ref a ∧ H a = some (.dK kvs)
theorem NoT.ku {H H' : Hp} {v : V} (h : NoT H v) (k : Ku H H') : NoT H' v := by
  rcases h with h | h | h | h | ⟨a, xs, e, h⟩ | ⟨a, kvs, e, h⟩
  · exact .inl h
  · exact .inr (.inl h)
  · exact .inr (.inr (.inl h))
  · exact .inr (.inr (.inr (.inl h)))
  · obtain ⟨ys, h⟩ := k.ls _ _ h
    exact .inr (.inr (.inr (.inr (.inl ⟨a, ys, e, h⟩))))
  · exact .inr (.inr (.inr (.inr (.inr ⟨a, kvs, e, k.dk _ _ h⟩))))
theorem NoT.ty {K : PySem.W.Frag} {H : Hp} {v : V} (h : NoT H v) : ∃ u, TyX K H v u ∧ PySem.W.kitOne K u (.type "tuple") = some false := by
  rcases h with ⟨z, rfl⟩ | ⟨i, rfl⟩ | ⟨b, rfl⟩ | rfl | ⟨a, xs, rfl, h⟩ | ⟨a, kvs, rfl, h⟩
  · exact ⟨_, .base (.str z), kit_ty (by decide +kernel)⟩
  · exact ⟨_, .base (.int i), kit_ty (by decide +kernel)⟩
  · exact ⟨_, .base (.bl b), kit_ty (by decide +kernel)⟩
  · exact ⟨_, .base .non, kit_ty (by decide +kernel)⟩
  · exact ⟨_, .base (.lst h), kit_ty (by decide +kernel)⟩
  · exact ⟨_, .base (.dK h), kit_ty (by decide +kernel)⟩
inductive NdV (K : PySem.W.Frag) (H : Hp) : V → Option (Str × V) → Prop
  | other {v : V} : NoT H v → NdV K H v none
  | tup {p : Addr} {xs : List V} : SqT K H p xs → xs.length ≠ 2 → xs.length < 1000000 → NdV K H (.ref p) none
  | pair {p : Addr} {a b : V} : SqT K H p [a, b] → Elt K H a → Elt K H b → NdV K H (.ref p) (pairNd a b)
theorem NdV.ku {K : PySem.W.Frag} {H H' : Hp} {v : V} {n : Option (Str × V)} (h : NdV K H v n) (k : Ku H H') : NdV K H' v n := by
  cases h with
  | other t => exact .other (t.ku k)
  | tup h n l => exact .tup (k.tk.seq h) n l
  | pair h a b => exact .pair (k.tk.seq h) (a.tk k.tk) (b.tk k.tk)
structure SignsAt (K : PySem.W.Frag) (w : World) (mg : Str → Option Value) (p : Addr) : Prop where
  g : mg "SIGNS" = some (.ref p)
  d : ∃ es n, KDict K w p es n ∧ ∀ z, ∃ r, PySem.W.nsIn K p z = some r ∧ r.isSome = nodeKinds.contains z
theorem signs_mk {K : PySem.W.Frag} {w : World} {mg : Str → Option Value} {p : Addr} {n : Nat} {h1 h2 h3 h4 : Int} {t1 t2 t3 t4 : Tok} {v1 v2 v3 v4 : Value} (g : mg "SIGNS" = some (.ref p))
    (l : K.lookup p = some ⟨.type "dict", none, .dict #[⟨h1, .str "all" t1, v1⟩, ⟨h2, .str "mine" t2, v2⟩, ⟨h3, .str "some" t3, v3⟩, ⟨h4, .str "yours" t4, v4⟩] n, #[]⟩)
    (hh : PySem.W.KeysLit w.params [⟨h1, .str "all" t1, v1⟩, ⟨h2, .str "mine" t2, v2⟩, ⟨h3, .str "some" t3, v3⟩, ⟨h4, .str "yours" t4, v4⟩]) (low : (p == sysModules) = false) : SignsAt K w mg p := by
  refine ⟨g, _, n, ⟨l, hh, low⟩, fun z => ?_⟩
  have c : nodeKinds.contains z = (("all" : Str) == z || (("some" : Str) == z || (("mine" : Str) == z || (("yours" : Str) == z || false)))) := (inV_strs z nodeKinds).symm
  rw [c]
  unfold PySem.W.nsIn
  rw [l]
  show ∃ r, (match List.find? (fun x => x.key.isStr z) [(⟨h1, .str "all" t1, v1⟩ : DictEntry), ⟨h2, .str "mine" t2, v2⟩, ⟨h3, .str "some" t3, v3⟩, ⟨h4, .str "yours" t4, v4⟩] with
          | some e => some (some e.val)
          | none => if (List.any [(⟨h1, .str "all" t1, v1⟩ : DictEntry), ⟨h2, .str "mine" t2, v2⟩, ⟨h3, .str "some" t3, v3⟩, ⟨h4, .str "yours" t4, v4⟩] fun x => x.refKey) = true then none else some none) = some r ∧ _
  have i (x : Str) (t : Tok) : (Value.str x t).isStr z = (x == z) := rfl
  cases e1 : (("all" : Str) == z) with
  | true => exact ⟨some v1, by simp only [List.find?_cons, i, e1], rfl⟩
  | false =>
    cases e2 : (("mine" : Str) == z) with
    | true => exact ⟨some v2, by simp only [List.find?_cons, i, e1, e2], by simp⟩
    | false =>
      cases e3 : (("some" : Str) == z) with
      | true => exact ⟨some v3, by simp only [List.find?_cons, i, e1, e2, e3], by simp⟩
      | false =>
        cases e4 : (("yours" : Str) == z) with
        | true => exact ⟨some v4, by simp only [List.find?_cons, i, e1, e2, e3, e4], by simp⟩
        | false => exact ⟨none, by simp only [List.find?_cons, i, e1, e2, e3, e4, List.find?_nil]; rfl, by simp⟩
section
variable {P : Program} {w : World} {K : PySem.W.Frag} {mg : Str → Option Value} {base : Heap}
def rInKd (p : Addr) : R2 := fun x y H Q => ∃ z : Str, x = .str z ∧ y = .ref p ∧ Q (.bl (nodeKinds.contains z)) H
theorem inKd {X : Cx} {p : Addr} (S : SignsAt K w mg p) (h : X.K = K) (hw : X.w = w) : OpR X (compareOp .In) (rInKd p) := by
  subst h hw
  obtain ⟨es, n, D, hz⟩ := S.d
  intro pins s σ H x y v u Q I rx ry ⟨z, e1, e2, q⟩
  obtain ⟨r, hr, hs⟩ := hz z
  exact op_in_kd D pins s σ H x y v u Q I rx ry ⟨z, r, e1, e2, hr, by rw [hs]; exact q⟩
def spIsNode (K : PySem.W.Frag) : Sp := fun vs H Q _ => ∃ v nd, vs = [v] ∧ NdV K H v nd ∧ ∀ H', Same H H' → Q (.bl nd.isSome) H'
theorem neSelf {A B : Prop} {v : V} (h : B) : if (!decide (v = v)) = true then A else B := by
  rw [decide_eq_true rfl]
  exact iteF h
theorem kitTT {K : PySem.W.Frag} : PySem.W.kitOne K (.type "tuple") (.type "tuple") = some true := kit_ty (by decide +kernel)
theorem intZ {i : Int} (h : i = 0) : intV (.int i) = true := by
  subst h
  decide +kernel
theorem intS {i : Int} (h : 2 ≤ i ∧ i ≤ 4) : intV (.int i) = true := by
  show decide _ = true
  rw [decide_eq_true_iff, show (10 : Int) ^ (60 : Int).toNat = 10 ^ 60 from rfl]
  split <;> omega
theorem elt_str {K : PySem.W.Frag} {H : Hp} {v : V} (h : Elt K H v) : (∃ z, v = .str z) ∨ ((∀ z, v ≠ .str z) ∧ ∃ t, TyX K H v t ∧ PySem.W.kitOne K t (.type "str") = some false) :=
  h.kind.imp (fun ⟨z, e, _⟩ => ⟨z, e⟩) id
theorem ok_is_node {fF fI p f : Addr} {fdF fdI fd : FuncData} (F : Fun K "is_node" "is_node" s_is_node f fd) (T : Txt mg) (S : SignsAt K w mg p) (c2 : ∃ t, mg "LEAST_PARTS" = some (.int 2 t)) (c4 : ∃ t, mg "MOST_PARTS" = some (.int 4 t))
    (C_is_fact : Cal P w K mg base 1 "is_fact" fF fdF ["value"] (spFact K)) (C_is_integer : Cal P w K mg base 1 "is_integer" fI fdI ["value"] (spInteger K)) : FnOk P w K mg base CX0 2 f fd ["value"] (spIsNode K) := by
  obtain ⟨t2, e2⟩ := c2
  obtain ⟨t4, e4⟩ := c4
  refine F.ok sc_is_node (fun vs H Q E h => ?_) (fun cdv A outer s H vs Q E hr h => ?_)
  · obtain ⟨v, nd, rfl, _⟩ := h
    rfl
  · obtain ⟨v, nd, rfl, hv, q⟩ := h
    refine ⟨_, (pss_cons (ps_if (PW.pt (pw_or (pt_not (pt_val (pe_callB (isiQ (K := K) rfl) (by rfl) T.isinstance_ (by decide +kernel) (pa_cons (pv 0) (pa_cons (pe_bltn (v := .ty "tuple") (by rfl) T.tuple_ (by decide +kernel) rfl) pa_nil))))) (pw_or1 (pt_cmpR op_ne (pe_callB (lenQ (K := K) rfl) (by rfl) T.len_ (by decide +kernel) (pa_cons (pv 0) pa_nil)) pe_int (nomark _)))))
  (pss_one (ps_ret pe_bl))
  pss_nil)
  (pss_cons (ps_asg (pv 0) (pg_tup (by rfl) (pgs_cons (pg_name (i := 1) sc_is_node.nd rfl (.inl rfl)) (pgs_cons (pg_name (i := 2) sc_is_node.nd rfl (.inl rfl)) pgs_nil))))
  (pss_cons (ps_if (pt_not (pt_val (pe_callB (isiQ (K := K) rfl) (by rfl) T.isinstance_ (by decide +kernel) (pa_cons (pv 1) (pa_cons (pe_bltn (v := .ty "str") (by rfl) T.str_ (by decide +kernel) rfl) pa_nil)))))
  (pss_one (ps_ret pe_bl))
  pss_nil)
  (pss_cons (ps_if (pt_cmpR (inQ (K := K) rfl) (pv 1) (pe_tup (pa_cons pe_str (pa_cons pe_str pa_nil))) (by rfl))
  (pss_one (ps_ret (pe_call C_is_fact.G hr (by rfl) C_is_fact.m C_is_fact.k C_is_fact.b .nil pass0 (pa_cons (pv 2) pa_nil))))
  pss_nil)
  (pss_cons (ps_if (pt_cmpR (inQ (K := K) rfl) (pv 1) (pe_tup (pa_cons pe_str (pa_cons pe_str pa_nil))) (by rfl))
  (pss_one (ps_ret (pe_and (pe_call C_is_integer.G hr (by rfl) C_is_integer.m C_is_integer.k C_is_integer.b .nil pass0 (pa_cons (pv 2) pa_nil)) (pe_one (pe_cmpR op_eq (pv 2) pe_int (nomark _))))))
  pss_nil)
  (pss_one (ps_ret (pe_and (pe_cmpR (inKd S rfl rfl) (pv 1) (pe_glob (v := .ref p) rfl S.g rfl) (by rfl)) (pe_and (pe_call C_is_integer.G hr (by rfl) C_is_integer.m C_is_integer.k C_is_integer.b .nil pass0 (pa_cons (pv 2) pa_nil)) (pe_one (pe_chain op_le op_le (pe_glob (v := .int 2) rfl e2 ⟨_, rfl⟩) (pv 2) (pe_glob (v := .int 4) rfl e4 ⟨_, rfl⟩)))))))))))), ?_⟩
    cases hv with
    | other hno =>
      obtain ⟨u, ty, hk⟩ := hno.ty (K := K)
      exact ⟨_, rfl, v, .ty "tuple", _, .type "tuple", false, rfl, .ty _, ty, hk, _, rfl, iteT (q _ (Same.refl H))⟩
    | tup hs hn hl =>
      rename_i p0 xs
      refine ⟨_, rfl, .ref p0, .ty "tuple", _, .type "tuple", true, rfl, .ty _, ty_tup hs, kitTT, _, rfl, iteF ⟨_, rfl, .inl ⟨p0, xs, rfl, .inr hs, ?_⟩⟩⟩
      refine ⟨rfl, _, rfl, ?_⟩
      rw [decide_eq_false (fun e => hn (by injection e with e; omega))]
      exact iteT (q _ (Same.refl H))
    | pair hs ha hb =>
      rename_i p0 a b
      refine ⟨_, rfl, .ref p0, .ty "tuple", _, .type "tuple", true, rfl, .ty _, ty_tup hs, kitTT, _, rfl, iteF ⟨_, rfl, .inl ⟨p0, _, rfl, .inr hs, ?_⟩⟩⟩
      refine ⟨rfl, _, rfl, neSelf ?_⟩
      refine ⟨_, rfl, p0, _, rfl, hs, rfl, _, _, rfl, _, _, rfl, rfl, ?_⟩
      rcases elt_str ha with ⟨k, rfl⟩ | ⟨hn, t, ty, ek⟩
      · refine ⟨_, rfl, .str k, .ty "str", .type "str", .type "str", true, rfl, .ty _, .base (.str k), kitStr, _, rfl, iteF ?_⟩
        refine ⟨_, rfl, lenOk 2, fun t1 n1 => ⟨t1, factKinds.map V.str, rfl, .inr (SqT.of upd_same), rfl, flat_strs _, _, rfl, ?_⟩⟩
        have s1 : Same H (upd H t1 (.tup (factKinds.map V.str))) := same_new n1
        have q : ∀ H', Same H H' → Q (.bl (nodeAB k b)) H' := fun H' s => by
          have e : (pairNd (.str k) b).isSome = nodeAB k b := by
            show (if nodeAB k b = true then some (k, b) else none).isSome = nodeAB k b
            cases nodeAB k b <;> rfl
          rw [← e]
          exact q H' s
        refine ite2 (fun h1 => ?_) (fun h1 => ?_)
        · have h1 : factKinds.contains k = true := (inV_strs k factKinds).symm.trans h1
          refine ⟨_, rfl, b, rfl, (hb.tk (stk s1)).kind, fun H' s2 => ?_⟩
          have q' := q H' (s1.trans s2)
          unfold nodeAB at q'
          rw [if_pos h1] at q'
          exact q'
        have h1 : ¬ factKinds.contains k = true := fun z => h1 ((inV_strs k factKinds).trans z)
        refine ⟨_, rfl, lenOk 2, fun t3 n3 => ⟨t3, sureKinds.map V.str, rfl, .inr (SqT.of upd_same), rfl, flat_strs _, _, rfl, ?_⟩⟩
        have s3 : Same H _ := s1.trans (same_new (o := .tup (sureKinds.map V.str)) n3)
        refine ite2 (fun h2 => ?_) (fun h2 => ?_)
        · have h2 : sureKinds.contains k = true := (inV_strs k sureKinds).symm.trans h2
          have q' := q _ s3
          unfold nodeAB at q'
          rw [if_neg h1, if_pos h2] at q'
          refine ⟨_, rfl, b, rfl, (hb.tk (stk s3)).kindI, _, rfl, ?_⟩
          cases ei : intV b with
          | false =>
            refine iteF ?_
            have e : zeroV b = false := by
              cases b with
              | int i => exact decide_eq_false fun z => by rw [intZ z] at ei; cases ei
              | _ => rfl
            rw [e] at q'
            exact q'
          | true =>
            refine iteT ?_
            cases b with
            | int i =>
              refine ⟨_, rfl, rfl, ?_⟩
              have e : decide ((V.int i) = V.int 0) = decide (i = 0) := decide_eq_decide.mpr ⟨fun z => by injection z, fun z => by rw [z]⟩
              rw [e]
              exact q'
            | _ => cases ei
        have h2 : ¬ sureKinds.contains k = true := fun z => h2 ((inV_strs k sureKinds).trans z)
        have q' := q _ s3
        unfold nodeAB at q'
        rw [if_neg h1, if_neg h2] at q'
        refine ⟨_, rfl, k, rfl, rfl, _, rfl, ?_⟩
        cases ek : nodeKinds.contains k with
        | false =>
          rw [ek] at q'
          exact iteF q'
        | true =>
          rw [ek, Bool.true_and] at q'
          refine iteT ?_
          refine ⟨_, rfl, b, rfl, (hb.tk (stk s3)).kindI, _, rfl, ?_⟩
          cases ei : intV b with
          | false =>
            refine iteF ?_
            have e : fewV b = false := by
              cases b with
              | int i =>
                show (decide (2 ≤ i) && decide (i ≤ 4)) = false
                rw [Bool.and_eq_false_iff]
                by_cases h : 2 ≤ i
                · by_cases h' : i ≤ 4
                  · rw [intS ⟨h, h'⟩] at ei
                    cases ei
                  · exact .inr (decide_eq_false h')
                · exact .inl (decide_eq_false h)
              | _ => rfl
            rw [e] at q'
            exact q'
          | true =>
            refine iteT ?_
            cases b with
            | int i =>
              have q' : Q (.bl (decide (2 ≤ i) && decide (i ≤ 4))) _ := q'
              refine ⟨_, rfl, 2, i, rfl, rfl, _, rfl, ?_⟩
              cases e2 : decide ((2 : Int) ≤ i) with
              | true =>
                refine iteT ⟨i, 4, rfl, rfl, ?_⟩
                rw [e2, Bool.true_and] at q'
                exact q'
              | false =>
                rw [e2] at q'
                exact iteF q'
            | _ => cases ei
      · refine ⟨_, rfl, a, .ty "str", t, .type "str", false, rfl, .ty _, ty, ek, _, rfl, iteT ?_⟩
        have e : pairNd a b = none := by
          unfold pairNd
          split
          · exact absurd rfl (hn _)
          · rfl
        have q' := q _ (Same.refl H)
        rw [e] at q'
        exact q'
end
end Eh
set_option Elab.async false
set_option linter.all false
set_option maxRecDepth 100000
namespace Eh
open PySem PySem.Spec PyProof.Rows L2
def intOf : V → Int
  | .int i => i
  | _ => 0
/-- how many parts a node has -/
def partsN (n : Str × V) : Nat := if nodeKinds.contains n.1 = true then (intOf n.2).toNat else 0
/-- whether nodes are those of so many promises -/
def dueGo : Nat → List (Str × V) → Bool
  | l, [] => decide (l = 0)
  | 0, _ :: _ => false
  | l + 1, n :: ns => dueGo (l + partsN n) ns
def GoodN (ns : List (Str × V)) : Prop := ∀ n ∈ ns, nodeAB n.1 n.2 = true
theorem node_not_fact {k : Str} (h : nodeKinds.contains k = true) : factKinds.contains k = false ∧ sureKinds.contains k = false := by
  rcases node_cases h with rfl | rfl | rfl | rfl <;> exact ⟨by decide +kernel, by decide +kernel⟩
theorem good_int {k : Str} {t : V} (h : nodeAB k t = true) (hk : nodeKinds.contains k = true) : ∃ i : Int, t = .int i ∧ 2 ≤ i ∧ i ≤ 4 := by
  unfold nodeAB at h
  rw [(node_not_fact hk).1, (node_not_fact hk).2, hk] at h
  have h : fewV t = true := by simpa using h
  cases t with
  | int i =>
    have h : (decide (2 ≤ i) && decide (i ≤ 4)) = true := h
    rw [Bool.and_eq_true] at h
    exact ⟨i, rfl, of_decide_eq_true h.1, of_decide_eq_true h.2⟩
  | _ => cases h
theorem sum_set {pre : List Int} {x : Int} : (pre ++ [x]).sum = pre.sum + x := by
  rw [List.sum_append]
  simp
theorem ixN_last (n : Nat) : ixN (n + 1) (-1) = some n := by
  unfold ixN
  rw [if_neg (by omega), if_pos (by omega)]
  congr 1
  omega
theorem drop_at {α : Type} {l : List α} {i : Nat} {x : α} (h : l[i]? = some x) : l.drop i = x :: l.drop (i + 1) := by
  obtain ⟨hl, e⟩ := List.getElem?_eq_some_iff.mp h
  rw [List.drop_eq_getElem_cons hl, e]
/-- a stack of counts -/
def Stk (st : List Int) : Prop := ∀ x ∈ st, 0 ≤ x
theorem Stk.sum {st : List Int} (h : Stk st) : 0 ≤ st.sum := by
  induction st with
  | nil => exact Int.le_refl 0
  | cons a r ih =>
    rw [List.sum_cons]
    have := h a List.mem_cons_self
    have := ih fun x hx => h x (List.mem_cons_of_mem _ hx)
    omega
theorem map_last (pre : List Int) (x : Int) : (pre ++ [x]).map V.int = pre.map V.int ++ [V.int x] := by
  rw [List.map_append]
  rfl
theorem set_last (pre : List Int) (x y : Int) : (pre.map V.int ++ [V.int x]).set pre.length (V.int y) = (pre ++ [y]).map V.int := by
  rw [map_last, List.set_append_right _ _ (by rw [List.length_map]; exact Nat.le_refl _), List.length_map, Nat.sub_self]
  rfl
theorem due_step {s : Int} {n : Str × V} {ns : List (Str × V)} (h : 1 ≤ s) : dueGo s.toNat (n :: ns) = dueGo (s - 1 + partsN n).toNat ns := by
  have e : s.toNat = (s - 1).toNat + 1 := by omega
  rw [e, dueGo]
  congr 1
  omega
theorem last_or {st : List Int} : st = [] ∨ ∃ pre x, st = pre ++ [x] := by
  rcases List.eq_nil_or_concat st with h | ⟨pre, x, h⟩
  · exact .inl h
  · exact .inr ⟨pre, x, by rw [h, List.concat_eq_append]⟩
section
variable {P : Program} {w : World} {K : PySem.W.Frag} {mg : Str → Option Value} {base : Heap}
def spDepth (K : PySem.W.Frag) : Sp := fun vs H Q _ => ∃ p xs ns, vs = [.ref p] ∧ SqT K H p xs ∧ NdsAt K H xs ns ∧ GoodN ns ∧ xs.length < 1000 ∧
  ∀ (dd : Int) H', Same H H' → (1 ≤ dd ↔ dueGo 1 ns = true) → dd ≤ 1 + countIn nodeKinds ns → Q (.int dd) H'
theorem ok_depth_of {p0 f : Addr} {fd : FuncData} (F : Fun K "depth_of" "depth_of" s_depth_of f fd) (T : Txt mg) (S : SignsAt K w mg p0) : FnOk P w K mg base CX0 1 f fd ["nodes"] (spDepth K) := by
  refine F.ok sc_depth_of (fun vs H Q E h => ?_) (fun cdv A outer s H vs Q E hr h => ?_)
  · obtain ⟨p, xs, ns, rfl, _⟩ := h
    rfl
  · obtain ⟨p, xs, ns, rfl, hS, hN, hg, hlen, q⟩ := h
    refine ⟨_, (pss_cons (ps_set (i := 1) sc_depth_of.nd rfl (.inl rfl) (pe_lst (pa_cons pe_int pa_nil)))
  (pss_cons (ps_set (i := 2) sc_depth_of.nd rfl (.inl rfl) pe_int)
  (pss_cons (ps_for PassesOwn.never (by rfl) (pi_tup (pv 0)) (pg_tup (by rfl) (pgs_cons (pg_name (i := 3) sc_depth_of.nd rfl (.inl rfl)) (pgs_cons (pg_name (i := 4) sc_depth_of.nd rfl (.inl rfl)) pgs_nil)))
  (pss_cons (ps_while PassesOwn.never (PW.pt (pw_and (pt_truth (pv 1) (by intro _; rfl)) (pw_and1 (pt_cmpR op_eq (pe_ix (ixL (K := K) rfl) (pv 1) (pe_un un_neg pe_int) (fun _ _ => rfl)) pe_int (nomark _)))))
  (pss_one (ps_expr (bm0K (K := K) rfl (pe_bm0 PySem.F.plainAttrs_list PySem.F.slot_list_pop PySem.F.type_list_pop mt_pop (pv 1))))))
  (pss_cons (ps_if (pt_not (pt_truth (pv 1) (by intro _; rfl)))
  (pss_one (ps_ret pe_int))
  pss_nil)
  (pss_cons (ps_asg (pe_op op_sub (pe_ix (ixL (K := K) rfl) (pv 1) (pe_un un_neg pe_int) (fun _ _ => rfl)) pe_int) (pg_sub (pv 1) (pe_un un_neg pe_int) set_list))
  (pss_cons (ps_set (i := 2) sc_depth_of.nd rfl (.inl rfl) (pe_callB (call_max2 (by rfl)) (by rfl) T.max_ (by decide +kernel) (pa_cons (pv 2) (pa_cons (pe_callB (lenQ (K := K) rfl) (by rfl) T.len_ (by decide +kernel) (pa_cons (pv 1) pa_nil)) pa_nil))))
  (pss_one (ps_if (pt_cmpR (inKd S rfl rfl) (pv 3) (pe_glob (v := .ref p0) rfl S.g rfl) (by rfl))
  (pss_one (ps_expr (bmK (K := K) rfl (pe_bm PySem.F.plainAttrs_list PySem.F.slot_list_append PySem.F.type_list_append mt_append (pv 1) (pa_cons (pv 4) pa_nil)))))
  pss_nil)))))))
  (pss_one (ps_ret (pe_ifExp (pt_cmpR op_eq (pe_callB (cr_sum (by rfl)) (by rfl) T.sum_ (by decide +kernel) (pa_cons (pv 1) pa_nil)) pe_int (nomark _)) (pv 2) pe_int)))))), ?_⟩
    refine ⟨lenOk 1, fun l nl => ?_⟩
    have s1 : Same H (upd H l (.lst [.int 1])) := same_new nl
    have hxn := hN.length
    refine ⟨_, rfl, p, rfl, ⟨xs, (stk s1).seq hS⟩, for_tup (K := K) (a := p) (xs := xs) (fun i σ H2 => ∃ (st : List Int) (dp : Int) (x3 x4 : Option V), σ = [some (.ref p), some (.ref l), some (.int dp), x3, x4] ∧ Same H H2 ∧ H2 l = some (.lst (st.map V.int)) ∧ Stk st ∧
      dueGo 1 ns = dueGo st.sum.toNat (ns.drop i) ∧ (st.length : Int) ≤ 1 + countIn nodeKinds (ns.take i) ∧ dp ≤ 1 + countIn nodeKinds (ns.take i) ∧ (1 ≤ dp ∨ 0 < st.sum) ∧ st.length ≤ i + 1 ∧ (i = 0 → dp = 0)) ?_ (fun i σ H2 _ h => ?_) ?_ ?_⟩
    · refine ⟨[1], 0, none, none, rfl, s1, upd_same, ?_, rfl, ?_, ?_, .inr (by decide), Nat.le_refl _, fun _ => rfl⟩
      · intro x hx
        rw [List.mem_singleton.mp hx]
        decide
      · show (1 : Int) ≤ 1 + _
        omega
      · omega
    · obtain ⟨st, dp, x3, x4, _, s2, _⟩ := h
      exact (stk s2).seq hS
    · rintro i x σ H2 hi ⟨st, dp, x3, x4, rfl, s2, e2, hst, hdue, hsl, hdp, hor, hsi, _⟩
      obtain ⟨a, k, t, rfl, hk, ha⟩ := hN.get hi
      have hgn := hg _ (List.mem_of_getElem? hk)
      have hi9 : i < 1000 := by
        have := (List.getElem?_eq_some_iff.mp hi).1
        omega
      refine ⟨a, _, rfl, (stk s2).seq ha, rfl, _, _, rfl, _, _, rfl, rfl, ?_⟩
      refine ⟨fun m σ H3 => ∃ st' : List Int, m = st'.length ∧ σ = [some (.ref p), some (.ref l), some (.int dp), some (.str k), some t] ∧ Same H H3 ∧ H3 l = some (.lst (st'.map V.int)) ∧ Stk st' ∧ st'.sum = st.sum ∧ st'.length ≤ st.length, ⟨_, st, rfl, rfl, s2, e2, hst, rfl, Nat.le_refl _⟩, ?_⟩
      rintro m σ H3 ⟨st', rfl, rfl, s3, e3, hst', hsum, hl'⟩
      have nH : H l = none := nl
      have keep : ∀ {H' : Hp} {o : HO}, Same H H' → Same H (upd H' l o) := fun {H' o} s b u eb => by
        rw [upd_ne (ne_of_none eb nH)]
        exact s b u eb
      have dr := drop_at hk
      rcases last_or (st := st') with rfl | ⟨pre, x, rfl⟩
      · -- nothing is missing any more
        refine ⟨_, rfl, false, .inl ⟨[], SqL.of e3, rfl⟩, ?_⟩
        refine iteF ?_
        refine ⟨_, rfl, false, .inl ⟨[], SqL.of e3, rfl⟩, ?_⟩
        refine iteT ?_
        refine q 0 H3 s3 ⟨fun z => by omega, fun z => ?_⟩ (by omega)
        rw [hdue, ← hsum, dr] at z
        cases z
      · rw [map_last] at e3
        have hx0 : 0 ≤ x := hst' x (List.mem_append_right _ List.mem_cons_self)
        have hpre : Stk pre := fun y hy => hst' y (List.mem_append_left _ hy)
        have hsum : pre.sum + x = st.sum := by rw [← hsum, sum_set]
        have hl' : pre.length + 1 ≤ st.length := by rw [List.length_append] at hl'; exact hl'
        refine ⟨_, rfl, true, .inl ⟨_, SqL.of e3, by simp⟩, iteT ⟨_, rfl, _, rfl, l, _, (-1), .int x, rfl, rfl, SqL.of e3, atI_last, rfl, _, rfl, ?_⟩⟩
        by_cases hx : V.int x = V.int 0
        · rw [decide_eq_true hx]
          have hx : x = 0 := by injection hx
          refine iteT ⟨_, fun σ' H' h => h, ?_⟩
          refine ⟨_, rfl, .inl ⟨rfl, _, SqL.of e3⟩, l, _, .int x, rfl, rfl, e3, ?_, ?_⟩
          · rw [List.length_append, List.length_singleton, Nat.add_sub_cancel]
            exact List.getElem?_concat_length
          · rw [List.dropLast_concat]
            exact ⟨pre.length, by rw [List.length_append]; exact Nat.lt_succ_self _, pre, rfl, rfl, keep s3, upd_same, hpre, by omega, by omega⟩
        · rw [decide_eq_false hx]
          have hx : x ≠ 0 := fun e => hx (by rw [e])
          refine iteF ?_
          refine ⟨_, rfl, true, .inl ⟨_, SqL.of e3, by simp⟩, iteF ?_⟩
          refine ⟨_, rfl, _, rfl, l, _, (-1), .int x, rfl, rfl, SqL.of e3, atI_last, _, _, rfl, rfl, ?_⟩
          refine ⟨_, rfl, _, rfl, l, _, (-1), pre.length, rfl, rfl, e3, ?_, ?_⟩
          · rw [List.length_append, List.length_map]
            exact ixN_last _
          rw [set_last]
          have s4 : Same H (upd H3 l (.lst ((pre ++ [x - 1]).map V.int))) := keep s3
          have hst4 : Stk (pre ++ [x - 1]) := fun y hy => by
            rcases List.mem_append.mp hy with h | h
            · exact hpre y h
            · rw [List.mem_singleton.mp h]
              omega
          have hps := hpre.sum
          refine ⟨_, rfl, _, rfl, .inl ⟨l, _, rfl, .inl (SqL.of upd_same), _, _, rfl, ?_⟩⟩
          obtain ⟨d2, ed, hd1, hd2⟩ : ∃ d2 : Int, (if (((pre ++ [x - 1]).map V.int).length : Int) > dp then (((pre ++ [x - 1]).map V.int).length : Int) else dp) = d2 ∧ 1 ≤ d2 ∧ d2 ≤ 1 + countIn nodeKinds (ns.take i) := by
            refine ⟨_, rfl, ?_⟩
            rw [List.length_map, List.length_append, List.length_singleton]
            split <;> omega
          rw [ed]
          have ct : countIn nodeKinds (ns.take (i + 1)) = countIn nodeKinds (ns.take i) + countIn nodeKinds [(k, t)] := by rw [take_succ' hk, countIn_app]
          refine ⟨_, rfl, k, rfl, rfl, _, rfl, ?_⟩
          cases ek : nodeKinds.contains k with
          | true =>
            obtain ⟨ti, rfl, ht2, ht4⟩ := good_int hgn ek
            rw [countIn_one, if_pos ek] at ct
            refine iteT ⟨_, rfl, .inl ⟨rfl, _, SqL.of upd_same⟩, _, rfl, l, _, .int ti, rfl, rfl, upd_same, small (by rw [List.length_map, List.length_append, List.length_singleton]; omega), ?_⟩
            rw [← map_last]
            refine ⟨(pre ++ [x - 1]) ++ [ti], d2, _, _, rfl, keep s4, upd_same, ?_, ?_, ?_, ?_, ?_, ?_, fun e => by omega⟩
            · intro y hy
              rcases List.mem_append.mp hy with h | h
              · exact hst4 y h
              · rw [List.mem_singleton.mp h]
                omega
            · rw [hdue, dr, ← hsum, due_step (by omega), sum_set, sum_set]
              congr 2
              unfold partsN
              rw [if_pos ek]
              show pre.sum + x - 1 + ((ti.toNat : Nat) : Int) = _
              omega
            · rw [List.length_append, List.length_append, List.length_singleton, List.length_singleton]
              omega
            · omega
            · exact .inl hd1
            · rw [List.length_append, List.length_append, List.length_singleton, List.length_singleton]
              omega
          | false =>
            rw [countIn_one, if_neg (by rw [ek]; exact Bool.false_ne_true)] at ct
            refine iteF ⟨pre ++ [x - 1], d2, _, _, rfl, s4, upd_same, hst4, ?_, ?_, ?_, ?_, ?_, fun e => by omega⟩
            · rw [hdue, dr, ← hsum, due_step (by omega), sum_set]
              congr 2
              unfold partsN
              rw [if_neg (by rw [ek]; exact Bool.false_ne_true)]
              show pre.sum + x - 1 + 0 = _
              omega
            · rw [List.length_append, List.length_singleton]
              omega
            · omega
            · exact .inl hd1
            · rw [List.length_append, List.length_singleton]
              omega
    · rintro σ H2 ⟨st, dp, x3, x4, rfl, s2, e2, hst, hdue, hsl, hdp, hor, hsi, h0⟩
      refine ⟨_, rfl, l, st, rfl, SqL.of e2, rfl, _, rfl, ?_⟩
      rw [hxn, List.drop_length] at hdue
      rw [hxn, List.take_length] at hsl hdp
      have hs := hst.sum
      have hd : dueGo 1 ns = decide (st.sum.toNat = 0) := hdue
      refine ite2 (fun h => ?_) (fun h => ?_)
      · have h : V.int st.sum = V.int 0 := of_decide_eq_true h
        have h : st.sum = 0 := by injection h
        refine ⟨_, rfl, q dp H2 s2 ⟨fun _ => by rw [hd]; exact decide_eq_true (by omega), fun _ => by omega⟩ hdp⟩
      · have h : st.sum ≠ 0 := fun e => h (decide_eq_true (by rw [e]))
        exact q 0 H2 s2 ⟨fun z => by omega, fun z => by rw [hd] at z; have := of_decide_eq_true z; omega⟩ (by omega)
end
end Eh
set_option Elab.async false
set_option linter.all false
set_option maxRecDepth 100000
namespace Eh
open PySem PySem.Spec PyProof.Rows L2
/-- the facts of nodes -/
def factsN (ns : List (Str × V)) : List Str := ns.filterMap fun n => if factKinds.contains n.1 = true then (match n.2 with | .str z => some z | _ => none) else none
theorem good_fact {k : Str} {t : V} (h : nodeAB k t = true) (hk : factKinds.contains k = true) : ∃ z, t = .str z ∧ factS z = true := by
  unfold nodeAB at h
  rw [if_pos hk] at h
  cases t with
  | str z => exact ⟨z, rfl, h⟩
  | _ => cases h
theorem factsN_one {k : Str} {t : V} {z : Str} (hk : factKinds.contains k = true) (ht : t = .str z) : factsN [(k, t)] = [z] := by
  subst ht
  unfold factsN
  simp only [List.filterMap_cons, hk, if_true, List.filterMap_nil]
theorem factsN_none {k : Str} {t : V} (hk : factKinds.contains k = false) : factsN [(k, t)] = [] := by
  unfold factsN
  simp only [List.filterMap_cons, hk, Bool.false_eq_true, if_false, List.filterMap_nil]
theorem factsN_app (a b : List (Str × V)) : factsN (a ++ b) = factsN a ++ factsN b := by
  unfold factsN
  rw [List.filterMap_append]
theorem pgT {X : Cx} {K : PySem.W.Frag} {es : List Expr} {k : Nat} {pos : Pos} {t : TGs} {n : Nat} (h : X.K = K) (hc : X.calm = true) (hp : PGs X es t)
    (hn : (assignEach es X.env).length = n := by rfl) (hst : (assignEach es X.env).findIdx? (·.1) = none := by rfl) : PG X (.Tuple es k pos) (gTup K n t) := by
  subst h
  exact pg_tup hc hp hn hst
theorem mem_put (x z : Str) (ts : List Str) : x ∈ put z ts ↔ x = z ∨ x ∈ ts := by
  unfold put
  split
  · rename_i h
    exact ⟨.inr, fun e => e.elim (fun e => by rw [e]; exact h) id⟩
  · rw [List.mem_cons]
theorem nodup_put {z : Str} {ts : List Str} (h : ts.Nodup) : (put z ts).Nodup := by
  unfold put
  split
  · exact h
  · rename_i n
    exact List.nodup_cons.mpr ⟨n, h⟩
section
variable {P : Program} {w : World} {K : PySem.W.Frag} {mg : Str → Option Value} {base : Heap}
def spFacts (K : PySem.W.Frag) : Sp := fun vs H Q _ => ∃ p xs ns, vs = [.ref p] ∧ SqT K H p xs ∧ NdsAt K H xs ns ∧ GoodN ns ∧ xs.length < 60 ∧
  ∀ (ys : List Str) p' H', Same H H' → H p' = none → H' p' = some (.tup (ys.map V.str)) → ys.Nodup → sortedS ys = true → (∀ z, z ∈ ys ↔ z ∈ factsN ns) → Q (.ref p') H'
theorem ok_facts_of {f : Addr} {fd : FuncData} (F : Fun K "facts_of" "facts_of" s_facts_of f fd) (T : Txt mg) : FnOk P w K mg base CX0 1 f fd ["nodes"] (spFacts K) := by
  refine F.ok sc_facts_of (fun vs H Q E h => ?_) (fun cdv A outer s H vs Q E hr h => ?_)
  · obtain ⟨p, xs, ns, rfl, _⟩ := h
    rfl
  · obtain ⟨p, xs, ns, rfl, hS, hN, hg, hlen, q⟩ := h
    refine ⟨_, (pss_one (ps_ret (pe_callTy call_tuple_of (by rfl) T.tuple_ (by decide +kernel) (pa_cons (pe_callB (sortX (by rfl)) (by rfl) T.sorted_ (by decide +kernel) (pa_cons (pe_sc (own := [("kind", 1), ("told", 2)]) (g := gTup K 2 (gCons (gName 1) (gCons (gName 2) gNil))) (by rfl) sc_facts_of.nd (pi_tup (pv 0)) (blkOk_by (by kernel_rfl)) (fun _ _ _ _ _ => (pgT (K := K) rfl (by rfl) (pgs_cons (pg_name (i := 1) sc_facts_of.nd rfl (.inl rfl)) (pgs_cons (pg_name (i := 2) sc_facts_of.nd rfl (.inl rfl)) pgs_nil)))) (fun _ _ _ _ _ => (pts_one (pt_cmpR (inQ (K := K) rfl) (pv 1) (pe_tup (pa_cons pe_str (pa_cons pe_str pa_nil))) (by rfl)))) (fun _ _ _ _ _ => (pv 2))) pa_nil)) pa_nil)))), ?_⟩
    have hxn := hN.length
    refine ⟨_, rfl, p, rfl, ⟨xs, hS⟩, fun D nD => ?_⟩
    have s1 : Same H (upd H D (SetX w D [])) := same_new nD
    refine scTg (K := K) (a := p) (xs := xs) (fun j ts H2 => Same H H2 ∧ ts.Nodup ∧ ∀ z, z ∈ ts ↔ z ∈ factsN (ns.take j)) ⟨s1, List.nodup_nil, fun z => Iff.rfl⟩ (fun j ts H2 h => (stk h.1).seq hS) ?_ ?_
    · rintro j x ts H2 hx hl e ⟨s2, nd, hm⟩
      obtain ⟨a, k, t, rfl, hk, ha⟩ := hN.get hx
      have hgn := hg _ (List.mem_of_getElem? hk)
      have hj : j < 60 := by
        have := (List.getElem?_eq_some_iff.mp hx).1
        omega
      have et : factsN (ns.take (j + 1)) = factsN (ns.take j) ++ factsN [(k, t)] := by rw [take_succ' hk, factsN_app]
      have nDH : H D = none := nD
      refine ⟨a, _, rfl, (stk s2).seq ha, rfl, _, _, rfl, _, _, rfl, rfl, rfl, ?_⟩
      refine ⟨_, rfl, lenOk 2, fun t1 n1 => ⟨t1, factKinds.map V.str, rfl, .inr (SqT.of upd_same), rfl, flat_strs _, _, rfl, ?_⟩⟩
      have s3 : Same H (upd H2 t1 (.tup (factKinds.map V.str))) := s2.trans (same_new n1)
      have e3 := same_new (o := .tup (factKinds.map V.str)) n1 _ _ e
      cases ek : factKinds.contains k with
      | true =>
        obtain ⟨z, rfl, _⟩ := good_fact hgn ek
        rw [factsN_one ek rfl] at et
        refine iteT' ((inV_strs k factKinds).trans ek) ⟨_, rfl, ScK.mk hl (by omega) e3 ⟨fun b o eb => ?_, nodup_put nd, fun y => ?_⟩⟩
        · rw [upd_ne (ne_of_none eb nDH)]
          exact s3 b o eb
        · rw [mem_put, et, List.mem_append, List.mem_singleton, hm y, or_comm]
      | false =>
        rw [factsN_none ek, List.append_nil] at et
        exact iteF' ((inV_strs k factKinds).trans ek) ⟨ts, by omega, e3, s3, nd, fun y => by rw [et]; exact hm y⟩
    · rintro ts H2 hl e ⟨s2, nd, hm⟩
      refine ⟨D, ts, rfl, e, nd, by omega, fun ys p2 hp hs n2 => ?_⟩
      have s3 := s2.trans (same_new (o := .lst (ys.map V.str)) n2)
      refine ⟨p2, _, rfl, .inl ⟨SqL.of upd_same, fun p3 n3 => ?_⟩⟩
      rw [hxn, List.take_length] at hm
      exact q ys p3 _ (s3.trans (same_new n3)) (s3.free n3) upd_same (hp.nodup_iff.mpr nd) hs fun z => by rw [hp.mem_iff]; exact hm z
def spChoices (K : PySem.W.Frag) : Sp := fun vs H Q _ => ∃ p xs ns, vs = [.ref p] ∧ SqT K H p xs ∧ NdsAt K H xs ns ∧ xs.length < 1000 ∧ ∀ H', Same H H' → Q (.int (countIn choiceKinds ns)) H'
theorem ok_choices_of {f : Addr} {fd : FuncData} (F : Fun K "choices_of" "choices_of" s_choices_of f fd) (T : Txt mg) : FnOk P w K mg base CX0 1 f fd ["nodes"] (spChoices K) := by
  refine F.ok sc_choices_of (fun vs H Q E h => ?_) (fun cdv A outer s H vs Q E hr h => ?_)
  · obtain ⟨p, xs, ns, rfl, _⟩ := h
    rfl
  · obtain ⟨p, xs, ns, rfl, hS, hN, hlen, q⟩ := h
    refine ⟨_, (pss_one (ps_ret (pe_callB (lenQ (K := K) rfl) (by rfl) T.len_ (by decide +kernel) (pa_cons (pe_lc (own := [("kind", 1), ("_", 2)]) (g := gTup K 2 (gCons (gName 1) (gCons (gName 2) gNil))) (by rfl) sc_choices_of.nd (pi_tup (pv 0)) (blkOk_by (by kernel_rfl)) (fun _ _ _ _ _ => (pgT (K := K) rfl (by rfl) (pgs_cons (pg_name (i := 1) sc_choices_of.nd rfl (.inl rfl)) (pgs_cons (pg_name (i := 2) sc_choices_of.nd rfl (.inl rfl)) pgs_nil)))) (fun _ _ _ _ _ => (pts_one (pt_cmpR (inQ (K := K) rfl) (pv 1) (pe_tup (pa_cons pe_str (pa_cons pe_str pa_nil))) (by rfl)))) (fun _ _ _ _ _ => (pv 1))) pa_nil)))), ?_⟩
    have hxn := hN.length
    refine ⟨_, rfl, p, rfl, ⟨xs, hS⟩, fun D nD => ?_⟩
    have s1 : Same H (upd H D (.lst [])) := same_new nD
    refine lcTg (K := K) (a := p) (xs := xs) (fun j acc H2 => Same H H2 ∧ acc.length = countIn choiceKinds (ns.take j)) ⟨s1, rfl⟩ (fun j ts H2 h => (stk h.1).seq hS) ?_ ?_
    · rintro j x acc H2 hx hl e ⟨s2, hm⟩
      obtain ⟨a, k, t, rfl, hk, ha⟩ := hN.get hx
      have hj : j < 1000 := by
        have := (List.getElem?_eq_some_iff.mp hx).1
        omega
      have et : countIn choiceKinds (ns.take (j + 1)) = countIn choiceKinds (ns.take j) + countIn choiceKinds [(k, t)] := by rw [take_succ' hk, countIn_app]
      have nDH : H D = none := nD
      refine ⟨a, _, rfl, (stk s2).seq ha, rfl, _, _, rfl, _, _, rfl, rfl, rfl, ?_⟩
      refine ⟨_, rfl, lenOk 2, fun t1 n1 => ⟨t1, choiceKinds.map V.str, rfl, .inr (SqT.of upd_same), rfl, flat_strs _, _, rfl, ?_⟩⟩
      have s3 : Same H (upd H2 t1 (.tup (choiceKinds.map V.str))) := s2.trans (same_new n1)
      have e3 := same_new (o := .tup (choiceKinds.map V.str)) n1 _ _ e
      cases ek : choiceKinds.contains k with
      | true =>
        rw [countIn_one, if_pos ek] at et
        refine iteT' ((inV_strs k choiceKinds).trans ek) ⟨_, rfl, LcK.mk hl (by omega) e3 ⟨fun b o eb => ?_, ?_⟩⟩
        · rw [upd_ne (ne_of_none eb nDH)]
          exact s3 b o eb
        · rw [List.length_append, hm, et]
          rfl
      | false =>
        rw [countIn_one, if_neg (by rw [ek]; exact Bool.false_ne_true)] at et
        exact iteF' ((inV_strs k choiceKinds).trans ek) ⟨acc, by omega, e3, s3, by rw [et]; exact hm⟩
    · rintro acc H2 hl e ⟨s2, hm⟩
      refine .inl ⟨D, acc, rfl, .inl (SqL.of e), ?_⟩
      rw [hxn, List.take_length] at hm
      rw [hm]
      exact q H2 s2
end
end Eh
set_option Elab.async false
set_option linter.all false
set_option maxRecDepth 100000
namespace Eh
open PySem PySem.Spec PyProof.Rows L2
inductive NdAll (K : PySem.W.Frag) (H : Hp) : List V → List (Option (Str × V)) → Prop
  | nil : NdAll K H [] []
  | cons {v : V} {vs : List V} {n : Option (Str × V)} {ns : List (Option (Str × V))} : NdV K H v n → NdAll K H vs ns → NdAll K H (v :: vs) (n :: ns)
theorem NdAll.length {K : PySem.W.Frag} {H : Hp} : ∀ {vs : List V} {ns : List (Option (Str × V))}, NdAll K H vs ns → vs.length = ns.length
  | _, _, .nil => rfl
  | _, _, .cons _ r => by rw [List.length_cons, List.length_cons, r.length]
theorem NdAll.get {K : PySem.W.Frag} {H : Hp} : ∀ {vs : List V} {ns : List (Option (Str × V))}, NdAll K H vs ns → ∀ {i : Nat} {v : V}, vs[i]? = some v → ∃ n, ns[i]? = some n ∧ NdV K H v n
  | _, _, .nil, i, v, h => by simp at h
  | _, _, .cons (v := x) (n := n) hp r, 0, v, h => by
    cases (show some x = some v from h)
    exact ⟨n, rfl, hp⟩
  | _, _, .cons hp r, i + 1, v, h => r.get (i := i) h
theorem NdAll.ku {K : PySem.W.Frag} {H H' : Hp} (k : Ku H H') : ∀ {vs : List V} {ns : List (Option (Str × V))}, NdAll K H vs ns → NdAll K H' vs ns
  | _, _, .nil => .nil
  | _, _, .cons h r => .cons (h.ku k) (r.ku k)
/-- whether values are the nodes of a promise, bounds aside -/
def okNs (nds : List (Option (Str × V))) : Bool := nds.all Option.isSome && dueGo 1 (nds.filterMap id)
theorem all_some {nds : List (Option (Str × V))} (h : nds.all Option.isSome = true) : ∃ ns : List (Str × V), nds = ns.map some := by
  induction nds with
  | nil => exact ⟨[], rfl⟩
  | cons n r ih =>
    rw [List.all_cons, Bool.and_eq_true] at h
    obtain ⟨ns, e⟩ := ih h.2
    cases n with
    | none => cases h.1
    | some x => exact ⟨x :: ns, by rw [e]; rfl⟩
theorem filterMap_some (ns : List (Str × V)) : (ns.map some).filterMap id = ns := by
  induction ns with
  | nil => rfl
  | cons a r ih =>
    show a :: _ = a :: r
    rw [show List.filterMap id (List.map some r) = r from ih]
theorem pairNd_some {a b : V} {n : Str × V} (h : pairNd a b = some n) : a = .str n.1 ∧ b = n.2 ∧ nodeAB n.1 n.2 = true := by
  unfold pairNd at h
  split at h
  · split at h
    · rename_i g
      cases h
      exact ⟨rfl, rfl, g⟩
    · cases h
  · cases h
theorem NdAll.nds {K : PySem.W.Frag} {H : Hp} : ∀ {vs : List V} {ns : List (Str × V)}, NdAll K H vs (ns.map some) → NdsAt K H vs ns ∧ GoodN ns
  | vs, [], h => by
    cases h
    exact ⟨.nil, fun _ h => nomatch h⟩
  | vs, n :: ns, h => by
    generalize e : (n :: ns).map some = m at h
    cases h with
    | nil => cases e
    | cons hv hr =>
      injection e with e1 e2
      subst e2
      obtain ⟨r1, r2⟩ := hr.nds
      cases hv with
      | other _ => cases e1
      | tup _ _ _ => cases e1
      | pair h a b =>
        obtain ⟨ea, eb, g⟩ := pairNd_some e1.symm
        subst ea eb
        exact ⟨.cons h r1, fun x hx => (List.mem_cons.mp hx).elim (fun e => by rw [e]; exact g) (r2 x)⟩
theorem countIn_mono {ws us : List Str} (h : ∀ k, ws.contains k = true → us.contains k = true) : ∀ ns : List (Str × V), countIn ws ns ≤ countIn us ns
  | [] => Nat.le_refl _
  | n :: ns => by
    have ih := countIn_mono h ns
    rw [show n :: ns = [(n.1, n.2)] ++ ns from rfl, countIn_app, countIn_app, countIn_one, countIn_one]
    by_cases c : ws.contains n.1 = true
    · rw [if_pos c, if_pos (h _ c)]
      omega
    · rw [if_neg c]
      omega
theorem choice_inner {k : Str} (h : choiceKinds.contains k = true) : nodeKinds.contains k = true := choice_node h
theorem due_inner : ∀ {ns : List (Str × V)} {l : Nat}, GoodN ns → dueGo l ns = true → 2 * countIn nodeKinds ns + l ≤ ns.length
  | [], l, _, h => by
    have h : decide (l = 0) = true := h
    have h := of_decide_eq_true h
    show 2 * 0 + l ≤ 0
    omega
  | n :: ns, 0, _, h => by cases h
  | n :: ns, l + 1, g, h => by
    have ih := due_inner (fun x hx => g x (List.mem_cons_of_mem _ hx)) (show dueGo (l + partsN n) ns = true from h)
    rw [show countIn nodeKinds (n :: ns) = countIn nodeKinds ([(n.1, n.2)] ++ ns) from rfl, countIn_app, countIn_one, List.length_cons]
    unfold partsN at ih
    by_cases c : nodeKinds.contains n.1 = true
    · rw [if_pos c] at ih ⊢
      obtain ⟨i, e, h2, h4⟩ := good_int (g n List.mem_cons_self) c
      rw [e] at ih
      have : (intOf (.int i)).toNat = i.toNat := rfl
      omega
    · rw [if_neg c] at ih ⊢
      omega
theorem not_due_of {nds : List (Option (Str × V))} {ns : List (Str × V)} (e : nds = ns.map some) : okNs nds = dueGo 1 ns := by
  subst e
  unfold okNs
  rw [filterMap_some, show (ns.map some).all Option.isSome = true from by rw [List.all_map]; exact List.all_eq_true.mpr fun _ _ => rfl, Bool.true_and]
theorem nodup_le : ∀ {ys us : List Str}, ys.Nodup → (∀ z ∈ ys, z ∈ us) → ys.length ≤ us.length
  | [], us, _, _ => Nat.zero_le _
  | a :: r, us, nd, h => by
    have ha := h a List.mem_cons_self
    obtain ⟨n1, n2⟩ := List.nodup_cons.mp nd
    have ih := nodup_le (us := us.erase a) n2 fun z hz => (List.mem_erase_of_ne (fun e => n1 (by rw [← e]; exact hz))).mpr (h z (List.mem_cons_of_mem _ hz))
    rw [List.length_erase_of_mem ha] at ih
    have := List.length_pos_of_mem ha
    rw [List.length_cons]
    omega
section
variable {P : Program} {w : World} {K : PySem.W.Frag} {mg : Str → Option Value} {base : Heap}
/-- the nodes of a value: none, where it is no tuple -/
inductive NodesV (K : PySem.W.Frag) (H : Hp) : V → List (Option (Str × V)) → Bool → Prop
  | other {v : V} : NoT H v → NodesV K H v [] false
  | tup {p : Addr} {xs : List V} {nds : List (Option (Str × V))} : SqT K H p xs → NdAll K H xs nds → NodesV K H (.ref p) nds (okNs nds)
theorem NodesV.ku {H H' : Hp} {v : V} {nds : List (Option (Str × V))} {b : Bool} (h : NodesV K H v nds b) (k : Ku H H') : NodesV K H' v nds b := by
  cases h with
  | other t => exact .other (t.ku k)
  | tup h n => exact .tup (k.tk.seq h) (n.ku k)
/-- few enough, and with few facts -/
structure Few (nds : List (Option (Str × V))) (b : Bool) : Prop where
  len : nds.length < 60
  short : nds.length ≤ 15 ∨ b = false
  facts : ∀ ns, nds = ns.map some → ∀ z ∈ factsN ns, z ∈ uni6
def spAre (K : PySem.W.Frag) : Sp := fun vs H Q _ => ∃ v nds b, vs = [v] ∧ NodesV K H v nds b ∧ Few nds b ∧ ∀ H', Same H H' → Q (.bl b) H'
theorem ok_are_nodes {fN fF fC fD f : Addr} {fdN fdF fdC fdD fd : FuncData} (F : Fun K "_are_nodes" "_are_nodes" s__are_nodes f fd) (T : Txt mg)
    (c40 : ∃ t, mg "MAX_NODES" = some (.int 40 t)) (c6 : ∃ t, mg "MAX_FACTS" = some (.int 6 t)) (c10 : ∃ t, mg "MAX_CHOICES" = some (.int 10 t)) (c8 : ∃ t, mg "MAX_DEPTH" = some (.int 8 t))
    (C_is_node : Cal P w K mg base 2 "is_node" fN fdN ["value"] (spIsNode K)) (C_facts_of : Cal P w K mg base 1 "facts_of" fF fdF ["nodes"] (spFacts K)) (C_choices_of : Cal P w K mg base 1 "choices_of" fC fdC ["nodes"] (spChoices K)) (C_depth_of : Cal P w K mg base 1 "depth_of" fD fdD ["nodes"] (spDepth K)) :
    FnOk P w K mg base CX0 3 f fd ["value"] (spAre K) := by
  obtain ⟨t40, e40⟩ := c40
  obtain ⟨t6, e6⟩ := c6
  obtain ⟨t10, e10⟩ := c10
  obtain ⟨t8, e8⟩ := c8
  refine F.ok sc__are_nodes (fun vs H Q E h => ?_) (fun cdv A outer s H vs Q E hr h => ?_)
  · obtain ⟨v, nds, b, rfl, _⟩ := h
    rfl
  · obtain ⟨v, nds, b, rfl, hv, few, q⟩ := h
    have hr1 := hr.mono (j := 1) (by omega)
    refine ⟨_, (pss_cons (ps_if (PW.pt (pw_or (pt_not (pt_val (pe_callB (isiQ (K := K) rfl) (by rfl) T.isinstance_ (by decide +kernel) (pa_cons (pv 0) (pa_cons (pe_bltn (v := .ty "tuple") (by rfl) T.tuple_ (by decide +kernel) rfl) pa_nil))))) (pw_or1 (pt_cmpR op_gt (pe_callB (lenQ (K := K) rfl) (by rfl) T.len_ (by decide +kernel) (pa_cons (pv 0) pa_nil)) (pe_glob (v := .int 40) rfl e40 ⟨_, rfl⟩) (nomark _)))))
  (pss_one (ps_ret pe_bl))
  pss_nil)
  (pss_cons (ps_if (pt_not (pt_val (pe_callB (allQ (K := K) rfl (by rfl)) (by rfl) T.all_ (by decide +kernel) (pa_cons (pe_lc (own := [("node", 1)]) (g := gName 1) (by rfl) sc__are_nodes.nd (pi_tup (pv 0)) (blkOk_by (by kernel_rfl)) (fun _ _ _ _ _ => (pg_name (i := 1) sc__are_nodes.nd rfl (.inl rfl))) (fun _ _ _ _ _ => pts_nil) (fun _ _ _ _ _ => (pe_call C_is_node.G hr (by rfl) C_is_node.m C_is_node.k C_is_node.b .nil pass0 (pa_cons (pv 1) pa_nil)))) pa_nil))))
  (pss_one (ps_ret pe_bl))
  pss_nil)
  (pss_cons (ps_if (PW.pt (pw_or (pt_cmpR op_gt (pe_callB (lenQ (K := K) rfl) (by rfl) T.len_ (by decide +kernel) (pa_cons (pe_call C_facts_of.G hr1 (by rfl) C_facts_of.m C_facts_of.k C_facts_of.b .nil pass0 (pa_cons (pv 0) pa_nil)) pa_nil)) (pe_glob (v := .int 6) rfl e6 ⟨_, rfl⟩) (nomark _)) (pw_or1 (pt_cmpR op_gt (pe_call C_choices_of.G hr1 (by rfl) C_choices_of.m C_choices_of.k C_choices_of.b .nil pass0 (pa_cons (pv 0) pa_nil)) (pe_glob (v := .int 10) rfl e10 ⟨_, rfl⟩) (nomark _)))))
  (pss_one (ps_ret pe_bl))
  pss_nil)
  (pss_one (ps_ret (pe_chain op_le op_le pe_int (pe_call C_depth_of.G hr1 (by rfl) C_depth_of.m C_depth_of.k C_depth_of.b .nil pass0 (pa_cons (pv 0) pa_nil)) (pe_glob (v := .int 8) rfl e8 ⟨_, rfl⟩))))))), ?_⟩
    cases hv with
    | other hno =>
      obtain ⟨u, ty, hk⟩ := hno.ty (K := K)
      exact ⟨_, rfl, v, .ty "tuple", _, .type "tuple", false, rfl, .ty _, ty, hk, _, rfl, iteT (q _ (Same.refl H))⟩
    | tup hs hn =>
      rename_i p xs
      have hlen := hn.length
      have hx60 := few.len
      refine ⟨_, rfl, .ref p, .ty "tuple", _, .type "tuple", true, rfl, .ty _, ty_tup hs, kitTT, _, rfl, iteF ⟨_, rfl, .inl ⟨p, xs, rfl, .inr hs, _, 40, rfl, rfl, _, rfl, ite2 (fun h => ?_) (fun h => ?_)⟩⟩⟩
      · have h : (40 : Int) < xs.length := of_decide_eq_true h
        have eb : okNs nds = false := few.short.resolve_left (by omega)
        have q' := q _ (Same.refl H)
        rw [eb] at q'
        exact q'
      refine ⟨_, rfl, p, rfl, ⟨xs, hs⟩, fun D nD => ?_⟩
      have s1 : Same H (upd H D (.lst [])) := same_new nD
      refine lcT (K := K) (a := p) (xs := xs) (fun j acc H2 => Same H H2 ∧ acc = ((nds.take j).map Option.isSome).map V.bl) ⟨s1, rfl⟩ (fun j acc H2 h => (stk h.1).seq hs) ?_ ?_
      · rintro j x acc H2 hx hl e ⟨s2, ea⟩
        obtain ⟨n, en, hnd⟩ := hn.get hx
        have hj : j < 60 := by
          have := (List.getElem?_eq_some_iff.mp hx).1
          omega
        refine yesT ⟨_, rfl, x, n, rfl, hnd.ku (ku_same s2), fun H3 s3 => ?_⟩
        refine LcK.mk hl (by omega) (s3 _ _ e) ⟨fun b o eb => ?_, ?_⟩
        · rw [upd_ne (ne_of_none eb nD)]
          exact s3 _ _ (s2 b o eb)
        · rw [ea, take_succ' en, List.map_append, List.map_append]
          rfl
      · rintro acc H2 hl e ⟨s2, ea⟩
        refine ⟨D, _, rfl, SqL.of (e.trans (by rw [ea])), ?_⟩
        rw [hlen, List.take_length, List.all_map]
        cases ha : nds.all (id ∘ Option.isSome) with
        | false =>
          refine ⟨_, rfl, iteT ?_⟩
          have q' := q _ s2
          have eb : okNs nds = false := by
            unfold okNs
            rw [show nds.all Option.isSome = false from ha, Bool.false_and]
          rw [eb] at q'
          exact q'
        | true =>
          obtain ⟨ns, en⟩ := all_some ha
          have hok := not_due_of en
          rw [hok] at few q
          subst en
          obtain ⟨N, hg⟩ := hn.nds
          have hnl := N.length
          refine ⟨_, rfl, iteF ?_⟩
          refine ⟨_, rfl, p, xs, ns, rfl, (stk s2).seq hs, N.tk (stk s2), hg, by omega, fun ys p3 H3 s3 n3 e3 nd so mem => ?_⟩
          have hys : ys.length ≤ 6 := nodup_le nd fun z hz => few.facts ns rfl z ((mem z).mp hz)
          have s4 := s2.trans s3
          refine .inl ⟨p3, _, rfl, .inr (SqT.of e3), _, 6, rfl, rfl, _, rfl, ?_⟩
          rw [List.length_map, decide_eq_false (by omega)]
          refine iteF ?_
          refine ⟨_, rfl, p, xs, ns, rfl, (stk s4).seq hs, N.tk (stk s4), by omega, fun H5 s5 => ?_⟩
          have s6 := s4.trans s5
          have hc := countIn_mono (fun k h => choice_inner (k := k) h) ns
          have hdi := due_inner (l := 1) hg
          have hlen2 : xs.length = ns.length := hnl
          have hl3 : (ns.map some).length = ns.length := List.length_map ..
          have hsh := few.short
          rw [hl3] at hsh
          refine ⟨_, 10, rfl, rfl, _, rfl, ite2 (fun h => ?_) (fun h => ?_)⟩
          · have h : (10 : Int) < countIn choiceKinds ns := of_decide_eq_true h
            have eb : dueGo 1 ns = false := by
              cases e : dueGo 1 ns with
              | false => rfl
              | true =>
                have := hdi e
                rcases hsh with h15 | h15
                · omega
                · rw [e] at h15
                  cases h15
            have q' := q _ s6
            rw [eb] at q'
            exact q'
          refine ⟨_, rfl, p, xs, ns, rfl, (stk s6).seq hs, N.tk (stk s6), hg, by omega, fun dd H7 s7 d1 d2 => ?_⟩
          have q' := q _ (s6.trans s7)
          refine ⟨1, dd, rfl, rfl, _, rfl, ?_⟩
          cases e : dueGo 1 ns with
          | false =>
            rw [e] at q'
            rw [decide_eq_false (fun z => by have := d1.mp z; rw [e] at this; cases this)]
            exact iteF q'
          | true =>
            rw [e] at q'
            rw [decide_eq_true (d1.mpr e)]
            refine iteT ⟨dd, 8, rfl, rfl, ?_⟩
            have := hdi e
            have h8 : dd ≤ 8 := by
              rcases hsh with h15 | h15
              · omega
              · rw [e] at h15
                cases h15
            show Q (.bl (decide (dd ≤ 8))) H7
            rw [decide_eq_true h8]
            exact q'
end
end Eh
set_option Elab.async false
set_option linter.all false
set_option maxRecDepth 100000
namespace Eh
open PySem PySem.Spec PyProof.Rows L2
section
variable {X : Cx} {CX : CXT} {k : Nat} {f C : Addr} {fd : FuncData} {ps : List Str} {sp : Sp} {E : L2.St → XK} {x m : Str} {p pos apos : Pos} {e o : Expr} {es : List Expr} {ta : TE} {t : TA}
theorem run_makeS {pins : List (Addr × Obj)} {σ : L2.St} {H : Hp} {s : Shared} {Q : VK} {us : List Value} {vs : List V} (M : Mk X.K C f) (F : FnOk X.prog X.w X.K X.mg X.base CX k f fd ps sp) (hr : Room (k + 1) X.A) (hb : Binds X.K fd ps [])
    (hx : PassesAt CX X σ (E σ)) (I : Inv X pins σ H s) (r : Vals vs us)
    (h : ∀ x dx, H x = none → H dx = none → dx ≠ x → sp (.ref x :: vs) (upd (upd H dx (.own x)) x (.ins C dx [])) (fun v H2 => v = .non ∧ Q (.ref x) H2) (E σ)) :
    wpAny (model X.prog X.w) X.A (call (.ref C) us) (EP X pins σ Q) X.xe s := by
  have hq := h (s.heap.objs.size + 1) s.heap.objs.size (I.hok.fresh (Nat.le_succ _)) (I.hok.fresh (Nat.le_refl _)) (Nat.ne_of_lt (Nat.lt_succ_self _))
  have I2 := Inv.made (C := C) I
  have r2 : Vals (V.ref (s.heap.objs.size + 1) :: vs) (Value.ref (s.heap.objs.size + 1) :: us) := .cons rfl r
  have hl : (Value.ref (s.heap.objs.size + 1) :: us).length = ps.length := by
    have e := r2.length
    rw [F.len _ _ _ _ hq] at e
    exact e.symm
  have b := hb _ (Value.ref (s.heap.objs.size + 1) :: us) I2.kIn (by rw [List.append_nil]; exact hl)
  rw [List.append_nil] at b
  refine wpAny_call (make_map (f := f) I.kIn M.makes M.init (beq_iff_eq.mp M.fn) (codeAny_mono (F.run _ X.stack _ _ ⟨Value.ref (s.heap.objs.size + 1) :: us, []⟩ (Value.ref (s.heap.objs.size + 1) :: us) _ _ (E σ) (hr.make C us [])
    (I2.env0.make C us []) b r2 hq) fun r s' hq' => ?_))
  cases r with
  | error e => exact hx pins _ _ e s' I2 hq'
  | ok fl =>
    cases fl with
    | ret u =>
      obtain ⟨v, H', I3, rv, ev, q3⟩ := I2.after hq'
      subst ev
      exact ⟨rv, ⟨V.ref (s.heap.objs.size + 1), H', I3, rfl, q3⟩⟩
    | next => exact False.elim hq'
    | brk => exact False.elim hq'
    | cont => exact False.elim hq'
/-- C(e, ..), within a try -/
def tMakeS (C : Addr) (sp : Sp) (E : L2.St → XK) (t : TA) : TE := fun σ H Q => t σ H fun vs H1 => ∀ x dx, H1 x = none → H1 dx = none → dx ≠ x → sp (.ref x :: vs) (upd (upd H1 dx (.own x)) x (.ins C dx [])) (fun v H2 => v = .non ∧ Q (.ref x) H2) (E σ)
theorem pe_makeS (M : Mk X.K C f) (F : FnOk X.prog X.w X.K X.mg X.base CX k f fd ps sp) (hr : Room (k + 1) X.A) (hg : Gl X x) (hm : X.mg x = some (.ref C)) (hb : Binds X.K fd ps []) (hx : ∀ σ, PassesAt CX X σ (E σ))
    (ha : PA X (e :: es) t) (hdb : (x == ("__debug__" : Str)) = false := by decide) (he : starEach (e :: es) X.env = (false, eval e X.env) :: starEach es X.env := by rfl) (hpl : (backTo pos (starEach es X.env)).any (·.1) = false := by rfl) :
    PE X (.Call (.Name x p) (e :: es) [] pos) (tMakeS C sp E t) := by
  refine ⟨fun pins s σ H Q I h => ?_⟩
  refine wpAny_Call_Name_kw (ld_glob I hg hm ?_ hdb)
  refine PySem.W.callWith_K (h₀ := X.base) I.ok.mod.kin M.kp (thn (ha.run pos pins s σ H _ I h) fun us s1 ⟨vs, H1, I1, r, q⟩ => ⟨I1.kIn, ?_⟩) he hpl
  exact run_makeS M F hr hb (hx σ) I1 r q
end
end Eh
set_option Elab.async false
set_option linter.all false
set_option maxRecDepth 100000
namespace Eh
open PySem PySem.Spec PyProof.Rows L2
/-- what it takes to raise and to catch an own error without an __init__ -/
structure ErrC (K : PySem.W.Frag) (mg : Str → Option Value) (x : Str) (C : Addr) : Prop where
  g : mg x = some (.ref C)
  q : PySem.W.excIn K C [.type "ValueError", .type "Exception", .type "BaseException", .type "object"] "ValueError.__new__" = true
  k : PySem.W.keepIn K (.ref C) = true
  b : PySem.W.subIn K (.ref C) (.type "BaseException") = some true
  t : PySem.W.typeIn K (.ref C) = some (.type "type")
  e : PySem.W.exmOne K (.ref C) (.ref C) = some true
/-- the class Promise -/
structure PromC (K : PySem.W.Frag) (mg : Str → Option Value) (C fI fL : Addr) : Prop where
  g : mg "Promise" = some (.ref C)
  mkC : Mk K C fI
  cl : Cls K C
  nn : NoAttr K C "_nodes"
  ln : PySem.W.findIn K (.ref C) "__len__" = some (some (.ref fL))
  lf : PySem.W.isFn K (.ref fL) = true
section
variable {P : Program} {w : World} {K : PySem.W.Frag} {mg : Str → Option Value} {base : Heap}
/-- what stands stays, but the new object at x -/
def But (x : Addr) (H H' : Hp) : Prop := ∀ b o, b ≠ x → H b = some o → H' b = some o
def spInit (K : PySem.W.Frag) (C CE : Addr) : Sp := fun vs H Q E => ∃ x dx v nds b, vs = [.ref x, v] ∧ H x = some (.ins C dx []) ∧ NodesV K H v nds b ∧ Few nds b ∧
  (b = true → ∀ H', But x H H' → H' x = some (.ins C dx [(("_nodes" : Str), v)]) → Q .non H') ∧ (b = false → ∀ H', Same H H' → E (.ref CE) none H')
theorem ok_init {C fL CE fA f : Addr} {fdA fd : FuncData} (F : Fun K "__init__" "Promise.__init__" s_Promise___init__ f fd) (T : Txt mg) (R : ErrC K mg "InvalidPromise" CE) (PC : PromC K mg C f fL)
    (C__are_nodes : Cal P w K mg base 3 "_are_nodes" fA fdA ["value"] (spAre K)) : FnOk P w K mg base (L2.CX P w) 4 f fd ["self", "nodes"] (spInit K C CE) := by
  refine F.okX sc_Promise___init__ (fun vs H Q E h => ?_) (fun cdv A outer s H vs Q E hr h => ?_)
  · obtain ⟨x, dx, v, nds, b, rfl, _⟩ := h
    rfl
  · obtain ⟨x, dx, v, nds, b, rfl, ex, hv, few, q1, q2⟩ := h
    refine ⟨_, (pss_cons (ps_if (pt_not (pt_val (pe_call C__are_nodes.G hr (by rfl) C__are_nodes.m C__are_nodes.k C__are_nodes.b .nil pass0 (pa_cons (pv 1) pa_nil))))
      (pss_one (ps_raise rfl (takes_of rfl rfl rfl rfl) (pmk_own PySem.F.excBase_ValueError R.q R.g R.k (raises_own R.b R.t) rfl))) pss_nil)
      (pss_one (ps_fld (pv 0) (pv 1) rfl))), ?_⟩
    refine ⟨_, rfl, v, nds, b, rfl, hv, few, fun H1 s1 => ⟨_, rfl, ?_⟩⟩
    cases b with
    | false => exact iteT (q2 rfl H1 s1)
    | true =>
      refine iteF ?_
      refine ⟨_, rfl, _, rfl, x, C, dx, [], rfl, s1 _ _ ex, PC.cl, PC.nn, by decide, ?_⟩
      exact q1 rfl _ (fun b o n e => by rw [upd_ne n]; exact s1 b o e) upd_same
def spLen (K : PySem.W.Frag) (C : Addr) : Sp := fun vs H Q _ => ∃ x dx fs p xs, vs = [.ref x] ∧ H x = some (.ins C dx fs) ∧ fs.lookup ("_nodes" : Str) = some (.ref p) ∧ SqT K H p xs ∧ Q (.int xs.length) H
theorem ok_len {C fI f : Addr} {fd : FuncData} (F : Fun K "__len__" "Promise.__len__" s_Promise___len__ f fd) (T : Txt mg) (PC : PromC K mg C fI f) : FnOk P w K mg base CX0 1 f fd ["self"] (spLen K C) := by
  refine F.ok sc_Promise___len__ (fun vs H Q E h => ?_) (fun cdv A outer s H vs Q E hr h => ?_)
  · obtain ⟨x, dx, fs, p, xs, rfl, _⟩ := h
    rfl
  · obtain ⟨x, dx, fs, p, xs, rfl, ex, hl, hs, q⟩ := h
    refine ⟨_, (pss_one (ps_ret (pe_callB (lenQ (K := K) rfl) (by rfl) T.len_ (by decide +kernel) (pa_cons (pe_fld (pv 0) rfl) pa_nil)))), ?_⟩
    exact ⟨_, rfl, x, C, dx, fs, .ref p, rfl, ex, PC.cl, PC.nn, hl, .inl ⟨p, xs, rfl, .inr hs, q⟩⟩
end
end Eh
set_option Elab.async false
set_option linter.all false
set_option maxRecDepth 100000
namespace Eh
open PySem PySem.Spec PyProof.Rows L2
section
variable {X : Cx}
def rNotBV : R2 := fun x y H Q => ∃ b, y = .bl b ∧ ((∃ i, x = .int i ∧ Q (.bl true) H) ∨ ∃ a, x = .bl a ∧ Q (.bl (!decide (a = b))) H)
theorem op_notBV : OpR X (compareOp .IsNot) rNotBV := by
  intro pins s σ H x y v u Q I rx ry h
  obtain ⟨b, rfl, h⟩ := h
  rcases h with ⟨i, rfl, q⟩ | ⟨a, rfl, q⟩
  · obtain ⟨t, rfl⟩ := rx
    cases (show u = Value.bool b from ry)
    exact wpAny_isNot_other rfl (fun z => by cases z) ⟨.bl true, H, I, rfl, q⟩
  · exact op_notBl pins s σ H _ _ v u Q I rx ry ⟨a, b, rfl, rfl, q⟩
end
end Eh
set_option Elab.async false
set_option linter.all false
set_option maxRecDepth 100000
namespace Eh
open PySem PySem.Spec PyProof.Rows L2
def ascB (z : Str) : Bool := decide (z.length < 1000000) && z.cps.toList.all fun c => decide (c < 128)
theorem asc_of {z : Str} (h : ascB z = true) : Asc z := by
  unfold ascB at h
  rw [Bool.and_eq_true] at h
  exact ⟨of_decide_eq_true h.1, fun c hc => of_decide_eq_true (List.all_eq_true.mp h.2 c hc)⟩
theorem eltS {K : PySem.W.Frag} {H : Hp} (z : Str) (h : ascB z = true) : Elt K H (.str z) := .inl ⟨z, rfl, asc_of h⟩
theorem eltI {K : PySem.W.Frag} {H : Hp} (i : Int) : Elt K H (.int i) := .inr (.inl ⟨i, rfl⟩)
theorem eltB {K : PySem.W.Frag} {H : Hp} (b : Bool) : Elt K H (.bl b) := .inr (.inr (.inl ⟨b, rfl⟩))
theorem eltN {K : PySem.W.Frag} {H : Hp} : Elt K H .non := .inr (.inr (.inr (.inl rfl)))
def ToldOk (K : PySem.W.Frag) (H : Hp) (b : V) : Prop := Elt K H b ∧ ∀ z, b = .str z → factS z = true → z ∈ uni6
theorem ToldOk.tk {K : PySem.W.Frag} {H H' : Hp} {b : V} (h : ToldOk K H b) (t : Tk H H') : ToldOk K H' b := ⟨h.1.tk t, h.2⟩
theorem toldE {K : PySem.W.Frag} {H : Hp} {b : V} (h : Elt K H b) (n : ∀ z, b ≠ .str z) : ToldOk K H b := ⟨h, fun z e => absurd e (n z)⟩
/-- its told fact, if it is a node of one, is among six -/
def FactOk (n : Option (Str × V)) : Prop := ∀ k z, n = some (k, .str z) → z ∈ uni6
def BNode (K : PySem.W.Frag) (H : Hp) (v : V) : Prop := ∃ n, NdV K H v n ∧ FactOk n
theorem BNode.ku {K : PySem.W.Frag} {H H' : Hp} {v : V} (h : BNode K H v) (k : Ku H H') : BNode K H' v := by
  obtain ⟨n, a, b⟩ := h
  exact ⟨n, a.ku k, b⟩
theorem node_str {k z : Str} (h : nodeAB k (.str z) = true) : factS z = true := by
  unfold nodeAB at h
  split at h
  · exact h
  · split at h
    · cases h
    · rw [Bool.and_eq_true] at h
      cases h.2
def BAll (K : PySem.W.Frag) (H : Hp) (xs : List V) : Prop := ∀ v ∈ xs, BNode K H v
theorem BAll.ku {K : PySem.W.Frag} {H H' : Hp} {xs : List V} (h : BAll K H xs) (k : Ku H H') : BAll K H' xs := fun v hv => (h v hv).ku k
theorem facts_ok {nds : List (Option (Str × V))} (h : ∀ n ∈ nds, FactOk n) : ∀ ns : List (Str × V), nds = ns.map some → ∀ z ∈ factsN ns, z ∈ uni6 := fun ns e z hz => by
  unfold factsN at hz
  obtain ⟨⟨k, t⟩, hn, hf⟩ := List.mem_filterMap.mp hz
  have hm : some (k, t) ∈ nds := by rw [e]; exact List.mem_map_of_mem hn
  split at hf
  · cases t with
    | str y =>
      cases hf
      exact h _ hm k z rfl
    | _ => cases hf
  · cases hf
theorem few_of {nds : List (Option (Str × V))} (h : ∀ n ∈ nds, FactOk n) (l : nds.length ≤ 15) : Few nds (okNs nds) := ⟨by omega, .inl l, facts_ok h⟩
theorem ixN_nat {n a : Nat} (h : a < n) : ixN n (a : Int) = some a := by
  unfold ixN
  rw [if_pos (by omega), if_pos (by omega), Int.toNat_natCast]
theorem asc_uni {z : Str} (h : z ∈ uni6) : ascB z = true := by
  unfold uni6 at h
  simp only [List.mem_cons, List.not_mem_nil, or_false] at h
  rcases h with rfl | rfl | rfl | rfl | rfl | rfl <;> decide +kernel
theorem asc_kind {k : Str} {t : V} (h : nodeAB k t = true) : ascB k = true := by
  unfold nodeAB at h
  by_cases h1 : factKinds.contains k = true
  · unfold factKinds at h1
    rw [List.contains_iff_mem] at h1
    simp only [List.mem_cons, List.not_mem_nil, or_false] at h1
    rcases h1 with rfl | rfl <;> decide +kernel
  · rw [if_neg h1] at h
    by_cases h2 : sureKinds.contains k = true
    · unfold sureKinds at h2
      rw [List.contains_iff_mem] at h2
      simp only [List.mem_cons, List.not_mem_nil, or_false] at h2
      rcases h2 with rfl | rfl <;> decide +kernel
    · rw [if_neg h2, Bool.and_eq_true] at h
      rcases node_cases h.1 with rfl | rfl | rfl | rfl <;> decide +kernel
/-- a node of a promise, as it stands -/
theorem good_elt {K : PySem.W.Frag} {H : Hp} {k : Str} {t : V} (h : nodeAB k t = true) (hu : ∀ z, t = .str z → z ∈ uni6) : Elt K H (.str k) ∧ ToldOk K H t := by
  refine ⟨eltS k (asc_kind h), ?_⟩
  cases t with
  | str z => exact ⟨eltS z (asc_uni (hu z rfl)), fun y e _ => hu y e⟩
  | int i => exact toldE (eltI i) fun z e => nomatch e
  | bl b => exact toldE (eltB b) fun z e => nomatch e
  | non => exact toldE eltN fun z e => nomatch e
  | _ =>
    exfalso
    unfold nodeAB at h
    split at h
    · cases h
    · split at h
      · cases h
      · rw [Bool.and_eq_true] at h
        cases h.2
end Eh
set_option Elab.async false
set_option linter.all false
set_option maxRecDepth 100000
set_option maxHeartbeats 4000000
namespace Eh
open PySem PySem.Spec PyProof.Rows L2
theorem fact_uni {z : Str} (h : z ∈ uni6) : factS z = true := by
  unfold uni6 at h
  simp only [List.mem_cons, List.not_mem_nil, or_false] at h
  rcases h with rfl | rfl | rfl | rfl | rfl | rfl <;> decide +kernel
theorem leaf_good {k : Str} {t : V} (o : leafOk k t = true) (w : ∀ z, t = .str z → z ∈ uni6) : nodeAB k t = true ∧ partsN (k, t) = 0 := by
  unfold leafOk at o
  cases t with
  | str z =>
    have hz : factV (.str z) = true := fact_uni (w z rfl)
    rcases (Bool.or_eq_true _ _).mp o with h | h
    · rw [eq_of_beq h]
      exact ⟨by unfold nodeAB; rw [if_pos (by decide +kernel)]; exact hz, by unfold partsN; rw [if_neg (show ¬ nodeKinds.contains "fact" = true by decide +kernel)]⟩
    · rw [eq_of_beq h]
      exact ⟨by unfold nodeAB; rw [if_pos (by decide +kernel)]; exact hz, by unfold partsN; rw [if_neg (show ¬ nodeKinds.contains "not" = true by decide +kernel)]⟩
  | int i =>
    obtain ⟨h, h0⟩ := (Bool.and_eq_true _ _).mp o
    have h0 : i = 0 := of_decide_eq_true h0
    subst h0
    rcases (Bool.or_eq_true _ _).mp h with h | h
    · rw [eq_of_beq h]
      exact ⟨by decide +kernel, by decide +kernel⟩
    · rw [eq_of_beq h]
      exact ⟨by decide +kernel, by decide +kernel⟩
  | _ => cases o
theorem InW.left {ws : List Str} {a b : List (Str × V)} (h : InW ws (a ++ b)) : InW ws a := fun k z m => h k z (List.mem_append_left _ m)
theorem InW.right {ws : List Str} {a b : List (Str × V)} (h : InW ws (a ++ b)) : InW ws b := fun k z m => h k z (List.mem_append_right _ m)
mutual
theorem At.due {K : PySem.W.Frag} {H : Hp} : ∀ {v : V} {p : Pl}, At K H v p → InW uni6 (nodesOf p) → (∀ l rest, dueGo (l + 1) (nodesOf p ++ rest) = dueGo l rest) ∧ GoodN (nodesOf p)
  | _, _, .leaf (k := k) (t := t) h o, w => by
    rw [nodesOf] at w ⊢
    obtain ⟨g1, g2⟩ := leaf_good o fun z e => w k z (by rw [e]; exact List.mem_cons_self)
    refine ⟨fun l rest => ?_, fun n hn => ?_⟩
    · show dueGo (l + partsN (k, t)) rest = _
      rw [g2]
      rfl
    · rw [List.mem_singleton.mp hn]
      exact g1
  | _, _, .node (k := k) (ps := ps) h1 h2 o a b r, w => by
    rw [nodesOf] at w ⊢
    obtain ⟨g1, g2⟩ := AtAll.due r fun x z m => w x z (List.mem_cons_of_mem _ m)
    refine ⟨fun l rest => ?_, fun n hn => ?_⟩
    · show dueGo (l + partsN (k, .int (ps.length : Int))) (nodesAll ps ++ rest) = _
      have e : partsN (k, .int (ps.length : Int)) = ps.length := by
        unfold partsN
        rw [if_pos (show nodeKinds.contains k = true from o)]
        exact Int.toNat_natCast _
      rw [e]
      exact g1 l rest
    · rcases List.mem_cons.mp hn with e | e
      · rw [e]
        unfold nodeAB
        have f := node_not_fact (k := k) o
        rw [f.1, f.2, show nodeKinds.contains k = true from o]
        show (true && (decide ((2 : Int) ≤ ps.length) && decide ((ps.length : Int) ≤ 4))) = true
        rw [decide_eq_true (by omega), decide_eq_true (by omega)]
        rfl
      · exact g2 n e
theorem AtAll.due {K : PySem.W.Frag} {H : Hp} : ∀ {vs : List V} {ps : List Pl}, AtAll K H vs ps → InW uni6 (nodesAll ps) → (∀ l rest, dueGo (l + ps.length) (nodesAll ps ++ rest) = dueGo l rest) ∧ GoodN (nodesAll ps)
  | _, _, .nil, w => by
    rw [nodesAll]
    exact ⟨fun l rest => rfl, fun n h => nomatch h⟩
  | _, _, .cons (p := p) (ps := ps) h r, w => by
    rw [nodesAll] at w ⊢
    obtain ⟨a1, a2⟩ := At.due h w.left
    obtain ⟨b1, b2⟩ := AtAll.due r w.right
    refine ⟨fun l rest => ?_, fun n hn => (List.mem_append.mp hn).elim (a2 n) (b2 n)⟩
    rw [List.append_assoc, List.length_cons, show l + (ps.length + 1) = (l + ps.length) + 1 from rfl, a1, b1]
end
theorem nds_all {K : PySem.W.Frag} {H : Hp} : ∀ {xs : List V} {ns : List (Str × V)}, NdsAt K H xs ns → GoodN ns → InW uni6 ns → NdAll K H xs (ns.map some)
  | _, _, .nil, _, _ => .nil
  | _, _, .cons (k := k) (t := t) (ns := ns) h r, g, w => by
    have hg := g _ List.mem_cons_self
    obtain ⟨e1, e2⟩ := good_elt (K := K) (H := H) hg fun z e => w k z (by rw [show t = V.str z from e]; exact List.mem_cons_self)
    have e : pairNd (.str k) t = some (k, t) := by
      show (if nodeAB k t = true then some (k, t) else none) = _
      rw [if_pos hg]
    have p := NdV.pair h e1 e2.1
    rw [e] at p
    exact .cons p (nds_all r (fun n hn => g n (List.mem_cons_of_mem _ hn)) fun x z m => w x z (List.mem_cons_of_mem _ m))
theorem NdAll.app {K : PySem.W.Frag} {H : Hp} : ∀ {xs ys : List V} {a b : List (Option (Str × V))}, NdAll K H xs a → NdAll K H ys b → NdAll K H (xs ++ ys) (a ++ b)
  | _, _, _, _, .nil, h => h
  | _, _, _, _, .cons x r, h => .cons x (r.app h)
theorem fact_some {ns : List (Str × V)} (w : InW uni6 ns) : ∀ n ∈ ns.map some, FactOk n := fun n hn k z e => by
  obtain ⟨x, hx, rfl⟩ := List.mem_map.mp hn
  cases e
  exact w k z hx
/-- a value that is no promise's nodes -/
def Odd (K : PySem.W.Frag) (H : Hp) (v : V) : Prop := ∃ nds, NodesV K H v nds false ∧ Few nds false
theorem Odd.ku {K : PySem.W.Frag} {H H' : Hp} {v : V} (h : Odd K H v) (k : Ku H H') : Odd K H' v := by
  obtain ⟨nds, a, b⟩ := h
  exact ⟨nds, a.ku k, b⟩
end Eh
set_option Elab.async false
set_option linter.all false
set_option maxRecDepth 100000
namespace Eh
open PySem PySem.Spec PyProof.Rows L2
mutual
def depthOf : Pl → Nat
  | .leaf _ _ => 1
  | .node _ ps => 1 + depthAll ps
def depthAll : List Pl → Nat
  | [] => 0
  | p :: ps => max (depthOf p) (depthAll ps)
end
theorem at_good {K : PySem.W.Frag} {H : Hp} {v : V} {pl : Pl} (h : At K H v pl) (w : InW uni6 (nodesOf pl)) (l : (nodesOf pl).length ≤ 15) : dueGo 1 (nodesOf pl) = true ∧ GoodN (nodesOf pl) ∧ okNs ((nodesOf pl).map some) = true ∧ Few ((nodesOf pl).map some) true := by
  obtain ⟨du, gd⟩ := h.due w
  have hd : dueGo 1 (nodesOf pl) = true := by
    have := du 0 []
    rw [List.append_nil] at this
    exact this
  have ok : okNs ((nodesOf pl).map some) = true := by rw [not_due_of rfl]; exact hd
  have fw := few_of (nds := (nodesOf pl).map some) (fact_some w) (by rw [List.length_map]; exact l)
  rw [ok] at fw
  exact ⟨hd, gd, ok, fw⟩
end Eh
set_option Elab.async false
set_option linter.all false
set_option maxRecDepth 100000
namespace Eh
open PySem PySem.Spec PyProof.Rows L2
def signOf (k : Str) : Str := if k = "all" then " & " else if k = "mine" then " + " else if k = "some" then " | " else " * "
def brack (k : Str) (ts : List Str) : Str := if choiceKinds.contains k = true then "[" ++ Txt.join (signOf k) ts ++ "]" else "(" ++ Txt.join (signOf k) ts ++ ")"
def plainT (k : Str) (t : V) : Str := match t with
  | .str z => if k = "fact" then z else "!" ++ z
  | _ => k
mutual
def textOf : Pl → Str
  | .leaf k t => plainT k t
  | .node k ps => brack k (textAll ps)
def textAll : List Pl → List Str
  | [] => []
  | p :: ps => textOf p :: textAll ps
end
theorem textAll_length : ∀ ps : List Pl, (textAll ps).length = ps.length
  | [] => by rw [textAll]; rfl
  | p :: ps => by rw [textAll, List.length_cons, List.length_cons, textAll_length ps]
/-- what stands on the stack behind nodes, read from behind; the first on top -/
def stackT : List (Str × V) → List Str
  | [] => []
  | n :: ns => if nodeKinds.contains n.1 = true then brack n.1 ((stackT ns).take (partsN n)) :: (stackT ns).drop (partsN n) else plainT n.1 n.2 :: stackT ns
mutual
theorem At.stack {K : PySem.W.Frag} {H : Hp} : ∀ {v : V} {p : Pl}, At K H v p → ∀ rest, stackT (nodesOf p ++ rest) = textOf p :: stackT rest
  | _, _, .leaf (k := k) (t := t) h o, rest => by
    rw [nodesOf, textOf]
    show (if nodeKinds.contains k = true then _ else _) = _
    rw [if_neg]
    · rfl
    · intro z
      have h1 := leaf_kind o
      rw [node_kind z] at h1
      cases h1
  | _, _, .node (k := k) (ps := ps) h1 h2 o a b r, rest => by
    have ih := AtAll.stack r rest
    rw [nodesOf, textOf]
    show (if nodeKinds.contains k = true then brack k ((stackT (nodesAll ps ++ rest)).take (partsN (k, .int (ps.length : Int)))) :: (stackT (nodesAll ps ++ rest)).drop (partsN (k, .int (ps.length : Int))) else _) = _
    have e : partsN (k, .int (ps.length : Int)) = (textAll ps).length := by
      rw [textAll_length]
      unfold partsN
      rw [if_pos (show nodeKinds.contains k = true from o)]
      exact Int.toNat_natCast _
    rw [if_pos (show nodeKinds.contains k = true from o), ih, e, List.take_left, List.drop_left]
theorem AtAll.stack {K : PySem.W.Frag} {H : Hp} : ∀ {vs : List V} {ps : List Pl}, AtAll K H vs ps → ∀ rest, stackT (nodesAll ps ++ rest) = textAll ps ++ stackT rest
  | _, _, .nil, rest => by rw [nodesAll, textAll]; rfl
  | _, _, .cons (p := p) (ps := ps) h r, rest => by
    rw [nodesAll, textAll, List.append_assoc, At.stack h, AtAll.stack r]
    rfl
end
end Eh
set_option Elab.async false
set_option linter.all false
set_option maxRecDepth 100000
set_option maxHeartbeats 2000000
namespace Eh
open PySem PySem.Spec PyProof.Rows L2
structure SgnV (K : PySem.W.Frag) (w : World) (mg : Str → Option Value) (p : Addr) : Prop where
  g : mg "SIGNS" = some (.ref p)
  v : ∀ k, nodeKinds.contains k = true → KDct K w p k (.str (signOf k))
theorem sgn_mk {K : PySem.W.Frag} {w : World} {mg : Str → Option Value} {p : Addr} {n : Nat} {h1 h2 h3 h4 : Int} {t1 t2 t3 t4 u1 u2 u3 u4 : Tok} (g : mg "SIGNS" = some (.ref p))
    (l : K.lookup p = some ⟨.type "dict", none, .dict #[⟨h1, .str "all" t1, .str " & " u1⟩, ⟨h2, .str "mine" t2, .str " + " u2⟩, ⟨h3, .str "some" t3, .str " | " u3⟩, ⟨h4, .str "yours" t4, .str " * " u4⟩] n, #[]⟩)
    (hh : PySem.W.KeysLit w.params [⟨h1, .str "all" t1, .str " & " u1⟩, ⟨h2, .str "mine" t2, .str " + " u2⟩, ⟨h3, .str "some" t3, .str " | " u3⟩, ⟨h4, .str "yours" t4, .str " * " u4⟩]) : SgnV K w mg p := by
  refine ⟨g, fun k hk => ?_⟩
  have i (x z : Str) (t : Tok) : (Value.str x t).isStr z = (x == z) := rfl
  have e (z : Str) : PySem.W.nsIn K p z = (match List.find? (fun x => x.key.isStr z) [(⟨h1, .str "all" t1, .str " & " u1⟩ : DictEntry), ⟨h2, .str "mine" t2, .str " + " u2⟩, ⟨h3, .str "some" t3, .str " | " u3⟩, ⟨h4, .str "yours" t4, .str " * " u4⟩] with
          | some e => some (some e.val)
          | none => if (List.any [(⟨h1, .str "all" t1, .str " & " u1⟩ : DictEntry), ⟨h2, .str "mine" t2, .str " + " u2⟩, ⟨h3, .str "some" t3, .str " | " u3⟩, ⟨h4, .str "yours" t4, .str " * " u4⟩] fun x => x.refKey) = true then none else some none) := by
    unfold PySem.W.nsIn
    rw [l]
    rfl
  rcases node_cases hk with rfl | rfl | rfl | rfl
  · exact ⟨_, n, .str " & " u1, l, hh, by rw [e]; simp only [List.find?_cons, i, show (("all" : Str) == "all") = true from by decide +kernel], ⟨u1, rfl⟩⟩
  · exact ⟨_, n, .str " | " u3, l, hh, by rw [e]; simp only [List.find?_cons, i, show (("all" : Str) == "some") = false from by decide +kernel, show (("mine" : Str) == "some") = false from by decide +kernel, show (("some" : Str) == "some") = true from by decide +kernel], ⟨u3, by rw [show signOf "some" = " | " from by decide +kernel]⟩⟩
  · exact ⟨_, n, .str " + " u2, l, hh, by rw [e]; simp only [List.find?_cons, i, show (("all" : Str) == "mine") = false from by decide +kernel, show (("mine" : Str) == "mine") = true from by decide +kernel], ⟨u2, by rw [show signOf "mine" = " + " from by decide +kernel]⟩⟩
  · exact ⟨_, n, .str " * " u4, l, hh, by rw [e]; simp only [List.find?_cons, i, show (("all" : Str) == "yours") = false from by decide +kernel, show (("mine" : Str) == "yours") = false from by decide +kernel, show (("some" : Str) == "yours") = false from by decide +kernel, show (("yours" : Str) == "yours") = true from by decide +kernel], ⟨u4, by rw [show signOf "yours" = " * " from by decide +kernel]⟩⟩
def sumL (ts : List Str) : Nat := (ts.map (·.length)).sum
theorem sumL_cons (a : Str) (ts : List Str) : sumL (a :: ts) = a.length + sumL ts := by
  unfold sumL
  rw [List.map_cons, List.sum_cons]
theorem sumL_take_drop (ts : List Str) (n : Nat) : sumL (ts.take n) + sumL (ts.drop n) = sumL ts := by
  unfold sumL
  rw [← List.sum_append, ← List.map_append, List.take_append_drop]
theorem sapp (a b : Str) : (a ++ b).length = a.length + b.length := Str.length_append a b
theorem join_len (y : Str) : ∀ ts : List Str, (Str.join y ts).length ≤ sumL ts + ts.length * y.length
  | [] => Nat.zero_le _
  | [x] => by
    show x.length ≤ _
    rw [sumL_cons]
    omega
  | x :: z :: r => by
    have ih := join_len y (z :: r)
    show (x ++ y ++ Str.join y (z :: r)).length ≤ _
    rw [sapp, sapp, sumL_cons, List.length_cons, Nat.succ_mul]
    omega
theorem sign_len (k : Str) : (signOf k).length = 3 := by
  unfold signOf
  split
  · decide +kernel
  · split
    · decide +kernel
    · split <;> decide +kernel
theorem brack_len (k : Str) (ts : List Str) : (brack k ts).length ≤ sumL ts + ts.length * 3 + 2 := by
  have h := join_len (signOf k) ts
  rw [sign_len] at h
  unfold brack
  rw [TL.join_eq]
  split <;> rw [sapp, sapp] <;> (show 1 + _ + 1 ≤ _) <;> omega
theorem stack_len : ∀ {ns : List (Str × V)} {l : Nat}, dueGo l ns = true → (stackT ns).length = l
  | [], l, h => by
    have h : decide (l = 0) = true := h
    exact (of_decide_eq_true h).symm
  | n :: ns, 0, h => by cases h
  | n :: ns, l + 1, h => by
    have ih := stack_len (show dueGo (l + partsN n) ns = true from h)
    show (if nodeKinds.contains n.1 = true then _ else _ : List Str).length = _
    by_cases c : nodeKinds.contains n.1 = true
    · rw [if_pos c, List.length_cons, List.length_drop, ih]
      omega
    · rw [if_neg c, List.length_cons, ih]
      unfold partsN
      rw [if_neg c]
theorem due_drop : ∀ {ns : List (Str × V)} {l : Nat}, dueGo l ns = true → ∀ i, ∃ m, dueGo m (ns.drop i) = true
  | ns, l, h, 0 => ⟨l, h⟩
  | [], l, h, i + 1 => ⟨0, rfl⟩
  | n :: ns, 0, h, i + 1 => by cases h
  | n :: ns, l + 1, h, i + 1 => due_drop (show dueGo (l + partsN n) ns = true from h) i
theorem plain_len {k : Str} {t : V} (h : nodeAB k t = true) (c : nodeKinds.contains k = false) : (plainT k t).length ≤ 9 := by
  unfold nodeAB at h
  by_cases h1 : factKinds.contains k = true
  · rw [if_pos h1] at h
    cases t with
    | str z =>
      have hz : factS z = true := h
      have h8 : z.length ≤ 8 := by
        unfold factS at hz
        simp only [Bool.and_eq_true] at hz
        exact (of_decide_eq_true hz.1.1.1).2
      show (if k = "fact" then z else "!" ++ z).length ≤ 9
      split
      · omega
      · rw [sapp]
        show 1 + _ ≤ 9
        omega
    | _ => cases h
  · rw [if_neg h1] at h
    by_cases h2 : sureKinds.contains k = true
    · rw [if_pos h2] at h
      have hk : k.length ≤ 9 := by
        unfold sureKinds at h2
        rw [List.contains_iff_mem] at h2
        simp only [List.mem_cons, List.not_mem_nil, or_false] at h2
        rcases h2 with rfl | rfl <;> decide +kernel
      cases t with
      | int i => exact hk
      | _ => cases h
    · rw [if_neg h2, c] at h
      cases h
theorem stack_sum : ∀ {ns : List (Str × V)}, GoodN ns → sumL (stackT ns) ≤ 16 * ns.length
  | [], _ => Nat.le_refl _
  | n :: ns, g => by
    have ih := stack_sum (fun x hx => g x (List.mem_cons_of_mem _ hx) : GoodN ns)
    have hn := g n List.mem_cons_self
    show sumL (if nodeKinds.contains n.1 = true then _ else _) ≤ _
    rw [List.length_cons]
    by_cases c : nodeKinds.contains n.1 = true
    · rw [if_pos c, sumL_cons]
      have b := brack_len n.1 ((stackT ns).take (partsN n))
      have e := sumL_take_drop (stackT ns) (partsN n)
      obtain ⟨i, et, h2, h4⟩ := good_int hn c
      have hp : ((stackT ns).take (partsN n)).length ≤ 4 := by
        rw [List.length_take]
        unfold partsN
        rw [if_pos c, et]
        show min i.toNat _ ≤ 4
        omega
      omega
    · rw [if_neg c, sumL_cons]
      have := plain_len hn (by cases e : nodeKinds.contains n.1 with | false => rfl | true => exact absurd e c)
      omega
section
variable {P : Program} {w : World} {K : PySem.W.Frag} {mg : Str → Option Value} {base : Heap}
def spPlainT : Sp := fun vs H Q _ => ∃ k t, vs = [.str k, t] ∧ nodeAB k t = true ∧ nodeKinds.contains k = false ∧ Q (.str (plainT k t)) H
theorem ok_plain_text {f : Addr} {fd : FuncData} (F : Fun K "plain_text" "plain_text" s_plain_text f fd) (T : Txt mg) : FnOk P w K mg base CX0 1 f fd ["kind", "told"] spPlainT := by
  refine F.ok sc_plain_text (fun vs H Q E h => ?_) (fun cdv A outer s H vs Q E hr h => ?_)
  · obtain ⟨k, t, rfl, _⟩ := h
    rfl
  · obtain ⟨k, t, rfl, hg, hc, q⟩ := h
    refine ⟨_, (pss_cons (ps_if (pt_cmpR op_eq (pv 0) pe_str (nomark _))
  (pss_one (ps_ret (pv 1)))
  pss_nil)
  (pss_one (ps_ret (pe_ifExp (pt_cmpR op_eq (pv 0) pe_str (nomark _)) (pe_op op_add_str pe_str (pv 1)) (pv 0))))), ?_⟩
    have hl := plain_len hg hc
    unfold nodeAB at hg
    by_cases h1 : factKinds.contains k = true
    · rw [if_pos h1] at hg
      cases t with
      | str z =>
        unfold factKinds at h1
        rw [List.contains_iff_mem] at h1
        simp only [List.mem_cons, List.not_mem_nil, or_false] at h1
        rcases h1 with rfl | rfl
        · refine ⟨_, rfl, rfl, _, rfl, iteT' (by decide +kernel) ⟨_, rfl, ?_⟩⟩
          have e : plainT "fact" (.str z) = z := by
            show (if ("fact" : Str) = "fact" then z else "!" ++ z) = z
            rw [if_pos rfl]
          rw [e] at q
          exact q
        · refine ⟨_, rfl, rfl, _, rfl, iteF' (by decide +kernel) ?_⟩
          refine ⟨_, rfl, rfl, _, rfl, iteT' (by decide +kernel) ?_⟩
          have e : plainT "not" (.str z) = "!" ++ z := by
            show (if ("not" : Str) = "fact" then z else "!" ++ z) = _
            rw [if_neg (by decide +kernel)]
          rw [e] at q hl
          rw [sapp] at hl
          refine ⟨_, rfl, "!", z, rfl, rfl, Nat.le_of_lt (small (by omega)), q⟩
      | _ => cases hg
    · rw [if_neg h1] at hg
      by_cases h2 : sureKinds.contains k = true
      · rw [if_pos h2] at hg
        cases t with
        | int i =>
          have e : plainT k (.int i) = k := rfl
          rw [e] at q
          unfold sureKinds at h2
          rw [List.contains_iff_mem] at h2
          simp only [List.mem_cons, List.not_mem_nil, or_false] at h2
          rcases h2 with rfl | rfl
          · exact ⟨_, rfl, rfl, _, rfl, iteF' (by decide +kernel) ⟨_, rfl, rfl, _, rfl, iteF' (by decide +kernel) ⟨_, rfl, q⟩⟩⟩
          · exact ⟨_, rfl, rfl, _, rfl, iteF' (by decide +kernel) ⟨_, rfl, rfl, _, rfl, iteF' (by decide +kernel) ⟨_, rfl, q⟩⟩⟩
        | _ => cases hg
      · rw [if_neg h2, hc] at hg
        cases hg
end
end Eh
set_option Elab.async false
set_option linter.all false
set_option maxRecDepth 100000
set_option maxHeartbeats 2000000
namespace Eh
open PySem PySem.Spec PyProof.Rows L2
theorem revtop {s : Str} {r : List Str} : ((s :: r).reverse).map V.str = r.reverse.map V.str ++ [V.str s] := by
  rw [List.reverse_cons, List.map_append]
  rfl
theorem stack_le : ∀ ns : List (Str × V), (stackT ns).length ≤ ns.length
  | [] => Nat.le_refl _
  | n :: ns => by
    have ih := stack_le ns
    show (if nodeKinds.contains n.1 = true then _ else _ : List Str).length ≤ _
    split
    · rw [List.length_cons, List.length_drop, List.length_cons]
      omega
    · rw [List.length_cons, List.length_cons]
      omega
section
variable {P : Program} {w : World} {K : PySem.W.Frag} {mg : Str → Option Value} {base : Heap}
theorem ixKd {X : Cx} (h : X.K = K) (hw : X.w = w) : IxR X (rIxD K w) := by
  subst h hw
  exact ix_kdict
def spBrack (K : PySem.W.Frag) : Sp := fun vs H Q _ => ∃ k p ts, vs = [.str k, .ref p] ∧ nodeKinds.contains k = true ∧ SqL K H p (ts.map V.str) ∧ sumL ts + ts.length * 3 ≤ 900000 ∧ ∀ H', Same H H' → Q (.str (brack k ts)) H'
theorem ok_bracketed {p0 f : Addr} {fd : FuncData} (F : Fun K "bracketed" "bracketed" s_bracketed f fd) (T : Txt mg) (S : SgnV K w mg p0) : FnOk P w K mg base CX0 1 f fd ["kind", "parts"] (spBrack K) := by
  refine F.ok sc_bracketed (fun vs H Q E h => ?_) (fun cdv A outer s H vs Q E hr h => ?_)
  · obtain ⟨k, p, ts, rfl, _⟩ := h
    rfl
  · obtain ⟨k, p, ts, rfl, hk, hS, hl, q⟩ := h
    refine ⟨_, (pss_cons (ps_set (i := 2) sc_bracketed.nd rfl (.inl rfl) (pe_join (pe_ix (ixKd (K := K) (w := w) rfl rfl) (pe_glob (v := .ref p0) rfl S.g rfl) (pv 0) (fun _ _ => rfl)) (pv 1)))
  (pss_one (ps_ret (pe_ifExp (pt_cmpR (inQ (K := K) rfl) (pv 0) (pe_tup (pa_cons pe_str (pa_cons pe_str pa_nil))) (by rfl)) (pe_op op_add_str (pe_op op_add_str pe_str (pv 2)) pe_str) (pe_op op_add_str (pe_op op_add_str pe_str (pv 2)) pe_str))))), ?_⟩
    have h3 := sign_len k
    have hj := join_len (signOf k) ts
    rw [h3] at hj
    have hj2 : (Txt.join (signOf k) ts).length ≤ 900000 := by rw [TL.join_eq]; omega
    refine ⟨_, rfl, p0, k, _, rfl, rfl, S.v k hk, ⟨_, rfl⟩, _, rfl, signOf k, p, ts, rfl, rfl, .inl hS, ?_, ?_⟩
    · rw [h3]
      have : (ts.map (·.length)).sum = sumL ts := rfl
      omega
    refine ⟨_, rfl, lenOk 2, fun t nt => ⟨t, choiceKinds.map V.str, rfl, .inr (SqT.of upd_same), rfl, flat_strs _, _, rfl, ?_⟩⟩
    have s1 : Same H (upd H t (.tup (choiceKinds.map V.str))) := same_new nt
    have q' := q _ s1
    unfold brack at q'
    cases ec : choiceKinds.contains k with
    | true =>
      rw [if_pos ec] at q'
      refine iteT' ((inV_strs k choiceKinds).trans ec) ⟨_, rfl, "[", _, rfl, rfl, Nat.le_of_lt (small (by show 1 + _ < _; omega)), _, "]", rfl, rfl, Nat.le_of_lt (small (by rw [sapp]; show 1 + _ + 1 < _; omega)), q'⟩
    | false =>
      rw [if_neg (by rw [ec]; exact Bool.false_ne_true)] at q'
      refine iteF' ((inV_strs k choiceKinds).trans ec) ⟨_, rfl, "(", _, rfl, rfl, Nat.le_of_lt (small (by show 1 + _ < _; omega)), _, ")", rfl, rfl, Nat.le_of_lt (small (by rw [sapp]; show 1 + _ + 1 < _; omega)), q'⟩
def spText (K : PySem.W.Frag) : Sp := fun vs H Q _ => ∃ p xs ns t, vs = [.ref p] ∧ SqT K H p xs ∧ NdsAt K H xs ns ∧ GoodN ns ∧ dueGo 1 ns = true ∧ xs.length < 1000 ∧ stackT ns = [t] ∧ ∀ H', Same H H' → Q (.str t) H'
theorem ok_text_of {p0 fB fP f : Addr} {fdB fdP fd : FuncData} (F : Fun K "text_of" "text_of" s_text_of f fd) (T : Txt mg) (S : SignsAt K w mg p0) (C_bracketed : Cal P w K mg base 1 "bracketed" fB fdB ["kind", "parts"] (spBrack K)) (C_plain_text : Cal P w K mg base 1 "plain_text" fP fdP ["kind", "told"] spPlainT) :
    FnOk P w K mg base CX0 2 f fd ["nodes"] (spText K) := by
  refine F.ok sc_text_of (fun vs H Q E h => ?_) (fun cdv A outer s H vs Q E hr h => ?_)
  · obtain ⟨p, xs, ns, t, rfl, _⟩ := h
    rfl
  · obtain ⟨p, xs, ns, t, rfl, hS, hN, hg, hd, hlen, hst, q⟩ := h
    refine ⟨_, (pss_cons (ps_set (i := 1) sc_text_of.nd rfl (.inl rfl) (pe_lst pa_nil))
  (pss_cons (ps_for PassesOwn.never (by rfl) (pi_reversed (by rfl) T.reversed_ (pa_cons (pe_callTy (lstOf (K := K) rfl) (by rfl) T.list_ (by decide +kernel) (pa_cons (pv 0) pa_nil)) pa_nil)) (pg_tup (by rfl) (pgs_cons (pg_name (i := 2) sc_text_of.nd rfl (.inl rfl)) (pgs_cons (pg_name (i := 3) sc_text_of.nd rfl (.inl rfl)) pgs_nil)))
  (pss_one (ps_if (pt_cmpR (inKd S rfl rfl) (pv 2) (pe_glob (v := .ref p0) rfl S.g rfl) (by rfl))
  (pss_cons (ps_set (i := 4) sc_text_of.nd rfl (.inl rfl) (pe_lst pa_nil))
  (pss_cons (ps_for PassesOwn.never (by rfl) (pi_range1 (by rfl) T.range_ (pa_cons (pv 3) pa_nil)) (pg_name (i := 5) sc_text_of.nd rfl (.inl rfl))
  (pss_one (ps_expr (bmK (K := K) rfl (pe_bm PySem.F.plainAttrs_list PySem.F.slot_list_append PySem.F.type_list_append mt_append (pv 4) (pa_cons (bm0K (K := K) rfl (pe_bm0 PySem.F.plainAttrs_list PySem.F.slot_list_pop PySem.F.type_list_pop mt_pop (pv 1))) pa_nil))))))
  (pss_one (ps_expr (bmK (K := K) rfl (pe_bm PySem.F.plainAttrs_list PySem.F.slot_list_append PySem.F.type_list_append mt_append (pv 1) (pa_cons (pe_call C_bracketed.G (hr.mono (by omega)) (by rfl) C_bracketed.m C_bracketed.k C_bracketed.b .nil pass0 (pa_cons (pv 2) (pa_cons (pv 4) pa_nil))) pa_nil)))))))
  (pss_one (ps_expr (bmK (K := K) rfl (pe_bm PySem.F.plainAttrs_list PySem.F.slot_list_append PySem.F.type_list_append mt_append (pv 1) (pa_cons (pe_call C_plain_text.G (hr.mono (by omega)) (by rfl) C_plain_text.m C_plain_text.k C_plain_text.b .nil pass0 (pa_cons (pv 2) (pa_cons (pv 3) pa_nil))) pa_nil))))))))
  (pss_one (ps_ret (pe_ix (ixL (K := K) rfl) (pv 1) pe_int (fun _ _ => rfl)))))), ?_⟩
    have hxn := hN.length
    refine ⟨Nat.zero_le _, fun l nl => ?_⟩
    have s1 : Same H (upd H l (.lst [])) := same_new nl
    refine ⟨_, rfl, p, xs, rfl, .inr ((stk s1).seq hS), fun lq nq => ?_⟩
    have s2 := s1.trans (same_new (o := .lst xs) nq)
    have nH : H l = none := nl
    have nqH : H lq = none := s1.free nq
    have nlq : l ≠ lq := fun e => by rw [← e, upd_same] at nq; cases nq
    have keep : ∀ {a : Addr} {H' : Hp} {o : HO}, H a = none → Same H H' → Same H (upd H' a o) := fun {a H' o} na s b u eb => by
      rw [upd_ne (ne_of_none eb na)]
      exact s b u eb
    refine ⟨lq, xs, rfl, SqL.of upd_same, RT.for_Itv (K := K) (a := lq) (xs := xs) (fun i σ H2 => ∃ (x2 x3 x4 x5 : Option V), σ = [some (.ref p), some (.ref l), x2, x3, x4, x5] ∧ Same H H2 ∧ H2 lq = some (.lst xs) ∧ H2 l = some (.lst ((stackT (ns.drop (xs.length - i))).reverse.map V.str))) ?_ (fun i σ H2 h => ?_) ?_ ?_⟩
    · refine ⟨none, none, none, none, rfl, s2, upd_same, ?_⟩
      rw [upd_ne nlq, upd_same, Nat.sub_zero, hxn, List.drop_length]
      rfl
    · obtain ⟨x2, x3, x4, x5, _, s3, e3, _⟩ := h
      exact SqL.of e3
    · rintro i x σ H2 hi hx ⟨x2, x3, x4, x5, rfl, s3, e3, e4⟩
      obtain ⟨a, k, t2, rfl, hk, ha⟩ := hN.get hx
      have hgn := hg _ (List.mem_of_getElem? hk)
      have dr := drop_at hk
      rw [show xs.length - 1 - i + 1 = xs.length - i from by omega] at dr
      obtain ⟨mm, hmm⟩ := due_drop hd (xs.length - 1 - i)
      rw [show xs.length - (i + 1) = xs.length - 1 - i from by omega]
      rw [dr] at hmm ⊢
      generalize hrest : ns.drop (xs.length - i) = rest at hmm e4 ⊢
      have hrl : rest.length ≤ ns.length := by rw [← hrest, List.length_drop]; omega
      have hgr : GoodN rest := fun y hy => hg y (by rw [← hrest] at hy; exact List.mem_of_mem_drop hy)
      have hsum := stack_sum hgr
      refine ⟨a, _, rfl, (stk s3).seq ha, rfl, _, _, rfl, _, _, rfl, rfl, ?_⟩
      refine ⟨_, rfl, k, rfl, rfl, _, rfl, ?_⟩
      cases ek : nodeKinds.contains k with
      | false =>
        refine iteF ?_
        have hsl : (stackT rest).length < 1000 := by
          have := stack_le rest
          omega
        refine ⟨_, rfl, .inl ⟨rfl, _, SqL.of e4⟩, _, rfl, _, rfl, k, t2, rfl, hgn, ek, ?_⟩
        refine ⟨l, _, .str (plainT k t2), rfl, rfl, e4, small (by rw [List.length_map, List.length_reverse]; omega), ?_⟩
        refine ⟨_, _, _, _, rfl, keep nH s3, by rw [upd_ne nlq.symm]; exact e3, ?_⟩
        rw [upd_same]
        show some (HO.lst _) = some (HO.lst ((if nodeKinds.contains k = true then _ else _ : List Str).reverse.map V.str))
        rw [if_neg (by rw [ek]; exact Bool.false_ne_true), revtop]
      | true =>
        refine iteT ?_
        obtain ⟨ti, rfl, ht2, ht4⟩ := good_int hgn ek
        have hp : partsN (k, .int ti) = ti.toNat := by
          unfold partsN
          rw [if_pos ek]
          rfl
        have hS4 : ti.toNat ≤ (stackT rest).length := by
          cases mm with
          | zero => cases hmm
          | succ l' =>
            have := stack_len (show dueGo (l' + partsN (k, .int ti)) rest = true from hmm)
            rw [hp] at this
            omega
        have hle := stack_le rest
        have est : stackT ((k, .int ti) :: rest) = brack k ((stackT rest).take ti.toNat) :: (stackT rest).drop ti.toNat := by
          show (if nodeKinds.contains k = true then brack k ((stackT rest).take (partsN (k, .int ti))) :: (stackT rest).drop (partsN (k, .int ti)) else _) = _
          rw [if_pos ek, hp]
        rw [est]
        have hsum2 := sumL_take_drop (stackT rest) ti.toNat
        generalize stackT rest = S0 at e4 hS4 hle hsum hsum2 ⊢
        refine ⟨Nat.zero_le _, fun lp np => ?_⟩
        have npH : H lp = none := s3.free np
        have nlp : l ≠ lp := ne_of_none e4 np
        have nqp : lq ≠ lp := ne_of_none e3 np
        refine ⟨_, rfl, ti, rfl, by omega, by omega, ?_⟩
        refine for_range (lo := 0) (n := ti.toNat) (fun j σ H3 => (∃ y5 : Option V, σ = [some (.ref p), some (.ref l), some (.str k), some (.int ti), some (.ref lp), y5]) ∧ Same H H3 ∧ H3 lq = some (.lst xs) ∧ H3 l = some (.lst ((S0.drop j).reverse.map V.str)) ∧ H3 lp = some (.lst ((S0.take j).map V.str))) ?_ ?_ ?_
        · refine ⟨⟨_, rfl⟩, s3.trans (same_new np), by rw [upd_ne nqp]; exact e3, by rw [upd_ne nlp]; exact e4, upd_same⟩
        · rintro j σ H3 hj ⟨⟨y5, rfl⟩, u3, uq, ul, up⟩
          have hjl : j < S0.length := by omega
          have djs := drop_at (List.getElem?_eq_getElem hjl)
          rw [djs, revtop] at ul
          refine ⟨_, rfl, .inl ⟨rfl, _, SqL.of up⟩, _, rfl, .inl ⟨rfl, _, SqL.of ul⟩, l, _, .str S0[j], rfl, rfl, ul, ?_, ?_⟩
          · rw [List.length_append, List.length_singleton, Nat.add_sub_cancel]
            exact List.getElem?_concat_length
          rw [List.dropLast_concat]
          have up2 : (upd H3 l (.lst ((S0.drop (j + 1)).reverse.map V.str))) lp = some (.lst ((S0.take j).map V.str)) := by rw [upd_ne nlp.symm]; exact up
          refine ⟨lp, _, .str S0[j], rfl, rfl, up2, small (by rw [List.length_map, List.length_take]; omega), ?_⟩
          refine ⟨⟨_, rfl⟩, keep npH (keep nH u3), by rw [upd_ne nqp, upd_ne nlq.symm]; exact uq, by rw [upd_ne nlp]; exact upd_same, ?_⟩
          rw [upd_same, take_succ' (List.getElem?_eq_getElem hjl), List.map_append]
          rfl
        · rintro σ H3 ⟨⟨y5, rfl⟩, u3, uq, ul, up⟩
          refine ⟨_, rfl, .inl ⟨rfl, _, SqL.of ul⟩, _, rfl, _, rfl, k, lp, S0.take ti.toNat, rfl, ek, SqL.of up, ?_, fun H5 s5 => ?_⟩
          · rw [List.length_take]
            omega
          refine ⟨l, _, .str (brack k (S0.take ti.toNat)), rfl, rfl, s5 _ _ ul, small (by rw [List.length_map, List.length_reverse, List.length_drop]; omega), ?_⟩
          refine ⟨_, _, _, _, rfl, keep nH (u3.trans s5), by rw [upd_ne nlq.symm]; exact s5 _ _ uq, ?_⟩
          rw [upd_same, revtop]
    · rintro σ H2 ⟨x2, x3, x4, x5, rfl, s3, e3, e4⟩
      rw [Nat.sub_self, List.drop_zero, hst] at e4
      exact ⟨_, rfl, l, _, 0, .str t, rfl, rfl, SqL.of e4, rfl, q H2 s3⟩
end
end Eh
set_option Elab.async false
set_option linter.all false
set_option maxRecDepth 100000
set_option maxHeartbeats 2000000
namespace Eh
open PySem PySem.Spec PyProof.Rows L2
def kS (z : Str) : Key := .inr z
end Eh
set_option Elab.async false
set_option linter.all false
set_option maxRecDepth 100000
set_option maxHeartbeats 2000000
namespace Eh
open PySem PySem.Spec PyProof.Rows L2
def toldD : V → PyData
  | .str z => .str z
  | .int i => .int i
  | _ => .none
def nodeD (n : Str × V) : PyData := .tuple [.str n.1, toldD n.2]
def nodesD (ns : List (Str × V)) : PyData := .tuple (ns.map nodeD)
/-- a node of a drawn promise -/
def NOk (n : Str × V) : Prop := nodeAB n.1 n.2 = true ∧ ∀ z, n.2 = .str z → z ∈ uni6
theorem nok_of {ns : List (Str × V)} (g : GoodN ns) (w : InW uni6 ns) : ∀ n ∈ ns, NOk n := fun n hn => ⟨g n hn, fun z e => w n.1 z (by rw [← e]; exact hn)⟩
theorem kind_lay {k : Str} {t : V} (h : nodeAB k t = true) : PyData.canLay0 (.str k) = true := by
  unfold nodeAB at h
  by_cases h1 : factKinds.contains k = true
  · unfold factKinds at h1
    rw [List.contains_iff_mem] at h1
    simp only [List.mem_cons, List.not_mem_nil, or_false] at h1
    rcases h1 with rfl | rfl <;> decide +kernel
  · rw [if_neg h1] at h
    by_cases h2 : sureKinds.contains k = true
    · unfold sureKinds at h2
      rw [List.contains_iff_mem] at h2
      simp only [List.mem_cons, List.not_mem_nil, or_false] at h2
      rcases h2 with rfl | rfl <;> decide +kernel
    · rw [if_neg h2, Bool.and_eq_true] at h
      rcases node_cases h.1 with rfl | rfl | rfl | rfl <;> decide +kernel
theorem hu64e {A : Around} {k : Nat} (hr : Room k A) : A.units + 64 < cLine := by
  have := hr.un
  omega
section
variable {P : Program} {w : World} {K : PySem.W.Frag} {mg : Str → Option Value} {base : Heap}
/-- a promise as the laws have it: with good nodes -/
def PrOk (K : PySem.W.Frag) (C : Addr) (H : Hp) (a : Addr) (ns : List (Str × V)) : Prop := ∃ dx p xs, H a = some (.ins C dx [(("_nodes" : Str), .ref p)]) ∧ SqT K H p xs ∧ NdsAt K H xs ns ∧ ∀ n ∈ ns, NOk n
structure IsC (K : PySem.W.Frag) (C : Addr) : Prop where
  cls : PySem.W.findIn K (.ref C) "__class__" = some (some (.builtin "object.__class__"))
  sp : PySem.W.specialIn K (.builtin "object.__class__") "__get__" = some (some (.builtin "getset_descriptor.__get__"))
  tk : PySem.W.takesIn K (.builtin "object.__class__") = some true
  mro : PySem.W.mroIn K C (.type "object") = some true
  self : PySem.W.kitOne K (.ref C) (.ref C) = some true
end
end Eh
set_option Elab.async false
set_option linter.all false
set_option maxRecDepth 100000
set_option maxHeartbeats 2000000
namespace Eh
open PySem PySem.Spec PyProof.Rows L2
section
variable {P : Program} {w : World} {K : PySem.W.Frag} {mg : Str → Option Value} {base : Heap}
def spNodesP (K : PySem.W.Frag) (C : Addr) : Sp := fun vs H Q _ => ∃ a dx fs p, vs = [.ref a] ∧ H a = some (.ins C dx fs) ∧ fs.lookup ("_nodes" : Str) = some (.ref p) ∧ Q (.ref p) H
theorem ok_nodesP {C fI fL f : Addr} {fd : FuncData} (F : Fun K "nodes" "Promise.nodes" s_Promise_nodes f fd) (PC : PromC K mg C fI fL) : FnOk P w K mg base CX0 1 f fd ["self"] (spNodesP K C) := by
  refine F.ok sc_Promise_nodes (fun vs H Q E h => ?_) (fun cdv A outer s H vs Q E hr h => ?_)
  · obtain ⟨a, dx, fs, p, rfl, _⟩ := h
    rfl
  · obtain ⟨a, dx, fs, p, rfl, ha, hl, q⟩ := h
    exact ⟨_, (pss_one (ps_ret (pe_fld (pv 0) rfl))), _, rfl, a, C, dx, fs, .ref p, rfl, ha, PC.cl, PC.nn, hl, q⟩
def spTextP (K : PySem.W.Frag) (C : Addr) : Sp := fun vs H Q _ => ∃ a ns t, vs = [.ref a] ∧ PrOk K C H a ns ∧ dueGo 1 ns = true ∧ ns.length < 1000 ∧ stackT ns = [t] ∧ ∀ H', Same H H' → Q (.str t) H'
theorem ok_strP {C fI fL fT f : Addr} {fdT fd : FuncData} (F : Fun K "__str__" "Promise.__str__" s_Promise___str__ f fd) (T : Txt mg) (PC : PromC K mg C fI fL) (C_text_of : Cal P w K mg base 2 "text_of" fT fdT ["nodes"] (spText K)) : FnOk P w K mg base CX0 3 f fd ["self"] (spTextP K C) := by
  refine F.ok sc_Promise___str__ (fun vs H Q E h => ?_) (fun cdv A outer s H vs Q E hr h => ?_)
  · obtain ⟨a, ns, t, rfl, _⟩ := h
    rfl
  · obtain ⟨a, ns, t, rfl, ⟨dx, p, xs, ha, hs, hN, ho⟩, hd, hl, ht, q⟩ := h
    refine ⟨_, (pss_one (ps_ret (pe_callTy SkE.call_str_str (by rfl) T.str_ (by decide +kernel) (pa_cons (pe_call C_text_of.G hr (by rfl) C_text_of.m C_text_of.k C_text_of.b .nil pass0 (pa_cons (pe_fld (pv 0) rfl) pa_nil)) pa_nil)))), ?_⟩
    exact ⟨_, rfl, a, C, dx, _, .ref p, rfl, ha, PC.cl, PC.nn, rfl, p, xs, ns, t, rfl, hs, hN, fun n hn => (ho n hn).1, hd, by rw [hN.length]; exact hl, ht, fun H' s' => ⟨t, rfl, q H' s'⟩⟩
end
end Eh
set_option Elab.async false
set_option linter.all false
set_option maxRecDepth 100000
set_option maxHeartbeats 2000000
namespace Eh
open PySem PySem.Spec PyProof.Rows L2
mutual
/-- a tree in which each node is of a kind with parts, and each leaf is not -/
def plOk : Pl → Bool
  | .leaf k _ => !nodeKinds.contains k
  | .node k ps => nodeKinds.contains k && plsOk ps
def plsOk : List Pl → Bool
  | [] => true
  | p :: ps => plOk p && plsOk ps
end
mutual
theorem At.plOk {K : PySem.W.Frag} {H : Hp} : ∀ {v : V} {p : Pl}, At K H v p → plOk p = true
  | _, _, .leaf (k := k) h o => by
    rw [Eh.plOk]
    cases e : nodeKinds.contains k with
    | false => rfl
    | true =>
      have h1 := leaf_kind o
      rw [node_kind e] at h1
      cases h1
  | _, _, .node (k := k) h1 h2 o a b r => by
    rw [Eh.plOk, show nodeKinds.contains k = true from o, AtAll.plsOk r]
    rfl
theorem AtAll.plsOk {K : PySem.W.Frag} {H : Hp} : ∀ {vs : List V} {ps : List Pl}, AtAll K H vs ps → plsOk ps = true
  | _, _, .nil => by rw [Eh.plsOk]
  | _, _, .cons h r => by
    rw [Eh.plsOk, At.plOk h, AtAll.plsOk r]
    rfl
end
theorem plsOk_app : ∀ (ps qs : List Pl), plsOk (ps ++ qs) = (plsOk ps && plsOk qs)
  | [], qs => by rw [List.nil_append, plsOk, Bool.true_and]
  | p :: ps, qs => by rw [List.cons_append, plsOk, plsOk, plsOk_app ps qs, Bool.and_assoc]
section
variable {P : Program} {w : World} {K : PySem.W.Frag} {mg : Str → Option Value} {base : Heap}
def spEnd (K : PySem.W.Frag) : Sp := fun vs H Q _ => ∃ p xs ns st pl rest, vs = [.ref p, .int (st : Nat)] ∧ SqT K H p xs ∧ NdsAt K H xs ns ∧ xs.length < 1000 ∧ ns.drop st = nodesOf pl ++ rest ∧ plOk pl = true ∧ Q (.int ((st + (nodesOf pl).length : Nat) : Int)) H
theorem ok_end_of {p0 f : Addr} {fd : FuncData} (F : Fun K "end_of" "end_of" s_end_of f fd) (T : Txt mg) (S : SignsAt K w mg p0) : FnOk P w K mg base CX0 1 f fd ["nodes", "start"] (spEnd K) := by
  refine F.ok sc_end_of (fun vs H Q E h => ?_) (fun cdv A outer s H vs Q E hr h => ?_)
  · obtain ⟨p, xs, ns, st, pl, rest, rfl, _⟩ := h
    rfl
  · obtain ⟨p, xs, ns, st, pl, rest, rfl, hS, hN, hlen, hd, hok, q⟩ := h
    refine ⟨_, (pss_cons (ps_set (i := 2) sc_end_of.nd rfl (.inl rfl) pe_int)
  (pss_cons (ps_set (i := 3) sc_end_of.nd rfl (.inl rfl) (pv 1))
  (pss_cons (ps_while PassesOwn.never (pt_cmpR op_gt (pv 2) pe_int (nomark _))
  (pss_cons (ps_asg (pe_ix (ixT (K := K) rfl) (pv 0) (pv 3) (fun _ _ => rfl)) (pg_tup (by rfl) (pgs_cons (pg_name (i := 4) sc_end_of.nd rfl (.inl rfl)) (pgs_cons (pg_name (i := 5) sc_end_of.nd rfl (.inl rfl)) pgs_nil))))
  (pss_cons (ps_set (i := 2) sc_end_of.nd rfl (.inl rfl) (pe_op op_add (pe_op op_sub (pv 2) pe_int) (pe_ifExp (pt_cmpR (inKd S rfl rfl) (pv 4) (pe_glob (v := .ref p0) rfl S.g rfl) (by rfl)) (pv 5) pe_int)))
  (pss_one (ps_set (i := 3) sc_end_of.nd rfl (.inl rfl) (pe_op op_add (pv 3) pe_int))))))
  (pss_one (ps_ret (pv 3)))))), ?_⟩
    have hxn := hN.length
    refine ⟨_, rfl, ?_⟩
    refine ⟨fun m σ H2 => ∃ (qs : List Pl) (e : Nat) (x4 x5 : Option V), m = (nodesAll qs).length ∧ σ = [some (.ref p), some (.int (st : Int)), some (.int (qs.length : Int)), some (.int (e : Int)), x4, x5] ∧ H2 = H ∧ ns.drop e = nodesAll qs ++ rest ∧ plsOk qs = true ∧ e + (nodesAll qs).length = st + (nodesOf pl).length, ⟨_, [pl], st, none, none, rfl, rfl, rfl, ?_, ?_, ?_⟩, ?_⟩
    · rw [nodesAll, nodesAll, List.append_nil]
      exact hd
    · rw [plsOk, plsOk, hok]
      rfl
    · rw [nodesAll, nodesAll, List.append_nil]
    · rintro m σ H2 ⟨qs, e, x4, x5, rfl, rfl, rfl, hdq, hok2, he⟩
      refine ⟨_, rfl, _, _, rfl, rfl, _, rfl, ?_⟩
      match qs, hdq, hok2, he with
      | [], hdq, hok2, he =>
        refine iteF' (by decide) ⟨_, rfl, ?_⟩
        rw [nodesAll] at he
        have : e = st + (nodesOf pl).length := he
        rw [this]
        exact q
      | t :: qs, hdq, hok2, he =>
        refine iteT' (decide_eq_true (by rw [List.length_cons]; omega)) ⟨_, fun σ' H' h => h, ?_⟩
        rw [plsOk, Bool.and_eq_true] at hok2
        -- the next node
        obtain ⟨k, u, more, hcons, hq2, hcount⟩ : ∃ k u, ∃ more : List Pl, nodesAll (t :: qs) = (k, u) :: nodesAll more ∧ plsOk more = true ∧ (more.length : Int) = (qs.length : Int) + (if nodeKinds.contains k = true then intOf u else 0) ∧ (nodeKinds.contains k = true → ∃ i, u = .int i) := by
          cases t with
          | leaf k u =>
            have hk : nodeKinds.contains k = false := by
              have := hok2.1
              rw [plOk] at this
              simpa using this
            refine ⟨k, u, qs, by rw [nodesAll, nodesOf]; rfl, hok2.2, by rw [if_neg (by rw [hk]; exact Bool.false_ne_true)]; omega, fun h => ?_⟩
            rw [hk] at h
            cases h
          | node k ps =>
            have hk := hok2.1
            rw [plOk, Bool.and_eq_true] at hk
            refine ⟨k, .int (ps.length : Int), ps ++ qs, by rw [nodesAll, nodesOf, List.cons_append, nodesAll_append], by rw [plsOk_app, hk.2, hok2.2]; rfl, ?_, fun _ => ⟨_, rfl⟩⟩
            rw [if_pos hk.1, List.length_append]
            show ((ps.length + qs.length : Nat) : Int) = (qs.length : Int) + (ps.length : Int)
            omega
        obtain ⟨hcount, hint⟩ := hcount
        rw [hcons] at hdq he
        have hke : ns[e]? = some (k, u) := by
          have h0 : (ns.drop e)[0]? = some (k, u) := by rw [hdq]; rfl
          rw [List.getElem?_drop] at h0
          exact h0
        have hel : e < ns.length := (List.getElem?_eq_some_iff.mp hke).1
        obtain ⟨a, k', u', ex, hk', ha⟩ := hN.get (List.getElem?_eq_getElem (show e < xs.length by omega))
        rw [hke] at hk'
        cases hk'
        have hdrop : ns.drop (e + 1) = nodesAll more ++ rest := by
          have d1 := drop_at hke
          rw [hdq] at d1
          injection d1 with _ d2
          exact d2.symm
        refine ⟨_, rfl, _, rfl, p, xs, _, .ref a, rfl, rfl, hS, atI_nat (by rw [← ex]; exact List.getElem?_eq_getElem (show e < xs.length by omega)), ?_⟩
        refine ⟨a, _, rfl, ha, rfl, _, _, rfl, _, _, rfl, rfl, ?_⟩
        refine ⟨_, rfl, _, _, rfl, rfl, _, rfl, k, rfl, rfl, _, rfl, ?_⟩
        have hm : (nodesAll more).length < (nodesAll (t :: qs)).length := by rw [hcons]; exact Nat.lt_succ_self _
        cases ek : nodeKinds.contains k with
        | true =>
          obtain ⟨i, rfl⟩ := hint ek
          rw [if_pos ek] at hcount
          refine iteT ⟨_, rfl, _, _, rfl, rfl, _, rfl, _, _, rfl, rfl, ?_⟩
          refine ⟨_, hm, more, e + 1, some (.str k), some (.int i), rfl, ?_, rfl, hdrop, hq2, by rw [List.length_cons] at he; omega⟩
          have e1 : ((t :: qs).length : Int) - 1 + i = (more.length : Int) := by
            rw [List.length_cons]
            have : intOf (.int i) = i := rfl
            rw [this] at hcount
            omega
          rw [← e1]
          rfl
        | false =>
          rw [if_neg (by rw [ek]; exact Bool.false_ne_true)] at hcount
          refine iteF ⟨_, _, rfl, rfl, _, rfl, _, _, rfl, rfl, ?_⟩
          refine ⟨_, hm, more, e + 1, some (.str k), some u, rfl, ?_, rfl, hdrop, hq2, by rw [List.length_cons] at he; omega⟩
          have e1 : ((t :: qs).length : Int) - 1 + 0 = (more.length : Int) := by
            rw [List.length_cons]
            omega
          rw [← e1]
          rfl
end
end Eh
set_option Elab.async false
set_option linter.all false
set_option maxRecDepth 100000
set_option maxHeartbeats 2000000
namespace Eh
open PySem PySem.Spec PyProof.Rows L2
def partsPl : Pl → List Pl
  | .leaf _ _ => []
  | .node _ ps => ps
/-- each stands as the tuple of its nodes -/
inductive PartsAt (K : PySem.W.Frag) (H : Hp) : List V → List Pl → Prop
  | nil : PartsAt K H [] []
  | cons {a : Addr} {ys vs : List V} {p : Pl} {ps : List Pl} : SqT K H a ys → NdsAt K H ys (nodesOf p) → PartsAt K H vs ps → PartsAt K H (.ref a :: vs) (p :: ps)
theorem PartsAt.tk {K : PySem.W.Frag} {H H' : Hp} (t : Tk H H') : ∀ {vs : List V} {ps : List Pl}, PartsAt K H vs ps → PartsAt K H' vs ps
  | _, _, .nil => .nil
  | _, _, .cons h n r => .cons (t.seq h) (n.tk t) (r.tk t)
theorem PartsAt.snoc {K : PySem.W.Frag} {H : Hp} {a : Addr} {ys : List V} {p : Pl} (h : SqT K H a ys) (n : NdsAt K H ys (nodesOf p)) : ∀ {vs : List V} {ps : List Pl}, PartsAt K H vs ps → PartsAt K H (vs ++ [.ref a]) (ps ++ [p])
  | _, _, .nil => .cons h n .nil
  | _, _, .cons h' n' r => .cons h' n' (PartsAt.snoc h n r)
theorem PartsAt.length {K : PySem.W.Frag} {H : Hp} : ∀ {vs : List V} {ps : List Pl}, PartsAt K H vs ps → vs.length = ps.length
  | _, _, .nil => rfl
  | _, _, .cons _ _ r => by rw [List.length_cons, List.length_cons, r.length]
theorem NdsAt.drop {K : PySem.W.Frag} {H : Hp} : ∀ {vs : List V} {ns : List (Str × V)}, NdsAt K H vs ns → ∀ i, NdsAt K H (vs.drop i) (ns.drop i)
  | _, _, h, 0 => h
  | _, _, .nil, i + 1 => .nil
  | _, _, .cons h r, i + 1 => r.drop i
theorem NdsAt.take {K : PySem.W.Frag} {H : Hp} : ∀ {vs : List V} {ns : List (Str × V)}, NdsAt K H vs ns → ∀ i, NdsAt K H (vs.take i) (ns.take i)
  | _, _, h, 0 => .nil
  | _, _, .nil, i + 1 => .nil
  | _, _, .cons h r, i + 1 => .cons h (r.take i)
theorem cutC (xs : List V) (a b : Nat) (h : a ≤ xs.length) (h2 : b ≤ xs.length) : cutV xs (some (a : Int)) (some (b : Int)) = (xs.drop a).take (b - a) := by
  unfold cutV
  rw [HT.sIx_nat, HT.sIx_nat, Nat.min_eq_left h, Nat.min_eq_left h2]
theorem nodes_ge : ∀ ps : List Pl, ps.length ≤ (nodesAll ps).length
  | [] => Nat.zero_le _
  | p :: ps => by
    have h1 := nodesOf_pos p
    have h2 := nodes_ge ps
    rw [nodesAll, List.length_append, List.length_cons]
    omega
section
variable {P : Program} {w : World} {K : PySem.W.Frag} {mg : Str → Option Value} {base : Heap}
def spPartsOf (K : PySem.W.Frag) : Sp := fun vs H Q _ => ∃ p xs pl, vs = [.ref p] ∧ SqT K H p xs ∧ NdsAt K H xs (nodesOf pl) ∧ plOk pl = true ∧ xs.length < 1000 ∧ ∀ l us H', Same H H' → H l = none → H' l = some (.lst us) → PartsAt K H' us (partsPl pl) → Q (.ref l) H'
theorem ok_parts_of {fE f : Addr} {fdE fd : FuncData} (F : Fun K "parts_of" "parts_of" s_parts_of f fd) (T : Txt mg) (C_end_of : Cal P w K mg base 1 "end_of" fE fdE ["nodes", "start"] (spEnd K)) : FnOk P w K mg base CX0 2 f fd ["nodes"] (spPartsOf K) := by
  refine F.ok sc_parts_of (fun vs H Q E h => ?_) (fun cdv A outer s H vs Q E hr h => ?_)
  · obtain ⟨p, xs, pl, rfl, _⟩ := h
    rfl
  · obtain ⟨p, xs, pl, rfl, hS, hN, hok, hlen, q⟩ := h
    refine ⟨_, (pss_cons (ps_set (i := 1) sc_parts_of.nd rfl (.inl rfl) (pe_lst pa_nil))
  (pss_cons (ps_set (i := 2) sc_parts_of.nd rfl (.inl rfl) pe_int)
  (pss_cons (ps_while PassesOwn.never (pt_cmpR op_lt (pv 2) (pe_callB (lenQ (K := K) rfl) (by rfl) T.len_ (by decide +kernel) (pa_cons (pv 0) pa_nil)) (nomark _))
  (pss_cons (ps_set (i := 3) sc_parts_of.nd rfl (.inl rfl) (pe_call C_end_of.G hr (by rfl) C_end_of.m C_end_of.k C_end_of.b .nil pass0 (pa_cons (pv 0) (pa_cons (pv 2) pa_nil))))
  (pss_cons (ps_expr (bmK (K := K) rfl (pe_bm PySem.F.plainAttrs_list PySem.F.slot_list_append PySem.F.type_list_append mt_append (pv 1) (pa_cons (pe_slice sl_tup (pv 0) (po_some (pv 2)) (po_some (pv 3))) pa_nil))))
  (pss_one (ps_set (i := 2) sc_parts_of.nd rfl (.inl rfl) (pv 3))))))
  (pss_one (ps_ret (pv 1)))))), ?_⟩
    have hxn := hN.length
    have hpos := nodesOf_pos pl
    obtain ⟨n0, hn0, hok2⟩ : ∃ n0, nodesOf pl = n0 :: nodesAll (partsPl pl) ∧ plsOk (partsPl pl) = true := by
      cases pl with
      | leaf k t =>
        refine ⟨(k, t), ?_, ?_⟩
        · rw [nodesOf, partsPl, nodesAll]
        · rw [partsPl, plsOk]
      | node k ps =>
        refine ⟨(k, .int (ps.length : Int)), ?_, ?_⟩
        · rw [nodesOf, partsPl]
        · rw [plOk, Bool.and_eq_true] at hok
          rw [partsPl]
          exact hok.2
    have hn1 : (nodesAll (partsPl pl)).length + 1 = xs.length := by rw [hxn, hn0, List.length_cons]
    refine ⟨Nat.zero_le _, fun l nl => ?_⟩
    have nH : H l = none := nl
    have s1 : Same H (upd H l (.lst [])) := same_new nl
    refine ⟨fun m σ H2 => ∃ (d qs : List Pl) (us : List V) (x3 : Option V), m = qs.length ∧ partsPl pl = d ++ qs ∧ σ = [some (.ref p), some (.ref l), some (.int ((1 + (nodesAll d).length : Nat) : Int)), x3] ∧ Same H H2 ∧ H2 l = some (.lst us) ∧ PartsAt K H2 us d, ⟨_, [], partsPl pl, [], none, rfl, rfl, ?_, s1, upd_same, .nil⟩, ?_⟩
    · rw [nodesAll]
      rfl
    · rintro m σ H2 ⟨d, qs, us, x3, rfl, hdq, rfl, s2, e2, hp⟩
      have hall : (nodesAll (partsPl pl)).length = (nodesAll d).length + (nodesAll qs).length := by rw [hdq, nodesAll_append, List.length_append]
      refine ⟨_, rfl, _, rfl, .inl ⟨p, xs, rfl, .inr ((stk s2).seq hS), _, _, rfl, rfl, _, rfl, ?_⟩⟩
      cases qs with
      | nil =>
        rw [nodesAll] at hall
        have hall : (nodesAll (partsPl pl)).length = (nodesAll d).length := hall
        refine iteF' (decide_eq_false (by omega)) ⟨_, rfl, ?_⟩
        rw [List.append_nil] at hdq
        refine q l us H2 s2 nH e2 ?_
        rw [hdq]
        exact hp
      | cons t qs =>
        have ht := nodesOf_pos t
        have hall : (nodesAll (partsPl pl)).length = (nodesAll d).length + ((nodesOf t).length + (nodesAll qs).length) := by
          rw [hall, nodesAll, List.length_append]
        refine iteT' (decide_eq_true (by omega)) ⟨_, fun σ' H' h => h, ?_⟩
        have hokt : plOk t = true := by
          rw [hdq, plsOk_app, Bool.and_eq_true] at hok2
          have := hok2.2
          rw [plsOk, Bool.and_eq_true] at this
          exact this.1
        have hdrop : (nodesOf pl).drop (1 + (nodesAll d).length) = nodesOf t ++ nodesAll qs := by
          rw [hn0, Nat.add_comm, List.drop_succ_cons, hdq, nodesAll_append, List.drop_left, nodesAll]
        refine ⟨_, rfl, _, rfl, p, xs, nodesOf pl, 1 + (nodesAll d).length, t, nodesAll qs, rfl, (stk s2).seq hS, hN.tk (stk s2), hlen, hdrop, hokt, ?_⟩
        refine ⟨_, rfl, .inl ⟨rfl, _, SqL.of e2⟩, _, rfl, _, rfl, _, rfl, _, rfl, _, rfl, p, xs, rfl, (stk s2).seq hS, ?_, fun r nr => ?_⟩
        · intro h
          have h := h.1
          rw [HT.sIx_nat] at h
          omega
        rw [cutC xs _ _ (by omega) (by omega)]
        have s3 := s2.trans (same_new (o := .tup ((xs.drop (1 + (nodesAll d).length)).take (1 + (nodesAll d).length + (nodesOf t).length - (1 + (nodesAll d).length)))) nr)
        have e3 := same_new (o := .tup ((xs.drop (1 + (nodesAll d).length)).take (1 + (nodesAll d).length + (nodesOf t).length - (1 + (nodesAll d).length)))) nr _ _ e2
        have hul := hp.length
        have hdl : d.length ≤ (nodesAll d).length := nodes_ge d
        refine ⟨l, us, .ref r, rfl, rfl, e3, small (by omega), ?_⟩
        have kp := Tk.put (ys := us ++ [V.ref r]) e3
        refine ⟨_, rfl, _, Nat.lt_succ_self _, d ++ [t], qs, us ++ [.ref r], some (.int ((1 + (nodesAll d).length + (nodesOf t).length : Nat) : Int)), rfl, by rw [hdq, List.append_assoc]; rfl, ?_, fun b o eb => ?_, upd_same, ?_⟩
        · have e5 : (1 + (nodesAll (d ++ [t])).length : Nat) = 1 + (nodesAll d).length + (nodesOf t).length := by
            rw [nodesAll_append, nodesAll, nodesAll, List.append_nil, List.length_append]
            omega
          rw [e5]
          rfl
        · rw [upd_ne (ne_of_none eb nH)]
          exact s3 b o eb
        · refine PartsAt.snoc (kp.seq (SqT.of upd_same)) ?_ ((hp.tk (Tk.new nr)).tk kp)
          have hnd := ((hN.tk (stk s3)).tk kp).drop (1 + (nodesAll d).length)
          have htk := hnd.take (1 + (nodesAll d).length + (nodesOf t).length - (1 + (nodesAll d).length))
          rw [hdrop, Nat.add_sub_cancel_left, List.take_left] at htk
          rw [Nat.add_sub_cancel_left]
          exact htk
end
end Eh
set_option Elab.async false
set_option linter.all false
set_option maxRecDepth 100000
set_option maxHeartbeats 2000000
set_option Elab.async false
set_option linter.all false
set_option maxRecDepth 100000
set_option maxHeartbeats 2000000
namespace Eh
open PySem PySem.Spec PyProof.Rows L2
theorem PartsAt.get {K : PySem.W.Frag} {H : Hp} : ∀ {vs : List V} {ps : List Pl}, PartsAt K H vs ps → ∀ {i : Nat} {v : V}, vs[i]? = some v → ∃ a ys p, v = .ref a ∧ ps[i]? = some p ∧ SqT K H a ys ∧ NdsAt K H ys (nodesOf p)
  | _, _, .nil, i, v, h => by simp at h
  | _, _, .cons (a := a) (ys := ys) (p := p) h n r, 0, v, hv => by
    cases (show some (V.ref a) = some v from hv)
    exact ⟨a, ys, p, rfl, rfl, h, n⟩
  | _, _, .cons h n r, i + 1, v, hv => r.get (i := i) hv
end Eh
set_option Elab.async false
set_option linter.all false
set_option maxRecDepth 100000
set_option maxHeartbeats 2000000
namespace Eh
open PySem PySem.Spec PyProof.Rows L2
theorem PrOk.same {K : PySem.W.Frag} {C a : Addr} {H H' : Hp} {ns : List (Str × V)} (h : PrOk K C H a ns) (s : Same H H') : PrOk K C H' a ns := by
  obtain ⟨dx, p, xs, e, hs, hN, ho⟩ := h
  exact ⟨dx, p, xs, s _ _ e, (stk s).seq hs, hN.tk (stk s), ho⟩
theorem PrOk.put {K : PySem.W.Frag} {C a l : Addr} {H : Hp} {ns : List (Str × V)} {us vs : List V} (h : PrOk K C H a ns) (e : H l = some (.lst us)) : PrOk K C (upd H l (.lst vs)) a ns := by
  obtain ⟨dx, p, xs, e1, hs, hN, ho⟩ := h
  have n : a ≠ l := fun z => by rw [z, e] at e1; cases e1
  exact ⟨dx, p, xs, by rw [upd_ne n]; exact e1, (Tk.put e).seq hs, hN.tk (Tk.put e), ho⟩
/-- promises in a row -/
inductive PrsAt (K : PySem.W.Frag) (C : Addr) (H : Hp) : List V → List Pl → Prop
  | nil : PrsAt K C H [] []
  | cons {a : Addr} {vs : List V} {p : Pl} {ps : List Pl} : PrOk K C H a (nodesOf p) → PrsAt K C H vs ps → PrsAt K C H (.ref a :: vs) (p :: ps)
theorem PrsAt.same {K : PySem.W.Frag} {C : Addr} {H H' : Hp} (s : Same H H') : ∀ {vs : List V} {ps : List Pl}, PrsAt K C H vs ps → PrsAt K C H' vs ps
  | _, _, .nil => .nil
  | _, _, .cons h r => .cons (h.same s) (PrsAt.same s r)
theorem PrsAt.put {K : PySem.W.Frag} {C l : Addr} {H : Hp} {us ws : List V} (e : H l = some (.lst us)) : ∀ {vs : List V} {ps : List Pl}, PrsAt K C H vs ps → PrsAt K C (upd H l (.lst ws)) vs ps
  | _, _, .nil => .nil
  | _, _, .cons h r => .cons (h.put e) (PrsAt.put e r)
theorem PrsAt.snoc {K : PySem.W.Frag} {C a : Addr} {H : Hp} {p : Pl} (h : PrOk K C H a (nodesOf p)) : ∀ {vs : List V} {ps : List Pl}, PrsAt K C H vs ps → PrsAt K C H (vs ++ [.ref a]) (ps ++ [p])
  | _, _, .nil => .cons h .nil
  | _, _, .cons h' r => .cons h' (PrsAt.snoc h r)
theorem plsOk_get : ∀ {ps : List Pl} {i : Nat} {p : Pl}, plsOk ps = true → ps[i]? = some p → plOk p = true
  | [], _, _, _, h => by simp at h
  | q :: ps, 0, p, o, h => by
    cases (show some q = some p from h)
    rw [plsOk, Bool.and_eq_true] at o
    exact o.1
  | q :: ps, i + 1, p, o, h => by
    rw [plsOk, Bool.and_eq_true] at o
    exact plsOk_get (ps := ps) (i := i) o.2 h
section
variable {P : Program} {w : World} {K : PySem.W.Frag} {mg : Str → Option Value} {base : Heap}
/-- good nodes make a promise: what __init__ wants -/
theorem good_nodes {H : Hp} {p : Addr} {ys : List V} {ns : List (Str × V)} (hs : SqT K H p ys) (hN : NdsAt K H ys ns) (ho : ∀ n ∈ ns, NOk n) (hd : dueGo 1 ns = true) (hl : ns.length ≤ 15) : NodesV K H (.ref p) (ns.map some) true ∧ Few (ns.map some) true := by
  have g : GoodN ns := fun n hn => (ho n hn).1
  have w : InW uni6 ns := fun k z hz => (ho _ hz).2 z rfl
  have ok : okNs (ns.map some) = true := by rw [not_due_of rfl]; exact hd
  have nv := NodesV.tup hs (nds_all hN g w)
  have fw := few_of (nds := ns.map some) (fact_some w) (by rw [List.length_map]; exact hl)
  rw [ok] at nv fw
  exact ⟨nv, fw⟩
end
end Eh
set_option Elab.async false
set_option linter.all false
set_option maxRecDepth 100000
set_option maxHeartbeats 2000000
namespace Eh
open PySem PySem.Spec PyProof.Rows L2
def popz : List Int → List Int
  | [] => []
  | x :: r => if x = 0 then popz r else x :: r
theorem popz_ne {x : Int} {r : List Int} (h : x ≠ 0) : popz (x :: r) = x :: r := by
  rw [popz, if_neg h]
/-- what is missing at the end, and the greatest depth met -/
def runD : List Int → Int → List (Str × V) → Int × Int
  | st, d, [] => (st.sum, d)
  | st, d, n :: ns => match popz st with
    | [] => (1, 0)
    | x :: r => if nodeKinds.contains n.1 = true then runD (intOf n.2 :: (x - 1) :: r) (max d ((r.length : Int) + 1)) ns else runD ((x - 1) :: r) (max d ((r.length : Int) + 1)) ns
def depthN (ns : List (Str × V)) : Int := if (runD [1] 0 ns).1 = 0 then (runD [1] 0 ns).2 else 0
theorem run_none {st : List Int} {d : Int} {n : Str × V} {ns : List (Str × V)} (h : popz st = []) : runD st d (n :: ns) = (1, 0) := by
  rw [runD, h]
theorem run_step {st : List Int} {d x : Int} {r : List Int} {n : Str × V} {ns : List (Str × V)} (h : popz st = x :: r) :
    runD st d (n :: ns) = if nodeKinds.contains n.1 = true then runD (intOf n.2 :: (x - 1) :: r) (max d ((r.length : Int) + 1)) ns else runD ((x - 1) :: r) (max d ((r.length : Int) + 1)) ns := by
  rw [runD, h]
theorem sum_rev (st : List Int) : st.reverse.sum = st.sum := by
  induction st with
  | nil => rfl
  | cons a r ih => rw [List.reverse_cons, List.sum_append, ih, List.sum_cons, List.sum_cons, List.sum_nil]; omega
section
variable {P : Program} {w : World} {K : PySem.W.Frag} {mg : Str → Option Value} {base : Heap}
def spDepthE (K : PySem.W.Frag) : Sp := fun vs H Q _ => ∃ p xs ns, vs = [.ref p] ∧ SqT K H p xs ∧ NdsAt K H xs ns ∧ GoodN ns ∧ xs.length < 1000 ∧
  ∀ (dd : Int) H', Same H H' → (1 ≤ dd ↔ dueGo 1 ns = true) → dd ≤ 1 + countIn nodeKinds ns → dd = depthN ns → Q (.int dd) H'
theorem ok_depth_ofE {p0 f : Addr} {fd : FuncData} (F : Fun K "depth_of" "depth_of" s_depth_of f fd) (T : Txt mg) (S : SignsAt K w mg p0) : FnOk P w K mg base CX0 1 f fd ["nodes"] (spDepthE K) := by
  refine F.ok sc_depth_of (fun vs H Q E h => ?_) (fun cdv A outer s H vs Q E hr h => ?_)
  · obtain ⟨p, xs, ns, rfl, _⟩ := h
    rfl
  · obtain ⟨p, xs, ns, rfl, hS, hN, hg, hlen, q⟩ := h
    refine ⟨_, (pss_cons (ps_set (i := 1) sc_depth_of.nd rfl (.inl rfl) (pe_lst (pa_cons pe_int pa_nil)))
  (pss_cons (ps_set (i := 2) sc_depth_of.nd rfl (.inl rfl) pe_int)
  (pss_cons (ps_for PassesOwn.never (by rfl) (pi_tup (pv 0)) (pg_tup (by rfl) (pgs_cons (pg_name (i := 3) sc_depth_of.nd rfl (.inl rfl)) (pgs_cons (pg_name (i := 4) sc_depth_of.nd rfl (.inl rfl)) pgs_nil)))
  (pss_cons (ps_while PassesOwn.never (PW.pt (pw_and (pt_truth (pv 1) (by intro _; rfl)) (pw_and1 (pt_cmpR op_eq (pe_ix (ixL (K := K) rfl) (pv 1) (pe_un un_neg pe_int) (fun _ _ => rfl)) pe_int (nomark _)))))
  (pss_one (ps_expr (bm0K (K := K) rfl (pe_bm0 PySem.F.plainAttrs_list PySem.F.slot_list_pop PySem.F.type_list_pop mt_pop (pv 1))))))
  (pss_cons (ps_if (pt_not (pt_truth (pv 1) (by intro _; rfl)))
  (pss_one (ps_ret pe_int))
  pss_nil)
  (pss_cons (ps_asg (pe_op op_sub (pe_ix (ixL (K := K) rfl) (pv 1) (pe_un un_neg pe_int) (fun _ _ => rfl)) pe_int) (pg_sub (pv 1) (pe_un un_neg pe_int) set_list))
  (pss_cons (ps_set (i := 2) sc_depth_of.nd rfl (.inl rfl) (pe_callB (call_max2 (by rfl)) (by rfl) T.max_ (by decide +kernel) (pa_cons (pv 2) (pa_cons (pe_callB (lenQ (K := K) rfl) (by rfl) T.len_ (by decide +kernel) (pa_cons (pv 1) pa_nil)) pa_nil))))
  (pss_one (ps_if (pt_cmpR (inKd S rfl rfl) (pv 3) (pe_glob (v := .ref p0) rfl S.g rfl) (by rfl))
  (pss_one (ps_expr (bmK (K := K) rfl (pe_bm PySem.F.plainAttrs_list PySem.F.slot_list_append PySem.F.type_list_append mt_append (pv 1) (pa_cons (pv 4) pa_nil)))))
  pss_nil)))))))
  (pss_one (ps_ret (pe_ifExp (pt_cmpR op_eq (pe_callB (cr_sum (by rfl)) (by rfl) T.sum_ (by decide +kernel) (pa_cons (pv 1) pa_nil)) pe_int (nomark _)) (pv 2) pe_int)))))), ?_⟩
    refine ⟨lenOk 1, fun l nl => ?_⟩
    have s1 : Same H (upd H l (.lst [.int 1])) := same_new nl
    have hxn := hN.length
    refine ⟨_, rfl, p, rfl, ⟨xs, (stk s1).seq hS⟩, for_tup (K := K) (a := p) (xs := xs) (fun i σ H2 => ∃ (st : List Int) (dp : Int) (x3 x4 : Option V), σ = [some (.ref p), some (.ref l), some (.int dp), x3, x4] ∧ Same H H2 ∧ H2 l = some (.lst (st.map V.int)) ∧ Stk st ∧
      dueGo 1 ns = dueGo st.sum.toNat (ns.drop i) ∧ (st.length : Int) ≤ 1 + countIn nodeKinds (ns.take i) ∧ dp ≤ 1 + countIn nodeKinds (ns.take i) ∧ (1 ≤ dp ∨ 0 < st.sum) ∧ st.length ≤ i + 1 ∧ (i = 0 → dp = 0) ∧ runD [1] 0 ns = runD st.reverse dp (ns.drop i)) ?_ (fun i σ H2 _ h => ?_) ?_ ?_⟩
    · refine ⟨[1], 0, none, none, rfl, s1, upd_same, ?_, rfl, ?_, ?_, .inr (by decide), Nat.le_refl _, fun _ => rfl, rfl⟩
      · intro x hx
        rw [List.mem_singleton.mp hx]
        decide
      · show (1 : Int) ≤ 1 + _
        omega
      · omega
    · obtain ⟨st, dp, x3, x4, _, s2, _⟩ := h
      exact (stk s2).seq hS
    · rintro i x σ H2 hi ⟨st, dp, x3, x4, rfl, s2, e2, hst, hdue, hsl, hdp, hor, hsi, _, hrun⟩
      obtain ⟨a, k, t, rfl, hk, ha⟩ := hN.get hi
      have hgn := hg _ (List.mem_of_getElem? hk)
      have hi9 : i < 1000 := by
        have := (List.getElem?_eq_some_iff.mp hi).1
        omega
      refine ⟨a, _, rfl, (stk s2).seq ha, rfl, _, _, rfl, _, _, rfl, rfl, ?_⟩
      refine ⟨fun m σ H3 => ∃ st' : List Int, m = st'.length ∧ σ = [some (.ref p), some (.ref l), some (.int dp), some (.str k), some t] ∧ Same H H3 ∧ H3 l = some (.lst (st'.map V.int)) ∧ Stk st' ∧ st'.sum = st.sum ∧ st'.length ≤ st.length ∧ popz st'.reverse = popz st.reverse, ⟨_, st, rfl, rfl, s2, e2, hst, rfl, Nat.le_refl _, rfl⟩, ?_⟩
      rintro m σ H3 ⟨st', rfl, rfl, s3, e3, hst', hsum, hl', hpz⟩
      have nH : H l = none := nl
      have keep : ∀ {H' : Hp} {o : HO}, Same H H' → Same H (upd H' l o) := fun {H' o} s b u eb => by
        rw [upd_ne (ne_of_none eb nH)]
        exact s b u eb
      have dr := drop_at hk
      rcases last_or (st := st') with rfl | ⟨pre, x, rfl⟩
      · -- nothing is missing any more
        refine ⟨_, rfl, false, .inl ⟨[], SqL.of e3, rfl⟩, ?_⟩
        refine iteF ?_
        refine ⟨_, rfl, false, .inl ⟨[], SqL.of e3, rfl⟩, ?_⟩
        refine iteT ?_
        refine q 0 H3 s3 ⟨fun z => by omega, fun z => ?_⟩ (by omega) ?_
        · rw [hdue, ← hsum, dr] at z
          cases z
        · rw [dr, run_none hpz.symm] at hrun
          unfold depthN
          rw [hrun]
          rfl
      · rw [map_last] at e3
        have hx0 : 0 ≤ x := hst' x (List.mem_append_right _ List.mem_cons_self)
        have hpre : Stk pre := fun y hy => hst' y (List.mem_append_left _ hy)
        have hsum : pre.sum + x = st.sum := by rw [← hsum, sum_set]
        have hl' : pre.length + 1 ≤ st.length := by rw [List.length_append] at hl'; exact hl'
        refine ⟨_, rfl, true, .inl ⟨_, SqL.of e3, by simp⟩, iteT ⟨_, rfl, _, rfl, l, _, (-1), .int x, rfl, rfl, SqL.of e3, atI_last, rfl, _, rfl, ?_⟩⟩
        by_cases hx : V.int x = V.int 0
        · rw [decide_eq_true hx]
          have hx : x = 0 := by injection hx
          refine iteT ⟨_, fun σ' H' h => h, ?_⟩
          refine ⟨_, rfl, .inl ⟨rfl, _, SqL.of e3⟩, l, _, .int x, rfl, rfl, e3, ?_, ?_⟩
          · rw [List.length_append, List.length_singleton, Nat.add_sub_cancel]
            exact List.getElem?_concat_length
          · rw [List.dropLast_concat]
            exact ⟨pre.length, by rw [List.length_append]; exact Nat.lt_succ_self _, pre, rfl, rfl, keep s3, upd_same, hpre, by omega, by omega, by rw [← hpz, List.reverse_append]; show _ = popz (x :: pre.reverse); rw [hx]; rfl⟩
        · rw [decide_eq_false hx]
          have hx : x ≠ 0 := fun e => hx (by rw [e])
          refine iteF ?_
          refine ⟨_, rfl, true, .inl ⟨_, SqL.of e3, by simp⟩, iteF ?_⟩
          refine ⟨_, rfl, _, rfl, l, _, (-1), .int x, rfl, rfl, SqL.of e3, atI_last, _, _, rfl, rfl, ?_⟩
          refine ⟨_, rfl, _, rfl, l, _, (-1), pre.length, rfl, rfl, e3, ?_, ?_⟩
          · rw [List.length_append, List.length_map]
            exact ixN_last _
          rw [set_last]
          have s4 : Same H (upd H3 l (.lst ((pre ++ [x - 1]).map V.int))) := keep s3
          have hst4 : Stk (pre ++ [x - 1]) := fun y hy => by
            rcases List.mem_append.mp hy with h | h
            · exact hpre y h
            · rw [List.mem_singleton.mp h]
              omega
          have hps := hpre.sum
          refine ⟨_, rfl, _, rfl, .inl ⟨l, _, rfl, .inl (SqL.of upd_same), _, _, rfl, ?_⟩⟩
          obtain ⟨d2, ed, hd1, hd2⟩ : ∃ d2 : Int, (if (((pre ++ [x - 1]).map V.int).length : Int) > dp then (((pre ++ [x - 1]).map V.int).length : Int) else dp) = d2 ∧ 1 ≤ d2 ∧ d2 ≤ 1 + countIn nodeKinds (ns.take i) := by
            refine ⟨_, rfl, ?_⟩
            rw [List.length_map, List.length_append, List.length_singleton]
            split <;> omega
          rw [ed]
          have hrs := run_step (d := dp) (n := (k, t)) (ns := ns.drop (i + 1)) (show popz st.reverse = x :: pre.reverse from by rw [← hpz, List.reverse_append]; exact popz_ne hx)
          rw [dr] at hrun
          rw [hrs] at hrun
          have ed2 : d2 = max dp ((pre.reverse.length : Int) + 1) := by
            rw [← ed, List.length_map, List.length_append, List.length_singleton, List.length_reverse]
            show (if ((pre.length + 1 : Nat) : Int) > dp then ((pre.length + 1 : Nat) : Int) else dp) = _
            rw [Int.max_def]
            split <;> split <;> omega
          have ct : countIn nodeKinds (ns.take (i + 1)) = countIn nodeKinds (ns.take i) + countIn nodeKinds [(k, t)] := by rw [take_succ' hk, countIn_app]
          refine ⟨_, rfl, k, rfl, rfl, _, rfl, ?_⟩
          cases ek : nodeKinds.contains k with
          | true =>
            obtain ⟨ti, rfl, ht2, ht4⟩ := good_int hgn ek
            rw [countIn_one, if_pos ek] at ct
            refine iteT ⟨_, rfl, .inl ⟨rfl, _, SqL.of upd_same⟩, _, rfl, l, _, .int ti, rfl, rfl, upd_same, small (by rw [List.length_map, List.length_append, List.length_singleton]; omega), ?_⟩
            rw [← map_last]
            refine ⟨(pre ++ [x - 1]) ++ [ti], d2, _, _, rfl, keep s4, upd_same, ?_, ?_, ?_, ?_, ?_, ?_, (fun e => by omega), ?_⟩
            · intro y hy
              rcases List.mem_append.mp hy with h | h
              · exact hst4 y h
              · rw [List.mem_singleton.mp h]
                omega
            · rw [hdue, dr, ← hsum, due_step (by omega), sum_set, sum_set]
              congr 2
              unfold partsN
              rw [if_pos ek]
              show pre.sum + x - 1 + ((ti.toNat : Nat) : Int) = _
              omega
            · rw [List.length_append, List.length_append, List.length_singleton, List.length_singleton]
              omega
            · omega
            · exact .inl hd1
            · rw [List.length_append, List.length_append, List.length_singleton, List.length_singleton]
              omega
            · rw [hrun, if_pos (show nodeKinds.contains (k, V.int ti).1 = true from ek), ← ed2, List.reverse_append, List.reverse_append]
              rfl
          | false =>
            rw [countIn_one, if_neg (by rw [ek]; exact Bool.false_ne_true)] at ct
            refine iteF ⟨pre ++ [x - 1], d2, _, _, rfl, s4, upd_same, hst4, ?_, ?_, ?_, ?_, ?_, (fun e => by omega), ?_⟩
            · rw [hdue, dr, ← hsum, due_step (by omega), sum_set]
              congr 2
              unfold partsN
              rw [if_neg (by rw [ek]; exact Bool.false_ne_true)]
              show pre.sum + x - 1 + 0 = _
              omega
            · rw [List.length_append, List.length_singleton]
              omega
            · omega
            · exact .inl hd1
            · rw [List.length_append, List.length_singleton]
              omega
            · rw [hrun, if_neg (show ¬ nodeKinds.contains (k, t).1 = true by rw [show nodeKinds.contains (k, t).1 = false from ek]; exact Bool.false_ne_true), ← ed2, List.reverse_append]
              rfl
    · rintro σ H2 ⟨st, dp, x3, x4, rfl, s2, e2, hst, hdue, hsl, hdp, hor, hsi, h0, hrun⟩
      refine ⟨_, rfl, l, st, rfl, SqL.of e2, rfl, _, rfl, ?_⟩
      rw [hxn, List.drop_length] at hdue
      rw [hxn, List.take_length] at hsl hdp
      have hs := hst.sum
      have hd : dueGo 1 ns = decide (st.sum.toNat = 0) := hdue
      rw [hxn, List.drop_length] at hrun
      have hrun : runD [1] 0 ns = (st.reverse.sum, dp) := hrun
      rw [sum_rev] at hrun
      refine ite2 (fun h => ?_) (fun h => ?_)
      · have h : V.int st.sum = V.int 0 := of_decide_eq_true h
        have h : st.sum = 0 := by injection h
        refine ⟨_, rfl, q dp H2 s2 ⟨fun _ => by rw [hd]; exact decide_eq_true (by omega), fun _ => by omega⟩ hdp (by unfold depthN; rw [hrun, if_pos h])⟩
      · have h : st.sum ≠ 0 := fun e => h (decide_eq_true (by rw [e]))
        exact q 0 H2 s2 ⟨fun z => by omega, fun z => by rw [hd] at z; have := of_decide_eq_true z; omega⟩ (by omega) (by unfold depthN; rw [hrun, if_neg h])
end
end Eh
set_option Elab.async false
set_option linter.all false
set_option maxRecDepth 100000
set_option maxHeartbeats 2000000
namespace Eh
open PySem PySem.Spec PyProof.Rows L2
theorem run_pop {st st' : List Int} {d : Int} {ns : List (Str × V)} (h : popz st = popz st') (hs : st.sum = st'.sum) : runD st d ns = runD st' d ns := by
  cases ns with
  | nil => rw [runD, runD, hs]
  | cons n ns => rw [runD, runD, h]
mutual
/-- a tree in which each inner node has a part -/
def plFull : Pl → Bool
  | .leaf _ _ => true
  | .node _ ps => !ps.isEmpty && plsFull ps
def plsFull : List Pl → Bool
  | [] => true
  | p :: ps => plFull p && plsFull ps
end
mutual
theorem run_tree : ∀ {p : Pl}, plOk p = true → plFull p = true → ∀ (x : Int) (r : List Int) (d : Int) (rest : List (Str × V)), 1 ≤ x →
    runD (x :: r) d (nodesOf p ++ rest) = runD ((x - 1) :: r) (max d ((r.length : Int) + depthOf p)) rest
  | .leaf k t, h, _, x, r, d, rest, hx => by
    rw [plOk] at h
    rw [nodesOf, depthOf]
    show runD (x :: r) d ((k, t) :: rest) = _
    rw [run_step (popz_ne (by omega)), if_neg (fun z => by rw [show nodeKinds.contains k = true from z] at h; cases h)]
    rfl
  | .node k ps, h, f, x, r, d, rest, hx => by
    rw [plOk, Bool.and_eq_true] at h
    rw [plFull, Bool.and_eq_true] at f
    rw [nodesOf, depthOf]
    show runD (x :: r) d ((k, .int (ps.length : Int)) :: (nodesAll ps ++ rest)) = _
    rw [run_step (popz_ne (by omega)), if_pos h.1]
    show runD ((ps.length : Int) :: (x - 1) :: r) _ _ = _
    have hne : ps.isEmpty = false := by simpa using f.1
    rw [run_trees h.2 f.2 ((x - 1) :: r) _ rest, hne, if_neg Bool.false_ne_true]
    have e : max (max d ((r.length : Int) + 1)) ((((x - 1) :: r).length : Int) + depthAll ps) = max d ((r.length : Int) + ((1 + depthAll ps : Nat) : Int)) := by
      rw [List.length_cons]
      omega
    rw [e]
    refine run_pop ?_ ?_
    · show popz (0 :: (x - 1) :: r) = _
      rw [popz, if_pos rfl]
    · rw [List.sum_cons]
      omega
theorem run_trees : ∀ {ps : List Pl}, plsOk ps = true → plsFull ps = true → ∀ (r : List Int) (d : Int) (rest : List (Str × V)),
    runD ((ps.length : Int) :: r) d (nodesAll ps ++ rest) = runD (0 :: r) (max d (if ps.isEmpty = true then d else (r.length : Int) + depthAll ps)) rest
  | [], _, _, r, d, rest => by
    rw [nodesAll]
    show runD (0 :: r) d rest = runD (0 :: r) (max d (if true = true then d else _)) rest
    rw [if_pos rfl, Int.max_self]
  | p :: ps, h, f, r, d, rest => by
    rw [plsOk, Bool.and_eq_true] at h
    rw [plsFull, Bool.and_eq_true] at f
    rw [nodesAll, List.append_assoc, run_tree h.1 f.1 _ r d _ (by rw [List.length_cons]; omega)]
    have e1 : (((p :: ps).length : Int) - 1) = (ps.length : Int) := by
      rw [List.length_cons]
      omega
    rw [e1, run_trees h.2 f.2 r _ rest, depthAll]
    congr 1
    cases ps with
    | nil =>
      show max _ (if true = true then _ else _) = max d (if false = true then _ else _)
      rw [if_pos rfl, if_neg Bool.false_ne_true, depthAll]
      omega
    | cons q qs =>
      show max _ (if false = true then _ else _) = max d (if false = true then _ else _)
      rw [if_neg Bool.false_ne_true, if_neg Bool.false_ne_true]
      omega
end
theorem depth_tree {p : Pl} (h : plOk p = true) (f : plFull p = true) : depthN (nodesOf p) = depthOf p := by
  have e := run_tree h f 1 [] 0 [] (by decide)
  rw [List.append_nil] at e
  unfold depthN
  rw [e]
  show (if (([(1 : Int) - 1]).sum) = 0 then max 0 ((0 : Int) + depthOf p) else 0) = _
  rw [if_pos (by decide)]
  omega
mutual
theorem At.full {K : PySem.W.Frag} {H : Hp} : ∀ {v : V} {p : Pl}, At K H v p → plFull p = true
  | _, _, .leaf h o => by rw [plFull]
  | _, _, .node (ps := ps) h1 h2 o a b r => by
    rw [plFull, AtAll.full r]
    cases ps with
    | nil => exact absurd a (by decide)
    | cons _ _ => rfl
theorem AtAll.full {K : PySem.W.Frag} {H : Hp} : ∀ {vs : List V} {ps : List Pl}, AtAll K H vs ps → plsFull ps = true
  | _, _, .nil => by rw [plsFull]
  | _, _, .cons h r => by
    rw [plsFull, At.full h, AtAll.full r]
    rfl
end
end Eh
set_option Elab.async false
set_option linter.all false
set_option maxRecDepth 100000
set_option maxHeartbeats 2000000
namespace Eh
open PySem PySem.Spec PyProof.Rows L2
/-- each text once -/
def nubS (zs : List Str) : List Str := zs.foldl (fun acc z => put z acc) []
theorem nub_fold : ∀ (zs acc : List Str), acc.Nodup → (zs.foldl (fun acc z => put z acc) acc).Nodup ∧ ∀ x, x ∈ zs.foldl (fun acc z => put z acc) acc ↔ x ∈ acc ∨ x ∈ zs
  | [], acc, h => ⟨h, fun x => by simp⟩
  | z :: zs, acc, h => by
    obtain ⟨a, b⟩ := nub_fold zs (put z acc) (nodup_put h)
    refine ⟨a, fun x => ?_⟩
    rw [List.foldl_cons, b x, mem_put, List.mem_cons]
    constructor
    · rintro ((h | h) | h)
      · exact .inr (.inl h)
      · exact .inl h
      · exact .inr (.inr h)
    · rintro (h | h | h)
      · exact .inl (.inr h)
      · exact .inl (.inl h)
      · exact .inr h
theorem nub_len {ys zs : List Str} (nd : ys.Nodup) (h : ∀ z, z ∈ ys ↔ z ∈ zs) : ys.length = (nubS zs).length := by
  obtain ⟨a, b⟩ := nub_fold zs [] List.nodup_nil
  have m : ∀ x, x ∈ nubS zs ↔ x ∈ zs := fun x => by
    unfold nubS
    rw [b x]
    simp
  have u1 := nodup_le nd (us := nubS zs) fun z hz => (m z).mpr ((h z).mp hz)
  have u2 := nodup_le a (us := ys) fun z hz => (h z).mpr ((m z).mp hz)
  have u2 : (nubS zs).length ≤ ys.length := u2
  omega
def boundB (ns : List (Str × V)) : Bool := decide ((nubS (factsN ns)).length ≤ 6) && decide (countIn choiceKinds ns ≤ 10) && (decide (1 ≤ depthN ns) && decide (depthN ns ≤ 8))
def areB (nds : List (Option (Str × V))) : Bool := decide (nds.length ≤ 40) && (nds.all Option.isSome && boundB (nds.filterMap id))
inductive NodesW (K : PySem.W.Frag) (H : Hp) : V → Bool → Prop
  | other {v : V} : NoT H v → NodesW K H v false
  | tup {p : Addr} {xs : List V} {nds : List (Option (Str × V))} : SqT K H p xs → NdAll K H xs nds → NodesW K H (.ref p) (areB nds)
section
variable {P : Program} {w : World} {K : PySem.W.Frag} {mg : Str → Option Value} {base : Heap}
def spAreE (K : PySem.W.Frag) : Sp := fun vs H Q _ => ∃ v b, vs = [v] ∧ NodesW K H v b ∧ ∀ H', Same H H' → Q (.bl b) H'
theorem ok_are_nodesE {fN fF fC fD f : Addr} {fdN fdF fdC fdD fd : FuncData} (F : Fun K "_are_nodes" "_are_nodes" s__are_nodes f fd) (T : Txt mg)
    (c40 : ∃ t, mg "MAX_NODES" = some (.int 40 t)) (c6 : ∃ t, mg "MAX_FACTS" = some (.int 6 t)) (c10 : ∃ t, mg "MAX_CHOICES" = some (.int 10 t)) (c8 : ∃ t, mg "MAX_DEPTH" = some (.int 8 t))
    (C_is_node : Cal P w K mg base 2 "is_node" fN fdN ["value"] (spIsNode K)) (C_facts_of : Cal P w K mg base 1 "facts_of" fF fdF ["nodes"] (spFacts K)) (C_choices_of : Cal P w K mg base 1 "choices_of" fC fdC ["nodes"] (spChoices K)) (C_depth_of : Cal P w K mg base 1 "depth_of" fD fdD ["nodes"] (spDepthE K)) :
    FnOk P w K mg base CX0 3 f fd ["value"] (spAreE K) := by
  obtain ⟨t40, e40⟩ := c40
  obtain ⟨t6, e6⟩ := c6
  obtain ⟨t10, e10⟩ := c10
  obtain ⟨t8, e8⟩ := c8
  refine F.ok sc__are_nodes (fun vs H Q E h => ?_) (fun cdv A outer s H vs Q E hr h => ?_)
  · obtain ⟨v, b, rfl, _⟩ := h
    rfl
  · obtain ⟨v, b, rfl, hv, q⟩ := h
    have hr1 := hr.mono (j := 1) (by omega)
    refine ⟨_, (pss_cons (ps_if (PW.pt (pw_or (pt_not (pt_val (pe_callB (isiQ (K := K) rfl) (by rfl) T.isinstance_ (by decide +kernel) (pa_cons (pv 0) (pa_cons (pe_bltn (v := .ty "tuple") (by rfl) T.tuple_ (by decide +kernel) rfl) pa_nil))))) (pw_or1 (pt_cmpR op_gt (pe_callB (lenQ (K := K) rfl) (by rfl) T.len_ (by decide +kernel) (pa_cons (pv 0) pa_nil)) (pe_glob (v := .int 40) rfl e40 ⟨_, rfl⟩) (nomark _)))))
  (pss_one (ps_ret pe_bl))
  pss_nil)
  (pss_cons (ps_if (pt_not (pt_val (pe_callB (allQ (K := K) rfl (by rfl)) (by rfl) T.all_ (by decide +kernel) (pa_cons (pe_lc (own := [("node", 1)]) (g := gName 1) (by rfl) sc__are_nodes.nd (pi_tup (pv 0)) (blkOk_by (by kernel_rfl)) (fun _ _ _ _ _ => (pg_name (i := 1) sc__are_nodes.nd rfl (.inl rfl))) (fun _ _ _ _ _ => pts_nil) (fun _ _ _ _ _ => (pe_call C_is_node.G hr (by rfl) C_is_node.m C_is_node.k C_is_node.b .nil pass0 (pa_cons (pv 1) pa_nil)))) pa_nil))))
  (pss_one (ps_ret pe_bl))
  pss_nil)
  (pss_cons (ps_if (PW.pt (pw_or (pt_cmpR op_gt (pe_callB (lenQ (K := K) rfl) (by rfl) T.len_ (by decide +kernel) (pa_cons (pe_call C_facts_of.G hr1 (by rfl) C_facts_of.m C_facts_of.k C_facts_of.b .nil pass0 (pa_cons (pv 0) pa_nil)) pa_nil)) (pe_glob (v := .int 6) rfl e6 ⟨_, rfl⟩) (nomark _)) (pw_or1 (pt_cmpR op_gt (pe_call C_choices_of.G hr1 (by rfl) C_choices_of.m C_choices_of.k C_choices_of.b .nil pass0 (pa_cons (pv 0) pa_nil)) (pe_glob (v := .int 10) rfl e10 ⟨_, rfl⟩) (nomark _)))))
  (pss_one (ps_ret pe_bl))
  pss_nil)
  (pss_one (ps_ret (pe_chain op_le op_le pe_int (pe_call C_depth_of.G hr1 (by rfl) C_depth_of.m C_depth_of.k C_depth_of.b .nil pass0 (pa_cons (pv 0) pa_nil)) (pe_glob (v := .int 8) rfl e8 ⟨_, rfl⟩))))))), ?_⟩
    cases hv with
    | other hno =>
      obtain ⟨u, ty, hk⟩ := hno.ty (K := K)
      exact ⟨_, rfl, v, .ty "tuple", _, .type "tuple", false, rfl, .ty _, ty, hk, _, rfl, iteT (q _ (Same.refl H))⟩
    | tup hs hn =>
      rename_i p xs nds
      have hlen := hn.length
      refine ⟨_, rfl, .ref p, .ty "tuple", _, .type "tuple", true, rfl, .ty _, ty_tup hs, kitTT, _, rfl, iteF ⟨_, rfl, .inl ⟨p, xs, rfl, .inr hs, _, 40, rfl, rfl, _, rfl, ite2 (fun h => ?_) (fun h => ?_)⟩⟩⟩
      · have h : (40 : Int) < xs.length := of_decide_eq_true h
        have eb : areB nds = false := by
          unfold areB
          rw [decide_eq_false (show ¬ nds.length ≤ 40 by omega)]
          rfl
        have q' := q _ (Same.refl H)
        rw [eb] at q'
        exact q'
      have hx40 : xs.length ≤ 40 := by
        have : ¬ (40 : Int) < xs.length := fun z => h (decide_eq_true z)
        omega
      have q : ∀ H', Same H H' → Q (.bl (nds.all Option.isSome && boundB (nds.filterMap id))) H' := fun H' s => by
        have q' := q H' s
        unfold areB at q'
        rw [decide_eq_true (show nds.length ≤ 40 by omega), Bool.true_and] at q'
        exact q'
      refine ⟨_, rfl, p, rfl, ⟨xs, hs⟩, fun D nD => ?_⟩
      have s1 : Same H (upd H D (.lst [])) := same_new nD
      refine lcT (K := K) (a := p) (xs := xs) (fun j acc H2 => Same H H2 ∧ acc = ((nds.take j).map Option.isSome).map V.bl) ⟨s1, rfl⟩ (fun j acc H2 h => (stk h.1).seq hs) ?_ ?_
      · rintro j x acc H2 hx hl e ⟨s2, ea⟩
        obtain ⟨n, en, hnd⟩ := hn.get hx
        have hj : j < 60 := by
          have := (List.getElem?_eq_some_iff.mp hx).1
          omega
        refine yesT ⟨_, rfl, x, n, rfl, hnd.ku (ku_same s2), fun H3 s3 => ?_⟩
        refine LcK.mk hl (by omega) (s3 _ _ e) ⟨fun b o eb => ?_, ?_⟩
        · rw [upd_ne (ne_of_none eb nD)]
          exact s3 _ _ (s2 b o eb)
        · rw [ea, take_succ' en, List.map_append, List.map_append]
          rfl
      · rintro acc H2 hl e ⟨s2, ea⟩
        refine ⟨D, _, rfl, SqL.of (e.trans (by rw [ea])), ?_⟩
        rw [hlen, List.take_length, List.all_map]
        cases ha : nds.all (id ∘ Option.isSome) with
        | false =>
          refine ⟨_, rfl, iteT ?_⟩
          have q' := q _ s2
          rw [show nds.all Option.isSome = false from ha, Bool.false_and] at q'
          exact q'
        | true =>
          obtain ⟨ns, en⟩ := all_some ha
          subst en
          obtain ⟨N, hg⟩ := hn.nds
          have hnl := N.length
          have q : ∀ H', Same H H' → Q (.bl (boundB ns)) H' := fun H' s => by
            have q' := q H' s
            rw [filterMap_some, show (ns.map some).all Option.isSome = true from ha, Bool.true_and] at q'
            exact q'
          refine ⟨_, rfl, iteF ?_⟩
          refine ⟨_, rfl, p, xs, ns, rfl, (stk s2).seq hs, N.tk (stk s2), hg, by omega, fun ys p3 H3 s3 n3 e3 nd so mem => ?_⟩
          have hys : ys.length = (nubS (factsN ns)).length := nub_len nd mem
          have s4 := s2.trans s3
          refine .inl ⟨p3, _, rfl, .inr (SqT.of e3), _, 6, rfl, rfl, _, rfl, ?_⟩
          rw [List.length_map, hys]
          by_cases h6 : (nubS (factsN ns)).length ≤ 6
          · rw [decide_eq_false (by omega)]
            refine iteF ?_
            refine ⟨_, rfl, p, xs, ns, rfl, (stk s4).seq hs, N.tk (stk s4), by omega, fun H5 s5 => ?_⟩
            have s6 := s4.trans s5
            refine ⟨_, 10, rfl, rfl, _, rfl, ?_⟩
            by_cases h10 : countIn choiceKinds ns ≤ 10
            · rw [decide_eq_false (by omega)]
              refine iteF ?_
              refine ⟨_, rfl, p, xs, ns, rfl, (stk s6).seq hs, N.tk (stk s6), hg, by omega, fun dd H7 s7 d1 d2 d3 => ?_⟩
              have q' := q _ (s6.trans s7)
              unfold boundB at q'
              rw [decide_eq_true h6, decide_eq_true h10, Bool.true_and, Bool.true_and, ← d3] at q'
              refine ⟨1, dd, rfl, rfl, _, rfl, ?_⟩
              cases e1 : decide ((1 : Int) ≤ dd) with
              | false =>
                rw [e1, Bool.false_and] at q'
                exact iteF q'
              | true =>
                rw [e1, Bool.true_and] at q'
                exact iteT ⟨dd, 8, rfl, rfl, q'⟩
            · rw [decide_eq_true (by omega)]
              refine iteT ?_
              have q' := q _ s6
              unfold boundB at q'
              rw [decide_eq_false h10, Bool.and_false, Bool.false_and] at q'
              exact q'
          · rw [decide_eq_true (by omega)]
            refine iteT ?_
            have q' := q _ s4
            unfold boundB at q'
            rw [decide_eq_false h6, Bool.false_and, Bool.false_and] at q'
            exact q'
end
end Eh
set_option Elab.async false
set_option linter.all false
set_option maxRecDepth 100000
set_option maxHeartbeats 2000000
namespace Eh
open PySem PySem.Spec PyProof.Rows L2
theorem asc_fact {z : Str} (h : factS z = true) : Asc z := by
  unfold factS at h
  simp only [Bool.and_eq_true] at h
  have h8 := (of_decide_eq_true h.1.1.1).2
  refine ⟨by omega, fun c hc => ?_⟩
  have := List.all_eq_true.mp h.2 c hc
  unfold low at this
  have := of_decide_eq_true this
  omega
theorem good_eltG {K : PySem.W.Frag} {H : Hp} {k : Str} {t : V} (h : nodeAB k t = true) : Elt K H (.str k) ∧ Elt K H t := by
  refine ⟨eltS k (asc_kind h), ?_⟩
  cases t with
  | str z => exact .inl ⟨z, rfl, asc_fact (node_str h)⟩
  | int i => exact eltI i
  | bl b => exact eltB b
  | non => exact eltN
  | _ =>
    exfalso
    unfold nodeAB at h
    split at h
    · cases h
    · split at h
      · cases h
      · rw [Bool.and_eq_true] at h
        cases h.2
theorem nds_allG {K : PySem.W.Frag} {H : Hp} : ∀ {xs : List V} {ns : List (Str × V)}, NdsAt K H xs ns → GoodN ns → NdAll K H xs (ns.map some)
  | _, _, .nil, _ => .nil
  | _, _, .cons (k := k) (t := t) (ns := ns) h r, g => by
    have hg := g _ List.mem_cons_self
    obtain ⟨e1, e2⟩ := good_eltG (K := K) (H := H) hg
    have e : pairNd (.str k) t = some (k, t) := by
      show (if nodeAB k t = true then some (k, t) else none) = _
      rw [if_pos hg]
    have p := NdV.pair h e1 e2
    rw [e] at p
    exact .cons p (nds_allG r fun n hn => g n (List.mem_cons_of_mem _ hn))
theorem NodesW.ku {K : PySem.W.Frag} {H H' : Hp} {v : V} {b : Bool} (h : NodesW K H v b) (k : Ku H H') : NodesW K H' v b := by
  cases h with
  | other t => exact .other (t.ku k)
  | tup h n => exact .tup (k.tk.seq h) (n.ku k)
/-- whether good nodes are those of a promise -/
def okB (ns : List (Str × V)) : Bool := decide (ns.length ≤ 40) && boundB ns
theorem are_some (ns : List (Str × V)) : areB (ns.map some) = okB ns := by
  unfold areB okB
  rw [List.length_map, filterMap_some, show (ns.map some).all Option.isSome = true from by rw [List.all_map]; exact List.all_eq_true.mpr fun _ _ => rfl, Bool.true_and]
theorem good_W {K : PySem.W.Frag} {H : Hp} {p : Addr} {ys : List V} {ns : List (Str × V)} (hs : SqT K H p ys) (hN : NdsAt K H ys ns) (g : GoodN ns) : NodesW K H (.ref p) (okB ns) := by
  have h := NodesW.tup hs (nds_allG hN g)
  rw [are_some] at h
  exact h
/-- a promise with good nodes -/
def PrG (K : PySem.W.Frag) (C : Addr) (H : Hp) (a : Addr) (ns : List (Str × V)) : Prop := ∃ dx p xs, H a = some (.ins C dx [(("_nodes" : Str), .ref p)]) ∧ SqT K H p xs ∧ NdsAt K H xs ns ∧ GoodN ns
section
variable {P : Program} {w : World} {K : PySem.W.Frag} {mg : Str → Option Value} {base : Heap}
def spInitE (K : PySem.W.Frag) (C CE : Addr) : Sp := fun vs H Q E => ∃ x dx v b, vs = [.ref x, v] ∧ H x = some (.ins C dx []) ∧ NodesW K H v b ∧
  (b = true → ∀ H', But x H H' → H' x = some (.ins C dx [(("_nodes" : Str), v)]) → Q .non H') ∧ (b = false → ∀ H', Same H H' → E (.ref CE) none H')
theorem ok_initE {C fL CE fA f : Addr} {fdA fd : FuncData} (F : Fun K "__init__" "Promise.__init__" s_Promise___init__ f fd) (T : Txt mg) (R : ErrC K mg "InvalidPromise" CE) (PC : PromC K mg C f fL)
    (C__are_nodes : Cal P w K mg base 3 "_are_nodes" fA fdA ["value"] (spAreE K)) : FnOk P w K mg base (L2.CX P w) 4 f fd ["self", "nodes"] (spInitE K C CE) := by
  refine F.okX sc_Promise___init__ (fun vs H Q E h => ?_) (fun cdv A outer s H vs Q E hr h => ?_)
  · obtain ⟨x, dx, v, b, rfl, _⟩ := h
    rfl
  · obtain ⟨x, dx, v, b, rfl, ex, hv, q1, q2⟩ := h
    refine ⟨_, (pss_cons (ps_if (pt_not (pt_val (pe_call C__are_nodes.G hr (by rfl) C__are_nodes.m C__are_nodes.k C__are_nodes.b .nil pass0 (pa_cons (pv 1) pa_nil))))
      (pss_one (ps_raise rfl (takes_of rfl rfl rfl rfl) (pmk_own PySem.F.excBase_ValueError R.q R.g R.k (raises_own R.b R.t) rfl))) pss_nil)
      (pss_one (ps_fld (pv 0) (pv 1) rfl))), ?_⟩
    refine ⟨_, rfl, v, b, rfl, hv, fun H1 s1 => ⟨_, rfl, ?_⟩⟩
    cases b with
    | false => exact iteT (q2 rfl H1 s1)
    | true =>
      refine iteF ?_
      refine ⟨_, rfl, _, rfl, x, C, dx, [], rfl, s1 _ _ ex, PC.cl, PC.nn, by decide, ?_⟩
      exact q1 rfl _ (fun b o n e => by rw [upd_ne n]; exact s1 b o e) upd_same
/-- what is laid by making, and what __init__ leaves -/
theorem made_steps {K : PySem.W.Frag} {C x dx p : Addr} {H H4 : Hp} {ys : List V} {ns : List (Str × V)} (nx : H x = none) (nd : H dx = none) (hs : SqT K H p ys) (hN : NdsAt K H ys ns) (g : GoodN ns)
    (bt : But x (upd (upd H dx (.own x)) x (.ins C dx [])) H4) (e4 : H4 x = some (.ins C dx [(("_nodes" : Str), .ref p)])) : Same H H4 ∧ PrG K C H4 x ns := by
  have s3 : Same H (upd (upd H dx (.own x)) x (.ins C dx [])) := fun b o e => by
    rw [upd_ne (ne_of_none e nx), upd_ne (ne_of_none e nd)]
    exact e
  have s4 : Same H H4 := fun b o e => bt b o (ne_of_none e nx) (s3 b o e)
  exact ⟨s4, dx, p, ys, e4, (stk s4).seq hs, hN.tk (stk s4), g⟩
def spMadeE (K : PySem.W.Frag) (C CE : Addr) (n : Nat) : Sp := fun vs H Q E => ∃ v pl, vs = [v] ∧ At K H v pl ∧ GoodN (nodesOf pl) ∧ (nodesOf pl).length ≤ n ∧ n < 1000 ∧
  (okB (nodesOf pl) = true → ∀ x H', Same H H' → H x = none → PrG K C H' x (nodesOf pl) → Q (.ref x) H') ∧ (okB (nodesOf pl) = false → ∀ H', Same H H' → E (.ref CE) none H')
end
end Eh
set_option Elab.async false
set_option linter.all false
set_option maxRecDepth 100000
set_option maxHeartbeats 2000000
namespace Eh
open PySem PySem.Spec PyProof.Rows L2
section
variable {P : Program} {w : World} {K : PySem.W.Frag} {mg : Str → Option Value} {base : Heap}
/-- the promise of a plain one, or the error where it is beyond a bound -/
theorem ok_madeE {n : Nat} {fN fI fL C CE f : Addr} {fdN fdI fd : FuncData} (F : Fun K "_law_made" "_law_made" s__law_made f fd) (T : Txt mg) (PC : PromC K mg C fI fL) (C__law_nodes : Cal P w K mg base (n + 1) "_law_nodes" fN fdN ["plain"] (spNodes K n))
    (GI : FnOk P w K mg base (L2.CX P w) 4 fI fdI ["self", "nodes"] (spInitE K C CE)) (bI : Binds K fdI ["self", "nodes"] []) : FnOk P w K mg base (L2.CX P w) (n + 6) f fd ["plain"] (spMadeE K C CE n) := by
  refine F.okX sc__law_made (fun vs H Q E h => ?_) (fun cdv A outer s H vs Q E hr h => ?_)
  · obtain ⟨v, pl, rfl, _⟩ := h
    rfl
  · obtain ⟨v, pl, rfl, hA, gd, hl, hn, q1, q2⟩ := h
    have hr1 := hr.mono (j := n + 1) (by omega)
    have hr5 := hr.mono (j := 5) (by omega)
    refine ⟨_, (pss_one (ps_ret (pe_makeS PC.mkC GI hr5 (by rfl) PC.g bI (fun σ => passAt (takes_of rfl rfl rfl rfl) σ) (pa_cons (pe_callTy call_tuple_of (by rfl) T.tuple_ (by decide +kernel) (pa_cons (pe_call C__law_nodes.G hr1 (by rfl) C__law_nodes.m C__law_nodes.k C__law_nodes.b .nil pass0 (pa_cons (pv 0) pa_nil)) pa_nil)) pa_nil)))), ?_⟩
    refine ⟨_, rfl, v, pl, rfl, hA, hl, by omega, fun xs l H1 s1 n1 e1 N1 => ?_⟩
    refine ⟨l, xs, rfl, .inl ⟨SqL.of e1, fun p np => fun x dx nx nd ne => ?_⟩⟩
    have s2 : Same H (upd H1 p (.tup xs)) := s1.trans (same_new np)
    have h2 : SqT K (upd H1 p (.tup xs)) p xs := SqT.of upd_same
    have N2 := N1.tk (Tk.new (o := .tup xs) np)
    generalize upd H1 p (.tup xs) = H2 at s2 h2 N2 nx nd ⊢
    have u3 : Same H2 (upd (upd H2 dx (.own x)) x (.ins C dx [])) := fun b' o' eb => by
      rw [upd_ne (ne_of_none eb nx), upd_ne (ne_of_none eb nd)]
      exact eb
    refine ⟨x, dx, .ref p, okB (nodesOf pl), rfl, upd_same, (good_W h2 N2 gd).ku (ku_same u3), fun eb H4 bt e4 => ⟨rfl, ?_⟩, fun eb H4 s4 => ?_⟩
    · obtain ⟨s5, pr⟩ := made_steps nx nd h2 N2 gd bt e4
      exact q1 eb x H4 (s2.trans s5) (s2.free nx) pr
    · exact q2 eb H4 (s2.trans (u3.trans s4))
end
end Eh
set_option Elab.async false
set_option linter.all false
set_option maxRecDepth 100000
set_option maxHeartbeats 2000000
namespace Eh
open PySem PySem.Spec PyProof.Rows L2
theorem goodAll_app {a b : List (Str × V)} (h : GoodN a) (k : GoodN b) : GoodN (a ++ b) := fun n hn => (List.mem_append.mp hn).elim (h n) (k n)
end Eh
set_option Elab.async false
set_option linter.all false
set_option maxRecDepth 100000
set_option maxHeartbeats 2000000
namespace Eh
open PySem PySem.Spec PyProof.Rows L2
def NGd (n : Str × V) : Prop := nodeAB n.1 n.2 = true
theorem told_casesG {n : Str × V} (h : NGd n) : (∃ z, n.2 = .str z ∧ factS z = true) ∨ ∃ i, n.2 = .int i := by
  obtain ⟨k, t⟩ := n
  have h : nodeAB k t = true := h
  cases t with
  | str z => exact .inl ⟨z, rfl, node_str h⟩
  | int i => exact .inr ⟨i, rfl⟩
  | _ =>
    exfalso
    have hg : nodeAB k _ = true := h
    unfold nodeAB at hg
    split at hg
    · cases hg
    · split at hg
      · cases hg
      · rw [Bool.and_eq_true] at hg
        cases hg.2
theorem dp_nodeG {K : PySem.W.Frag} {H : Hp} {a : Addr} {n : Str × V} (h : SqT K H a [.str n.1, n.2]) (o : NGd n) : Dp K H (.ref a) (nodeD n) := by
  refine .tup h (.cons (.str n.1) (.cons ?_ .nil))
  rcases told_casesG o with ⟨z, e, _⟩ | ⟨i, e⟩
  · rw [e]
    exact .str z
  · rw [e]
    exact .int i
theorem dp_nodesG {K : PySem.W.Frag} {H : Hp} : ∀ {xs : List V} {ns : List (Str × V)}, NdsAt K H xs ns → (∀ n ∈ ns, NGd n) → DpAll K H xs (ns.map nodeD)
  | _, _, .nil, _ => .nil
  | _, _, .cons (k := k) (t := t) h r, o => .cons (dp_nodeG (n := (k, t)) h (o _ List.mem_cons_self)) (dp_nodesG r fun n hn => o n (List.mem_cons_of_mem _ hn))
theorem told_eqvG {a b : Str × V} (ha : NGd a) (hb : NGd b) : PyData.eqv (toldD a.2) (toldD b.2) = decide (a.2 = b.2) := by
  rcases told_casesG ha with ⟨z, e, _⟩ | ⟨i, e⟩ <;> rcases told_casesG hb with ⟨y, e', _⟩ | ⟨j, e'⟩ <;> rw [e, e']
  · show (z == y) = _
    rw [sbeq]
    exact decide_eq_decide.mpr ⟨fun h => by rw [h], fun h => by injection h⟩
  · show false = _
    exact (decide_eq_false (fun h => by cases h)).symm
  · show false = _
    exact (decide_eq_false (fun h => by cases h)).symm
  · show (i == j) = _
    rw [show (i == j) = decide (i = j) from by rw [Bool.eq_iff_iff, beq_iff_eq, decide_eq_true_iff]]
    exact decide_eq_decide.mpr ⟨fun h => by rw [h], fun h => by injection h⟩
theorem node_eqvG {a b : Str × V} (ha : NGd a) (hb : NGd b) : PyData.eqv (nodeD a) (nodeD b) = decide (a = b) := by
  show ((a.1 == b.1) && (PyData.eqv (toldD a.2) (toldD b.2) && true)) = _
  rw [told_eqvG ha hb, Bool.and_true, sbeq, Bool.eq_iff_iff, Bool.and_eq_true, decide_eq_true_iff, decide_eq_true_iff, decide_eq_true_iff]
  exact ⟨fun h => Prod.ext h.1 h.2, fun h => by rw [h]; exact ⟨rfl, rfl⟩⟩
theorem nodes_eqvAllG : ∀ {ns ms : List (Str × V)}, (∀ n ∈ ns, NGd n) → (∀ n ∈ ms, NGd n) → PyData.eqvAll (ns.map nodeD) (ms.map nodeD) = decide (ns = ms)
  | [], [], _, _ => rfl
  | [], b :: ms, _, _ => rfl
  | a :: ns, [], _, _ => rfl
  | a :: ns, b :: ms, ha, hb => by
    have ih := nodes_eqvAllG (fun n hn => ha n (List.mem_cons_of_mem _ hn)) (fun n hn => hb n (List.mem_cons_of_mem _ hn)) (ns := ns) (ms := ms)
    show (PyData.eqv (nodeD a) (nodeD b) && PyData.eqvAll (ns.map nodeD) (ms.map nodeD)) = _
    rw [ih, node_eqvG (ha a List.mem_cons_self) (hb b List.mem_cons_self), Bool.eq_iff_iff, Bool.and_eq_true, decide_eq_true_iff, decide_eq_true_iff, decide_eq_true_iff]
    exact ⟨fun h => by rw [h.1, h.2], fun h => by injection h with h1 h2; exact ⟨h1, h2⟩⟩
theorem nodes_eqvG {ns ms : List (Str × V)} (ha : ∀ n ∈ ns, NGd n) (hb : ∀ n ∈ ms, NGd n) : PyData.eqv (nodesD ns) (nodesD ms) = decide (ns = ms) := nodes_eqvAllG ha hb
theorem told_layG {n : Str × V} (h : NGd n) : PyData.canLay0 (toldD n.2) = true ∧ PyData.depth (toldD n.2) = 0 := by
  rcases told_casesG h with ⟨z, e, hz⟩ | ⟨i, e⟩
  · rw [e]
    refine ⟨?_, rfl⟩
    have ha := asc_fact hz
    show (z.cps.all fun c => decide (c < 0x110000)) = true
    rw [← Array.all_toList]
    exact List.all_eq_true.mpr fun c hc => decide_eq_true (by have := ha.2 c hc; omega)
  · rw [e]
    exact ⟨rfl, rfl⟩
theorem nodes_layAllG : ∀ {ns : List (Str × V)}, (∀ n ∈ ns, NGd n) → PyData.canLayAll0 (ns.map nodeD) = true ∧ PyData.depthAll (ns.map nodeD) ≤ 1
  | [], _ => ⟨rfl, Nat.zero_le _⟩
  | a :: ns, h => by
    obtain ⟨i1, i2⟩ := nodes_layAllG (fun n hn => h n (List.mem_cons_of_mem _ hn) : ∀ n ∈ ns, NGd n)
    have ha := h a List.mem_cons_self
    obtain ⟨t1, t2⟩ := told_layG ha
    have d1 : PyData.depth (nodeD a) = 1 := by
      show max 0 (max (PyData.depth (toldD a.2)) 0) + 1 = 1
      rw [t2]
      rfl
    refine ⟨?_, ?_⟩
    · show ((PyData.canLay0 (.str a.1) && (PyData.canLay0 (toldD a.2) && true)) && PyData.canLayAll0 (ns.map nodeD)) = true
      rw [kind_lay ha, t1, i1]
      rfl
    · show max (PyData.depth (nodeD a)) (PyData.depthAll (ns.map nodeD)) ≤ 1
      rw [d1]
      omega
theorem nodes_shapedG {ns : List (Str × V)} (h : ∀ n ∈ ns, NGd n) : SeqAt.shaped (nodesD ns) = true := by
  obtain ⟨a, b⟩ := nodes_layAllG h
  unfold SeqAt.shaped
  rw [show PyData.canLay0 (nodesD ns) = true from a, Bool.true_and]
  refine decide_eq_true ?_
  show PyData.depthAll (ns.map nodeD) + 1 ≤ 64
  omega
section
variable {P : Program} {w : World} {K : PySem.W.Frag} {mg : Str → Option Value} {base : Heap}
def spEqG (K : PySem.W.Frag) (C : Addr) : Sp := fun vs H Q _ => ∃ a b ns ms, vs = [.ref a, .ref b] ∧ PrG K C H a ns ∧ PrG K C H b ms ∧ Q (.bl (decide (ns = ms))) H
end
end Eh
set_option Elab.async false
set_option linter.all false
set_option maxRecDepth 100000
set_option maxHeartbeats 2000000
namespace Eh
open PySem PySem.Spec PyProof.Rows L2
theorem slA {X : Cx} {K : PySem.W.Frag} (h : X.K = K) : SlR X (rSlA K) := by subst h; exact sl_tupA
theorem cutD (xs : List V) (a b : Nat) (h : a ≤ xs.length) (h2 : a ≤ b) : cutV xs (some (a : Int)) (some (b : Int)) = (xs.drop a).take (b - a) := by
  unfold cutV
  rw [HT.sIx_nat, HT.sIx_nat, Nat.min_eq_left h]
  by_cases hb : b ≤ xs.length
  · rw [Nat.min_eq_left hb]
  · rw [Nat.min_eq_right (by omega), List.take_of_length_le (by rw [List.length_drop]; exact Nat.le_refl _), List.take_of_length_le (by rw [List.length_drop]; omega)]
end Eh
set_option Elab.async false
set_option linter.all false
set_option maxRecDepth 100000
set_option maxHeartbeats 2000000
set_option Elab.async false
set_option linter.all false
set_option maxRecDepth 100000
set_option maxHeartbeats 2000000
set_option Elab.async false
set_option linter.all false
set_option maxRecDepth 100000
set_option maxHeartbeats 2000000
set_option Elab.async false
set_option linter.all false
set_option maxRecDepth 100000
set_option maxHeartbeats 2000000
namespace Eh
open PySem PySem.Spec PyProof.Rows L2
section
variable {X : Cx} {pins : List (Addr × Obj)} {σ : L2.St} {H : Hp} {s : Shared} {n : Nat} {f C : Addr} {fd : FuncData} {ps : List Str} {sp : Sp} {CX : CXT} {E : XK}
/-- a call of an own def somewhere below -/
theorem run_own {A : Around} {us : List Value} {vs : List V} {Q : VK} (F : FnOk X.prog X.w X.K X.mg X.base CX n f fd ps sp) (hb : Binds X.K fd ps []) (hx : Passes CX X E) (sb : Sub X n A) (I : Inv X pins σ H s) (r : Vals vs us) (hsp : sp vs H Q E) :
    wpAny (model X.prog X.w) A (call (.ref f) us) (EP X pins σ Q) X.xe s := by
  have e0 : Env0 X.prog X.w X.K X.mg X.base A X.stack s H := by
    have e := I.env0
    exact ⟨by rw [sb.fr]; exact e.frames, e.mod, e.bs, e.bsz, e.funs, e.frf, e.hok, e.bare⟩
  have hl := F.len _ _ _ _ hsp
  have hu : us.length = ps.length := by rw [← r.length]; exact hl
  have b := hb s us I.kIn (by rw [List.append_nil]; exact hu)
  rw [List.append_nil] at b
  refine wpAny_call (codeAny_mono (F.run A X.stack s H ⟨us, []⟩ us vs Q E sb.room e0 b r hsp) fun r s' hq => ?_)
  cases r with
  | error e => exact hx pins σ H s e s' I hq
  | ok fl =>
    cases fl with
    | ret u => exact I.after hq
    | next => exact False.elim hq
    | brk => exact False.elim hq
    | cont => exact False.elim hq
def rEqOwn (C : Addr) (sp : Sp) (E : XK) : R2 := fun x y H Q => ∃ a b dx dy fs gs, x = .ref a ∧ y = .ref b ∧ H a = some (.ins C dx fs) ∧ H b = some (.ins C dy gs) ∧ sp [.ref a, .ref b] H (fun v H' => ∃ k, v = .bl k ∧ Q (.bl k) H') E
theorem eqOwn (F : FnOk X.prog X.w X.K X.mg X.base CX n f fd ps sp) (hr : Room n X.A) (hs : PySem.W.findIn X.K (.ref C) "__eq__" = some (some (.ref f))) (hf : PySem.W.isFn X.K (.ref f) = true) (hb : Binds X.K fd ps []) (hx : Passes CX X E) :
    OpR X (compareOp .Eq) (rEqOwn C sp E) := by
  intro pins s σ H x y v u Q I rx ry h
  obtain ⟨a, b, dx, dy, fs, gs, rfl, rfl, ha, hb', q⟩ := h
  cases rx
  cases ry
  obtain ⟨mA, J, _⟩ := ins_get I.hok ha
  obtain ⟨mB, J', _⟩ := ins_get I.hok hb'
  obtain ⟨od, J, _⟩ := J.look
  obtain ⟨od', J', _⟩ := J'.look
  obtain ⟨m, hF⟩ := I.fr
  show wpAny _ _ (richCompare .Eq _ _) _ _ _
  refine PySem.W.cmp_K (op := .Eq) (tb := .ref C) hr.units0 hF I.ok.mod.kin J J'.type (by simp [PySem.W.notFirst]) hs hf (wpAny_mono (run_own (us := [.ref a, .ref b]) (vs := [.ref a, .ref b]) F hb hx ⟨hr, rfl⟩ I (.cons rfl (.cons rfl .nil)) q) (fun r s' z => ?_) fun _ _ e => e)
  obtain ⟨z, H', I', rz, k, rfl, q'⟩ := z
  cases rz
  exact ⟨.bl k, H', I', rfl, q'⟩
end
end Eh
set_option Elab.async false
set_option linter.all false
set_option maxRecDepth 100000
set_option maxHeartbeats 4000000
namespace Eh
open PySem PySem.Spec PyProof.Rows L2
def puts (xs : List Str) : List Str := xs.foldl (fun ts x => put x ts) []
theorem put_mem (x z : Str) (ts : List Str) : z ∈ put x ts ↔ z = x ∨ z ∈ ts := by
  unfold put
  split
  · exact ⟨.inr, fun h => h.elim (fun e => by rw [e]; assumption) id⟩
  · exact List.mem_cons
theorem put_nodup {x : Str} {ts : List Str} (h : ts.Nodup) : (put x ts).Nodup := by
  unfold put
  split
  · exact h
  · exact List.nodup_cons.mpr ⟨by assumption, h⟩
theorem foldl_put_mem : ∀ (xs ts : List Str) (z : Str), z ∈ xs.foldl (fun ts x => put x ts) ts ↔ z ∈ xs ∨ z ∈ ts
  | [], ts, z => by simp
  | x :: xs, ts, z => by
    rw [List.foldl_cons, foldl_put_mem xs (put x ts) z, put_mem, List.mem_cons]
    constructor
    · rintro (h | h | h)
      · exact .inl (.inr h)
      · exact .inl (.inl h)
      · exact .inr h
    · rintro ((h | h) | h)
      · exact .inr (.inl h)
      · exact .inl h
      · exact .inr (.inr h)
theorem foldl_put_nodup : ∀ (xs ts : List Str), ts.Nodup → (xs.foldl (fun ts x => put x ts) ts).Nodup
  | [], ts, h => h
  | x :: xs, ts, h => foldl_put_nodup xs _ (put_nodup h)
theorem puts_mem (xs : List Str) (z : Str) : z ∈ puts xs ↔ z ∈ xs := by
  unfold puts
  rw [foldl_put_mem]
  exact ⟨fun h => h.elim id (fun h => nomatch h), .inl⟩
theorem puts_nodup (xs : List Str) : (puts xs).Nodup := foldl_put_nodup xs [] List.nodup_nil
end Eh
set_option Elab.async false
set_option linter.all false
set_option maxRecDepth 100000
set_option maxHeartbeats 2000000
namespace Eh
open PySem PySem.Spec PyProof.Rows L2
section
variable {X : Cx} {pins : List (Addr × Obj)} {σ : L2.St} {H : Hp} {s : Shared} {n : Nat} {f C : Addr} {fd : FuncData} {ps : List Str} {sp : Sp} {CX : CXT} {E : XK}
def rStrOwn (C : Addr) (sp : Sp) (E : XK) : List V → Hp → VK → Prop := fun xs H Q => ∃ a dx fs, xs = [.ref a] ∧ H a = some (.ins C dx fs) ∧ sp [.ref a] H (fun v H' => ∃ z, v = .str z ∧ Q (.str z) H') E
theorem strOwn (F : FnOk X.prog X.w X.K X.mg X.base CX n f fd ps sp) (hr : Room (n + 2) X.A) (hs : PySem.W.findIn X.K (.ref C) "__str__" = some (some (.ref f))) (hf : PySem.W.isFn X.K (.ref f) = true) (hb : Binds X.K fd ps []) (hx : Passes CX X E) :
    CallR X (.type "str") (rStrOwn C sp E) := by
  intro pins s σ H xs us Q I r h
  obtain ⟨a, dx, fs, rfl, ha, q⟩ := h
  rw [Vals.ref1 r]
  obtain ⟨mA, J, _⟩ := ins_get I.hok ha
  obtain ⟨od, J, _⟩ := J.look
  refine PySem.W.kso_call hr.in1.in1.units0 I.kIn J hs hf (wpAny_mono (run_own (us := [.ref a]) (vs := [.ref a]) F hb hx ⟨hr.in1.in1, rfl⟩ I (.cons rfl .nil) q) (fun u s' z => ?_) fun _ _ e => e)
  obtain ⟨v, H', I', rz, y, rfl, q'⟩ := z
  obtain ⟨t, rfl⟩ := rz
  exact ⟨.str y, H', I', ⟨t, rfl⟩, q'⟩
end
end Eh
set_option Elab.async false
set_option linter.all false
set_option maxRecDepth 100000
set_option maxHeartbeats 2000000
set_option Elab.async false
set_option linter.all false
set_option maxRecDepth 100000
set_option maxHeartbeats 2000000
set_option Elab.async false
set_option linter.all false
set_option maxRecDepth 100000
set_option maxHeartbeats 2000000
namespace Eh
open PySem PySem.Spec PyProof.Rows L2
def inR (v : V) (m : Int) : Bool := match v with
  | .int i => decide (0 ≤ i) && decide (i < m)
  | _ => false
def idxV (v : V) (m : Int) : Bool := intV v && inR v m
theorem intV_int {v : V} (h : intV v = true) : ∃ i, v = .int i := by
  cases v with
  | int i => exact ⟨i, rfl⟩
  | _ => cases h
section
variable {P : Program} {w : World} {K : PySem.W.Frag} {mg : Str → Option Value} {base : Heap}
def spIndex (K : PySem.W.Frag) : Sp := fun vs H Q _ => ∃ v m, vs = [v, .int m] ∧ KindI K H v ∧ Q (.bl (idxV v m)) H
theorem ok_is_index {fI f : Addr} {fdI fd : FuncData} (F : Fun K "is_index" "is_index" s_is_index f fd) (T : Txt mg) (C_is_integer : Cal P w K mg base 1 "is_integer" fI fdI ["value"] (spInteger K)) : FnOk P w K mg base CX0 2 f fd ["value", "many"] (spIndex K) := by
  refine F.ok sc_is_index (fun vs H Q E h => ?_) (fun cdv A outer s H vs Q E hr h => ?_)
  · obtain ⟨v, m, rfl, _⟩ := h
    rfl
  · obtain ⟨v, m, rfl, hk, q⟩ := h
    refine ⟨_, (pss_one (ps_ret (pe_and (pe_call C_is_integer.G hr (by rfl) C_is_integer.m C_is_integer.k C_is_integer.b .nil pass0 (pa_cons (pv 0) pa_nil)) (pe_one (pe_chain op_le op_lt pe_int (pv 0) (pv 1)))))), ?_⟩
    refine ⟨_, rfl, v, rfl, hk, intV v, rfl, ?_⟩
    unfold idxV at q
    cases e : intV v with
    | false =>
      rw [e] at q
      exact iteF q
    | true =>
      obtain ⟨i, rfl⟩ := intV_int e
      rw [e] at q
      refine iteT ?_
      refine ⟨_, rfl, 0, i, rfl, rfl, decide (0 ≤ i), rfl, ?_⟩
      have q : Q (.bl (decide (0 ≤ i) && decide (i < m))) H := q
      by_cases h0 : 0 ≤ i
      · rw [decide_eq_true h0] at q ⊢
        refine iteT ⟨_, rfl, i, m, rfl, rfl, ?_⟩
        exact q
      · rw [decide_eq_false h0] at q ⊢
        exact iteF q
end
end Eh
set_option Elab.async false
set_option linter.all false
set_option maxRecDepth 100000
set_option maxHeartbeats 2000000
namespace Eh
open PySem PySem.Spec PyProof.Rows L2
inductive OddV (K : PySem.W.Frag) (H : Hp) : V → String → Prop
  | non : OddV K H .non "NoneType"
  | bl (b : Bool) : OddV K H (.bl b) "bool"
  | int (i : Int) : OddV K H (.int i) "int"
  | str (z : Str) : OddV K H (.str z) "str"
  | tup {a : Addr} {xs : List V} (h : SqT K H a xs) : OddV K H (.ref a) "tuple"
  | dK {a : Addr} {kvs : List (Key × V)} (h : H a = some (.dK kvs)) : OddV K H (.ref a) "dict"
structure OffC (K : PySem.W.Frag) (C : Addr) : Prop where
  sN : PySem.W.subIn K (.ref C) (.type "NoneType") = some false
  sB : PySem.W.subIn K (.ref C) (.type "bool") = some false
  sI : PySem.W.subIn K (.ref C) (.type "int") = some false
  sS : PySem.W.subIn K (.ref C) (.type "str") = some false
  sT : PySem.W.subIn K (.ref C) (.type "tuple") = some false
  sD : PySem.W.subIn K (.ref C) (.type "dict") = some false
  kN : PySem.W.kitOne K (.type "NoneType") (.ref C) = some false
  kB : PySem.W.kitOne K (.type "bool") (.ref C) = some false
  kI : PySem.W.kitOne K (.type "int") (.ref C) = some false
  kS : PySem.W.kitOne K (.type "str") (.ref C) = some false
  kT : PySem.W.kitOne K (.type "tuple") (.ref C) = some false
  kD : PySem.W.kitOne K (.type "dict") (.ref C) = some false
theorem OddV.kit {K : PySem.W.Frag} {H : Hp} {C : Addr} {v : V} {T : String} (h : OddV K H v T) (o : OffC K C) : PySem.W.kitOne K (.type T) (.ref C) = some false := by
  cases h with
  | non => exact o.kN
  | bl => exact o.kB
  | int => exact o.kI
  | str => exact o.kS
  | tup => exact o.kT
  | dK => exact o.kD
theorem tyTup {K : PySem.W.Frag} {H : Hp} {a : Addr} {xs : List V} (h : SqT K H a xs) : TyX K H (.ref a) (.type "tuple") := by
  rcases h with (h | ⟨o, h⟩) | ⟨o, its, n, h1, h2, _⟩
  · exact .base (.tup h)
  · exact .fTuple h
  · exact .kTuple h1 h2
theorem OddV.ty {K : PySem.W.Frag} {H : Hp} {v : V} {T : String} (h : OddV K H v T) : TyX K H v (.type T) := by
  cases h with
  | non => exact .base .non
  | bl b => exact .base (.bl b)
  | int i => exact .base (.int i)
  | str z => exact .base (.str z)
  | tup h => exact tyTup h
  | dK h => exact .base (.dK h)
theorem OddV.same {K : PySem.W.Frag} {H H' : Hp} {v : V} {T : String} (h : OddV K H v T) (s : Same H H') : OddV K H' v T := by
  cases h with
  | non => exact .non
  | bl b => exact .bl b
  | int i => exact .int i
  | str z => exact .str z
  | tup h => exact .tup ((stk s).seq h)
  | dK h => exact .dK (s _ _ h)
section
variable {P : Program} {w : World} {K : PySem.W.Frag} {mg : Str → Option Value} {base : Heap}
def spEqA (K : PySem.W.Frag) (C : Addr) : Sp := fun vs H Q _ => (∃ a b ns ms, vs = [.ref a, .ref b] ∧ PrG K C H a ns ∧ PrG K C H b ms ∧ Q (.bl (decide (ns = ms))) H) ∨ ∃ a v T, vs = [.ref a, v] ∧ OddV K H v T ∧ Q (.bl false) H
theorem ok_eqA {C fI fL f : Addr} {fd : FuncData} (F : Fun K "__eq__" "Promise.__eq__" s_Promise___eq__ f fd) (T : Txt mg) (PC : PromC K mg C fI fL) (IC : IsC K C) (o : OffC K C) : FnOk P w K mg base CX0 1 f fd ["self", "value"] (spEqA K C) := by
  refine F.ok sc_Promise___eq__ (fun vs H Q E h => ?_) (fun cdv A outer s H vs Q E hr h => ?_)
  · rcases h with ⟨a, b, ns, ms, rfl, _⟩ | ⟨a, v, T, rfl, _⟩ <;> rfl
  · refine ⟨_, (pss_one (ps_ret (pe_and (pe_callB (isiQ (K := K) rfl) (by rfl) T.isinstance_ (by decide +kernel) (pa_cons (pv 1) (pa_cons (pe_glob (v := .ref C) rfl PC.g rfl) pa_nil))) (pe_one (pe_cmpR (eqD (K := K) rfl (hu64e hr)) (pe_fld (pv 0) rfl) (pe_fld (pv 1) rfl) (nomark _)))))), ?_⟩
    rcases h with ⟨a, b, ns, ms, rfl, ⟨dx, p, xs, ha, hs, hN, ho⟩, ⟨dy, r, ys, hb, hs2, hN2, ho2⟩, q⟩ | ⟨a, v, T, rfl, od, q⟩
    · refine ⟨_, rfl, .ref b, .ref C, .ref C, .ref C, true, rfl, .own _, .base (.ins hb PC.cl IC.cls IC.sp IC.tk IC.mro), IC.self, _, rfl, iteT ?_⟩
      refine ⟨_, rfl, a, C, dx, _, .ref p, rfl, ha, PC.cl, PC.nn, rfl, _, rfl, b, C, dy, _, .ref r, rfl, hb, PC.cl, PC.nn, rfl, ?_⟩
      refine ⟨nodesD ns, nodesD ms, .tup hs (dp_nodesG hN ho), .tup hs2 (dp_nodesG hN2 ho2), nodes_shapedG ho, nodes_shapedG ho2, ?_⟩
      rw [nodes_eqvG ho ho2]
      exact q
    · exact ⟨_, rfl, v, .ref C, .type T, .ref C, false, rfl, .own _, od.ty, od.kit o, _, rfl, iteF q⟩
end
end Eh
set_option Elab.async false
set_option linter.all false
set_option maxRecDepth 100000
set_option maxHeartbeats 2000000
namespace Eh
open PySem PySem.Spec PyProof.Rows L2
mutual
def innerOf : Pl → List Pl
  | .leaf k t => [.leaf k t]
  | .node k ps => .node k ps :: innerAll ps
def innerAll : List Pl → List Pl
  | [] => []
  | p :: ps => innerOf p ++ innerAll ps
end
/-- what stands at each place of the nodes -/
inductive DropI : List (Str × V) → List Pl → Prop
  | nil : DropI [] []
  | cons {p : Pl} {ns : List (Str × V)} {ps : List Pl} {n : Str × V} : (∃ r, n :: ns = nodesOf p ++ r) → DropI ns ps → DropI (n :: ns) (p :: ps)
theorem DropI.get : ∀ {ns : List (Str × V)} {ps : List Pl}, DropI ns ps → ∀ {i : Nat} {p : Pl}, ps[i]? = some p → i < ns.length ∧ ∃ r, ns.drop i = nodesOf p ++ r
  | _, _, .nil, i, p, h => by simp at h
  | _, _, .cons (p := q) (n := n) (ns := ns) hr t, 0, p, h => by
    cases (show some q = some p from h)
    exact ⟨Nat.succ_pos _, hr⟩
  | _, _, .cons hr t, i + 1, p, h => by
    obtain ⟨a, b⟩ := t.get (i := i) h
    exact ⟨Nat.succ_lt_succ a, b⟩
theorem DropI.length : ∀ {ns : List (Str × V)} {ps : List Pl}, DropI ns ps → ps.length = ns.length
  | _, _, .nil => rfl
  | _, _, .cons _ t => by rw [List.length_cons, List.length_cons, t.length]
theorem AtAll.app {K : PySem.W.Frag} {H : Hp} : ∀ {vs us : List V} {ps qs : List Pl}, AtAll K H vs ps → AtAll K H us qs → AtAll K H (vs ++ us) (ps ++ qs)
  | _, _, _, _, .nil, h => h
  | _, _, _, _, .cons h r, h' => .cons h (r.app h')
end Eh
set_option Elab.async false
set_option linter.all false
set_option maxRecDepth 100000
set_option maxHeartbeats 2000000
namespace Eh
open PySem PySem.Spec PyProof.Rows L2
structure FnT (P : Program) (w : World) (K : PySem.W.Frag) (mg : Str → Option Value) (base : Heap) (k : Nat) (f : Addr) (fd : FuncData) (ps : List Str) (sp : Sp) : Prop where
  len : ∀ vs H Q E, sp vs H Q E → vs.length = ps.length
  run : ∀ (A : Around) (outer : List Env) (s : Shared) (H : Hp) (args : Args) (us : List Value) (vs : List V) (Q : VK) (E : XK), 1 ≤ s.toks → Room k A → Env0 P w K mg base A outer s H →
    BindsTo s fd args (ps.zip us) → Vals vs us → sp vs H Q E → codeAny (model P w) A (.call (.ref f) args) (CR CX0 outer P w H s Q E) s
section
variable {P : Program} {w : World} {K : PySem.W.Frag} {mg : Str → Option Value} {base : Heap}
theorem funT {x qual : Str} {st : Stmt} {f : Addr} {fd : FuncData} {N ps : List Str} {k : Nat} {sp : Sp} (F : Fun K x qual st f fd) (S : FnScope N ps (defScope st)) (len : ∀ vs H Q E, sp vs H Q E → vs.length = ps.length)
    (body : ∀ (cdv : Value) (A : Around) (outer : List Env) (s : Shared) (H : Hp) (vs : List V) (Q : VK) (E : XK),
      Room k (A.deeper (envOfC qual (defScope st) s.heap.objs.size f cdv)) → sp vs H Q E →
      ∃ t, PSsT (cxOf CX0 P w K mg base N qual (defScope st) f cdv A outer s H E).nox (defBody st) t ∧ t { nx := fun _ H' => Q .non H', rt := Q } (start N vs) H) : FnT P w K mg base (k + 1) f fd ps sp where
  len := len
  run A outer s H args us vs Q E ht0 hr e0 hb r hsp := by
    obtain ⟨oc, od, kV, doc, pm, an, cdv, ct, osl, rfl, lk, hcd⟩ := F.ex
    have old := fun b o e => (e0.bs b o e).1
    have KX := e0.mod.kin.keeps old
    have ok := fun (y : Str × Value) (hy : y ∈ ps.zip us) => S.par y.1 (List.of_mem_zip (a := y.1) (b := y.2) hy).1
    refine codeAny_call_function hr.depth (KX _ _ lk) rfl S.co S.gen rfl (PySem.W.codeRec_of KX hcd) (hb _ _ _ _ ?_)
    refine wpAny_mono (PySem.wpAny_toks (wpAny_newFunctionEnv_cells (Q := fun env s1 => env = envOfC qual (defScope st) s.heap.objs.size f cdv ∧
      InCallC s env.locals (bindL env.kindOf (ps.zip us) fun _ => none) env.cells (bindC env.kindOf (ps.zip us) fun _ => none) s1) S.kind (fun y hy => (ok y hy).imp id fun q => ⟨q, PySem.W.cellsFrom_some _ _ _ (.inl q)⟩) fun env he s1 x => ⟨he, x⟩)) (fun env s1 z => ?_) fun _ _ z => z.2
    obtain ⟨hk, he, x⟩ := z
    cases he
    obtain ⟨t, ht, hq⟩ := body cdv A outer s H vs Q E (hr.deeper _) hsp
    refine ⟨(e0.mod.nolimit.keeps old).keeps x.toInCall.keep, codeAny_func ?_⟩
    have I := inv_start (CX := CX0) (E := E) S hr.hd e0 (len _ _ _ _ hsp) r x
    refine wpAny_mono (ht [] s1 (start N vs) H _ (Nat.le_trans ht0 hk) (I.wish _) hq) (fun fl s' hs => ?_) fun _ _ h => False.elim h
    have fin {σ' : L2.St} {H' : Hp} {v : V} {u : Value} (J : Inv (cxOf CX0 P w K mg base N qual (defScope st) f cdv A outer s H E) [] σ' H' s') (rv : RelV v u) (q : Q v H') : CE outer P w H s Q u s' := ⟨v, H', J.os, J.bare, J.base, J.hok, rv, q⟩
    match fl, hs with
    | .ret u, ⟨v, _, _, J, rv, q⟩ => exact fin J.unwish rv q
    | .next, ⟨_, _, J, q⟩ => exact fin (v := V.non) J.unwish rfl q
    | .brk, ⟨_, _, _, q⟩ => exact q.elim
    | .cont, ⟨_, _, _, q⟩ => exact q.elim
end
section
variable {X : Cx} {pins : List (Addr × Obj)} {σ : L2.St} {H : Hp} {s : Shared} {k : Nat} {f : Addr} {fd : FuncData} {ps : List Str} {sp : Sp}
theorem run_fnT {us : List Value} {vs : List V} {Q : VK} (F : FnT X.prog X.w X.K X.mg X.base k f fd ps sp) (hr : Room k X.A) (hb : Binds X.K fd ps []) (ht : 1 ≤ s.toks) (I : Inv X pins σ H s) (r : Vals vs us) (hsp : sp vs H Q E0) :
    wpAny (model X.prog X.w) X.A (call (.ref f) us) (EP X pins σ Q) X.xe s := by
  have hl := F.len _ _ _ _ hsp
  have hu : us.length = ps.length := by rw [← r.length]; exact hl
  have b := hb s us I.kIn (by rw [List.append_nil]; exact hu)
  rw [List.append_nil] at b
  refine wpAny_call (codeAny_mono (F.run X.A X.stack s H ⟨us, []⟩ us vs Q E0 ht hr I.env0 b r hsp) fun r s' hq => ?_)
  cases r with
  | error e => exact False.elim hq
  | ok fl =>
    cases fl with
    | ret u => exact I.after hq
    | next => exact False.elim hq
    | brk => exact False.elim hq
    | cont => exact False.elim hq
/-- f(e, ..), f wants a token out -/
theorem pet_callT {x : Str} {p pos : Pos} {e : Expr} {es : List Expr} {t : TA} (F : FnT X.prog X.w X.K X.mg X.base k f fd ps sp) (hr : Room k X.A) (hg : Gl X x) (hm : X.mg x = some (.ref f)) (hk : PySem.W.keepIn X.K (.ref f) = true) (hb : Binds X.K fd ps []) (ha : PA X (e :: es) t)
    (hdb : (x == ("__debug__" : Str)) = false := by decide) (he : starEach (e :: es) X.env = (false, eval e X.env) :: starEach es X.env := by rfl)
    (hpl : (backTo pos (starEach es X.env)).any (·.1) = false := by rfl) : PET X (.Call (.Name x p) (e :: es) [] pos) (fun σ H Q => t σ H fun vs H1 => sp vs H1 Q E0) := by
  intro pins s σ H Q ht I h
  refine wpAny_Call_Name_kw (ld_glob I hg hm (PySem.W.callWith_K (h₀ := X.base) I.ok.mod.kin hk (wpAny_mono (PySem.wpAny_toks (ha.run pos pins s σ H _ I h)) (fun us s1 hh => ?_) fun _ _ z => z.2) he hpl) hdb)
  obtain ⟨hk2, vs, H1, I1, r, q⟩ := hh
  exact ⟨I1.kIn, run_fnT F hr hb (Nat.le_trans ht hk2) I1 r q⟩
theorem pst_set {i : Nat} {x : Str} {e : Expr} {te : TE} {pos' pos : Pos} (hN : X.N.Nodup) (hi : X.N[i]? = some x) (hx : Loc X.env.scope x) (he : PET X e te) (hs : swapsWith e (some (.Name x pos')) pos.line X.env = pure false := by rfl) (hf : X.fn x = true ∨ X.env.scope.names.lookup x = some .local := by first | exact .inl rfl | exact .inr rfl | assumption) :
    PST X (.Assign [.Name x pos'] e pos) (tAsg te (gName i)) := by
  intro pins s σ H D h0 I h
  refine wpAny_Assign_Name (thn (he pins s σ H _ h0 I h) fun v s1 ⟨y, H1, I1, r1, q1⟩ => ?_) hs
  exact store_ok I1 hN hi hx r1 (fun s2 I2 => ⟨_, H1, I2, q1⟩) hf
def rGetL (K : PySem.W.Frag) : V → V → Hp → VK → Prop := fun o i H Q => ∃ p xs k v, o = .ref p ∧ i = .int k ∧ SqL K H p xs ∧ 0 ≤ k ∧ k < 2 ^ 63 ∧ xs[k.toNat]? = some v ∧ Q v H
theorem get_list : PGet X (rGetL X.K) := by
  intro pins s σ H o i ov iv Q I ro ri h
  obtain ⟨p, xs, k, v, rfl, rfl, hq, h0, hf, hv, q⟩ := h
  cases ro
  obtain ⟨t, rfl⟩ := ri
  obtain ⟨its, r, pl, hz⟩ := I.list hq
  obtain ⟨w, ew, rw'⟩ := r.get hv
  exact wpAny_getItem_list pl.isList h0 hf (by simpa using ew) ⟨v, H, I, rw', q⟩
def tMakeL (i : Nat) (C : Addr) (sp : Sp) (E : L2.St → XK) (t : TA) : TE := fun σ H Q => σ[i]? = some (some (.ref C)) ∧ tMakeS C sp E t σ H Q
theorem pe_makeL {CX : CXT} {C : Addr} {E : L2.St → XK} {i : Nat} {x : Str} {p pos : Pos} {e : Expr} {es : List Expr} {t : TA} (M : Mk X.K C f) (F : FnOk X.prog X.w X.K X.mg X.base CX k f fd ps sp) (hr : Room (k + 1) X.A) (hN : X.N[i]? = some x) (hv : Vis X.env.scope x) (hb : Binds X.K fd ps []) (hx : ∀ σ, PassesAt CX X σ (E σ))
    (ha : PA X (e :: es) t) (hdb : (x == ("__debug__" : Str)) = false := by decide) (hcd : (x == ("__classdict__" : Str)) = false := by decide) (he : starEach (e :: es) X.env = (false, eval e X.env) :: starEach es X.env := by rfl) (hpl : (backTo pos (starEach es X.env)).any (·.1) = false := by rfl) :
    PE X (.Call (.Name x p) (e :: es) [] pos) (tMakeL i C sp E t) := by
  refine ⟨fun pins s σ H Q I h => ?_⟩
  obtain ⟨hs, h⟩ := h
  refine wpAny_Call_Name_kw (thn ((pe_var (pos := p) hN hv hdb hcd).run pins s σ H (fun v H1 => v = .ref C ∧ H1 = H) I ⟨.ref C, hs, rfl, rfl⟩) fun u s1 ⟨v, H1, I1, r1, q1⟩ => ?_)
  obtain ⟨rfl, rfl⟩ := q1
  cases r1
  refine PySem.W.callWith_K (h₀ := X.base) I.ok.mod.kin M.kp (thn (ha.run pos pins s1 σ _ _ I1 h) fun us s2 ⟨vs, H2, I2, r, q⟩ => ⟨I2.kIn, ?_⟩) he hpl
  exact run_makeS M F hr hb (hx σ) I2 r q
end
end Eh
set_option Elab.async false
set_option linter.all false
set_option maxRecDepth 100000
set_option maxHeartbeats 2000000
namespace Eh
open PySem PySem.Spec PyProof.Rows L2
open ClX
section
variable {X : Cx} {pins : List (Addr × Obj)} {σ : L2.St} {H : Hp} {s : Shared} {k : Nat} {g C p : Addr} {fd : FuncData} {ps : List Str} {sp : Sp} {mc : Value} {m : Str} {o : Expr} {ta : TE} {apos pos : Pos} {pl : Sem Bool}
theorem run_cmT {q : Addr} {Q : VK} {us : List Value} {vs : List V} (F : FnT X.prog X.w X.K X.mg X.base k g fd ps sp) (hb : Binds X.K fd ps []) (hr : Room k X.A) (ht : 1 ≤ s.toks) (I : Inv X ((q, PySem.W.methodObj (.ref g) (.ref C)) :: pins) σ H s)
    (r : Vals vs us) (h : sp (.ref C :: vs) H Q E0) : wpAny (model X.prog X.w) X.A (call (.ref q) us) (EP X pins σ Q) X.xe s := by
  have hl := F.len _ _ _ _ h
  have r2 : Vals (V.ref C :: vs) (Value.ref C :: us) := .cons rfl r
  have hu : (Value.ref C :: us).length = ps.length := by rw [← r2.length]; exact hl
  have b := hb s (Value.ref C :: us) I.kIn (by rw [List.append_nil]; exact hu)
  rw [List.append_nil] at b
  have z : wpAny (model X.prog X.w) X.A (call (.ref q) us) (EP X ((q, PySem.W.methodObj (.ref g) (.ref C)) :: pins) σ Q) X.xe s := by
    refine wpAny_call (PySem.W.method_call (pin_at I) (codeAny_mono (F.run X.A X.stack s H ⟨.ref C :: us, []⟩ (.ref C :: us) (.ref C :: vs) Q E0 ht hr I.env0 b r2 h) fun r s' hq => ?_))
    cases r with
    | error e => exact False.elim hq
    | ok fl =>
      cases fl with
      | ret u => exact I.after hq
      | next => exact False.elim hq
      | brk => exact False.elim hq
      | cont => exact False.elim hq
  exact thn z fun _ _ y => unpinE y
/-- C.m('..') of a def that wants a token out -/
theorem pe_cmethS {z : Str} {j : Nat} {cp : Pos} (he : PE X o ta) (r : CRead X.K C mc) (c : CMet X.K C mc m p g) (F : FnT X.prog X.w X.K X.mg X.base k g fd ps sp) (hb : Binds X.K fd ps []) (hr : Room k X.A)
    (hst : starEach [.Constant (.str z) j cp] X.env = (false, eval (.Constant (.str z) j cp) X.env) :: starEach [] X.env := by rfl) (hpl : (backTo pos (starEach [] X.env)).any (·.1) = false := by rfl)
    (ht : eval (.Call (.Attribute o m apos) [.Constant (.str z) j cp] [] pos) X.env = (do
      let ov ← eval o X.env
      standAt apos.atName
      let (f, first) ← holding [ov] (getMethod ov m pl)
      callWith pos f first (backTo pos (starEach [.Constant (.str z) j cp] X.env)) (backToKw pos (keywordEach [] X.env))) := by rfl) :
    PE X (.Call (.Attribute o m apos) [.Constant (.str z) j cp] [] pos) (fun σ H Q => ta σ H fun x H1 => x = .ref C ∧ sp [.ref C, .str z] H1 Q E0) := by
  refine ⟨fun pins s σ H Q I h => ?_⟩
  refine PySem.W.methodCall_KW (pl := pl) (thn (he.run pins s σ H _ I h) fun u s1 ⟨x, H1, I1, rx, ex, q⟩ => ?_) ht
  subst ex
  obtain rfl : u = Value.ref C := rx
  refine getmethcm_ok I1 r c fun s2 I2 => ?_
  refine callwith_cm I2 (base_none I1 (Nat.le_refl _)) c.fi ?_ hst hpl
  show wpAny _ _ (spliced (backTo pos (starEach [.Constant (.str z) j cp] X.env))) _ _ s2
  rw [hst]
  show wpAny _ _ (spliced ((false, eval (.Constant (.str z) j cp) X.env) :: backTo pos (starEach [] X.env))) _ _ s2
  refine Calls.spliced_cons (Calls.Constant_str (Calls.spliced_nil ?_))
  have I3 := I2.tok (s2.toks + 1)
  exact ⟨⟨pin_at I3, I3.kIn⟩, run_cmT (vs := [.str z]) F hb hr (by show 1 ≤ s2.toks + 1; omega) I3 (.cons ⟨s2.toks, rfl⟩ .nil) q⟩
end
end Eh
set_option Elab.async false
set_option linter.all false
set_option maxRecDepth 100000
set_option maxHeartbeats 4000000
namespace Eh
open PySem PySem.Spec PyProof.Rows L2
open CwR
def parens : List Str := ["(", "["]
def closes : List Str := [")", "]"]
def signs4 : List Str := ["&", "+", "|", "*"]
def kindOfSign (z : Str) : Str := if z = "&" then "all" else if z = "+" then "mine" else if z = "|" then "some" else "yours"
def repl4 (z : Str) : Str := Txt.replace (Txt.replace (Txt.replace (Txt.replace z "(" "( ") "[" "[ ") ")" " )") "]" " ]"
def split4 (z : Str) : List Str := Txt.split (repl4 z) " "
def plainN (z : Str) : Str × V := if sureKinds.contains z = true then (z, .int 0) else if Txt.startswith z "!" = true then ("not", .str (cutS z (some 1) none)) else ("fact", .str z)
structure SignedAt (K : PySem.W.Frag) (w : World) (mg : Str → Option Value) (p : Addr) : Prop where
  g : mg "SIGNED" = some (.ref p)
  d : ∃ es n, KDict K w p es n ∧ ∀ z, ∃ r, PySem.W.nsIn K p z = some r ∧ r.isSome = signs4.contains z
  v : ∀ z, signs4.contains z = true → KDct K w p z (.str (kindOfSign z))
theorem sign_cases {k : Str} (h : signs4.contains k = true) : k = "&" ∨ k = "+" ∨ k = "|" ∨ k = "*" := by
  unfold signs4 at h
  rw [List.contains_iff_mem] at h
  simpa only [List.mem_cons, List.not_mem_nil, or_false] using h
theorem signed_mk {K : PySem.W.Frag} {w : World} {mg : Str → Option Value} {p : Addr} {n : Nat} {h1 h2 h3 h4 : Int} {t1 t2 t3 t4 u1 u2 u3 u4 : Tok} (g : mg "SIGNED" = some (.ref p))
    (l : K.lookup p = some ⟨.type "dict", none, .dict #[⟨h1, .str "&" t1, .str "all" u1⟩, ⟨h2, .str "+" t2, .str "mine" u2⟩, ⟨h3, .str "|" t3, .str "some" u3⟩, ⟨h4, .str "*" t4, .str "yours" u4⟩] n, #[]⟩)
    (hh : PySem.W.KeysLit w.params [⟨h1, .str "&" t1, .str "all" u1⟩, ⟨h2, .str "+" t2, .str "mine" u2⟩, ⟨h3, .str "|" t3, .str "some" u3⟩, ⟨h4, .str "*" t4, .str "yours" u4⟩]) (low : (p == sysModules) = false) : SignedAt K w mg p := by
  have i (x z : Str) (t : Tok) : (Value.str x t).isStr z = (x == z) := rfl
  have e (z : Str) : PySem.W.nsIn K p z = (match List.find? (fun x => x.key.isStr z) [(⟨h1, .str "&" t1, .str "all" u1⟩ : DictEntry), ⟨h2, .str "+" t2, .str "mine" u2⟩, ⟨h3, .str "|" t3, .str "some" u3⟩, ⟨h4, .str "*" t4, .str "yours" u4⟩] with
          | some e => some (some e.val)
          | none => if (List.any [(⟨h1, .str "&" t1, .str "all" u1⟩ : DictEntry), ⟨h2, .str "+" t2, .str "mine" u2⟩, ⟨h3, .str "|" t3, .str "some" u3⟩, ⟨h4, .str "*" t4, .str "yours" u4⟩] fun x => x.refKey) = true then none else some none) := by
    unfold PySem.W.nsIn
    rw [l]
    rfl
  refine ⟨g, ⟨_, n, ⟨l, hh, low⟩, fun z => ?_⟩, fun k hk => ?_⟩
  · have c : signs4.contains z = (("&" : Str) == z || (("+" : Str) == z || (("|" : Str) == z || (("*" : Str) == z || false)))) := (inV_strs z signs4).symm
    rw [c, e]
    cases e1 : (("&" : Str) == z) with
    | true => exact ⟨some (.str "all" u1), by simp only [List.find?_cons, i, e1], rfl⟩
    | false =>
      cases e2 : (("+" : Str) == z) with
      | true => exact ⟨some (.str "mine" u2), by simp only [List.find?_cons, i, e1, e2], by simp⟩
      | false =>
        cases e3 : (("|" : Str) == z) with
        | true => exact ⟨some (.str "some" u3), by simp only [List.find?_cons, i, e1, e2, e3], by simp⟩
        | false =>
          cases e4 : (("*" : Str) == z) with
          | true => exact ⟨some (.str "yours" u4), by simp only [List.find?_cons, i, e1, e2, e3, e4], by simp⟩
          | false => exact ⟨none, by simp only [List.find?_cons, i, e1, e2, e3, e4, List.find?_nil]; rfl, by simp⟩
  · rcases sign_cases hk with rfl | rfl | rfl | rfl
    · exact ⟨_, n, .str "all" u1, l, hh, by rw [e]; simp only [List.find?_cons, i, show (("&" : Str) == "&") = true from by decide +kernel], ⟨u1, rfl⟩⟩
    · exact ⟨_, n, .str "mine" u2, l, hh, by rw [e]; simp only [List.find?_cons, i, show (("&" : Str) == "+") = false from by decide +kernel, show (("+" : Str) == "+") = true from by decide +kernel], ⟨u2, by rw [show kindOfSign "+" = "mine" from by decide +kernel]⟩⟩
    · exact ⟨_, n, .str "some" u3, l, hh, by rw [e]; simp only [List.find?_cons, i, show (("&" : Str) == "|") = false from by decide +kernel, show (("+" : Str) == "|") = false from by decide +kernel, show (("|" : Str) == "|") = true from by decide +kernel], ⟨u3, by rw [show kindOfSign "|" = "some" from by decide +kernel]⟩⟩
    · exact ⟨_, n, .str "yours" u4, l, hh, by rw [e]; simp only [List.find?_cons, i, show (("&" : Str) == "*") = false from by decide +kernel, show (("+" : Str) == "*") = false from by decide +kernel, show (("|" : Str) == "*") = false from by decide +kernel, show (("*" : Str) == "*") = true from by decide +kernel], ⟨u4, by rw [show kindOfSign "*" = "yours" from by decide +kernel]⟩⟩
def rInSg (p : Addr) : R2 := fun x y H Q => ∃ z : Str, x = .str z ∧ y = .ref p ∧ Q (.bl (signs4.contains z)) H
theorem rep_len (z y n : Str) (h : n.length = 2) : (Txt.replace z y n).length ≤ 3 * z.length + 2 := by
  have := TK.replace_len z y n
  rw [h] at this
  omega
section
variable {P : Program} {w : World} {K : PySem.W.Frag} {mg : Str → Option Value} {base : Heap}
theorem inSg {X : Cx} {p : Addr} (S : SignedAt K w mg p) (h : X.K = K) (hw : X.w = w) : OpR X (compareOp .In) (rInSg p) := by
  subst h hw
  obtain ⟨es, n, D, hz⟩ := S.d
  intro pins s σ H x y v u Q I rx ry ⟨z, e1, e2, q⟩
  obtain ⟨r, hr, hs⟩ := hz z
  exact op_in_kd D pins s σ H x y v u Q I rx ry ⟨z, r, e1, e2, hr, by rw [hs]; exact q⟩
def spSplit : Sp := fun vs H Q _ => ∃ z, vs = [.str z] ∧ z.length ≤ 9000 ∧ ∀ p, H p = none → Q (.ref p) (upd H p (.lst ((split4 z).map V.str)))
theorem ok_split {f : Addr} {fd : FuncData} (F : Fun K "_split" "_split" s__split f fd) : FnT P w K mg base 1 f fd ["text"] spSplit := by
  refine funT F sc__split (fun vs H Q E h => ?_) (fun cdv A outer s H vs Q E hr h => ?_)
  · obtain ⟨z, rfl, _⟩ := h
    rfl
  · obtain ⟨z, rfl, hz, q⟩ := h
    refine ⟨_, psst_cons (pst_set (i := 1) sc__split.nd rfl (.inl rfl) (pet_replT (pet_replT (pet_replT (pet_replT (PET.of (pv 0)))))))
      (PSsT.of (pss_one (ps_ret (pe_split (pv 1) pe_str)))), ?_⟩
    have h1 := rep_len z "(" "( " (by decide +kernel)
    have h2 := rep_len (Txt.replace z "(" "( ") "[" "[ " (by decide +kernel)
    have h3 := rep_len (Txt.replace (Txt.replace z "(" "( ") "[" "[ ") ")" " )" (by decide +kernel)
    have h4 := rep_len (Txt.replace (Txt.replace (Txt.replace z "(" "( ") "[" "[ ") ")" " )") "]" " ]" (by decide +kernel)
    have l1 : ("( " : Str).length = 2 := by decide +kernel
    have l2 : ("[ " : Str).length = 2 := by decide +kernel
    have l3 : (" )" : Str).length = 2 := by decide +kernel
    have l4 : (" ]" : Str).length = 2 := by decide +kernel
    refine ⟨_, rfl, z, rfl, by rw [l1]; omega, _, rfl, by rw [l2]; omega, _, rfl, by rw [l3]; omega, _, rfl, by rw [l4]; omega, ?_⟩
    refine ⟨_, rfl, ⟨_, rfl⟩, _, _, rfl, rfl, by decide +kernel, Nat.le_of_lt (small (by omega)), fun p np => ?_⟩
    exact q p np
def spPlainN : Sp := fun vs H Q _ => ∃ z, vs = [.str z] ∧ z.length ≤ 900000 ∧ ∀ p H', Same H H' → H p = none → H' p = some (.tup [.str (plainN z).1, (plainN z).2]) → Q (.ref p) H'
theorem ok_plain_node {f : Addr} {fd : FuncData} (F : Fun K "_plain_node" "_plain_node" s__plain_node f fd) : FnOk P w K mg base CX0 1 f fd ["word"] spPlainN := by
  refine F.ok sc__plain_node (fun vs H Q E h => ?_) (fun cdv A outer s H vs Q E hr h => ?_)
  · obtain ⟨z, rfl, _⟩ := h
    rfl
  · obtain ⟨z, rfl, hz, q⟩ := h
    refine ⟨_, (pss_cons (ps_if (pt_cmpR (inQ (K := K) rfl) (pv 0) (pe_tup (pa_cons pe_str (pa_cons pe_str pa_nil))) (by rfl))
  (pss_one (ps_ret (pe_tup (pa_cons (pv 0) (pa_cons pe_int pa_nil)))))
  pss_nil)
  (pss_one (ps_ret (pe_ifExp (pt_val (pe_m1 PySem.F.slot_str_startswith PySem.F.type_str_startswith mt_startswith (pv 0) pe_str)) (pe_tup (pa_cons pe_str (pa_cons (pe_slice sl_str (pv 0) (po_some pe_int) po_none) pa_nil))) (pe_tup (pa_cons pe_str (pa_cons (pv 0) pa_nil))))))), ?_⟩
    refine ⟨_, rfl, lenOk 2, fun t nt => ?_⟩
    have s1 : Same H (upd H t (.tup (sureKinds.map V.str))) := same_new nt
    refine ⟨t, sureKinds.map V.str, rfl, .inr (SqT.of upd_same), rfl, flat_strs _, _, rfl, ?_⟩
    cases e1 : sureKinds.contains z with
    | true =>
      have e : plainN z = (z, .int 0) := by unfold plainN; rw [if_pos e1]
      rw [e] at q
      refine iteT' ((inV_strs z sureKinds).trans e1) ⟨_, rfl, lenOk 2, fun p np => ?_⟩
      exact q p _ (s1.trans (same_new np)) (s1.free np) upd_same
    | false =>
      refine iteF' ((inV_strs z sureKinds).trans e1) ⟨_, rfl, ⟨_, rfl⟩, z, "!", rfl, rfl, _, rfl, ?_⟩
      cases e2 : Txt.startswith z "!" with
      | true =>
        have e : plainN z = (("not" : Str), V.str (cutS z (some 1) none)) := by unfold plainN; rw [if_neg (by rw [e1]; exact Bool.false_ne_true), if_pos e2]
        rw [e] at q
        refine iteT ⟨_, rfl, _, rfl, z, rfl, Nat.le_of_lt (small (by omega)), lenOk 2, fun p np => ?_⟩
        exact q p _ (s1.trans (same_new np)) (s1.free np) upd_same
      | false =>
        have e : plainN z = (("fact" : Str), V.str z) := by unfold plainN; rw [if_neg (by rw [e1]; exact Bool.false_ne_true), if_neg (by rw [e2]; exact Bool.false_ne_true)]
        rw [e] at q
        refine iteF ⟨_, rfl, lenOk 2, fun p np => ?_⟩
        exact q p _ (s1.trans (same_new np)) (s1.free np) upd_same
end
end Eh
set_option Elab.async false
set_option linter.all false
set_option maxRecDepth 100000
set_option maxHeartbeats 4000000
namespace Eh
open PySem PySem.Spec PyProof.Rows L2
open CwR
structure St3 where
  ks : List Str
  cs : List V
  ar : List Nat
def incV (v : V) : V := match v with
  | .int i => .int (i + 1)
  | v => v
def bump (cs : List V) (i : Nat) : List V := match cs[i]? with
  | some v => cs.set i (incV v)
  | none => cs
def step3 (s : St3) (w : Str) : St3 :=
  if parens.contains w = true then ⟨s.ks ++ [("" : Str)], s.cs ++ [.int 1], s.ar ++ [s.ks.length]⟩
  else if signs4.contains w = true ∧ s.ar ≠ [] then ⟨s.ks.set (s.ar.getLast?.getD 0) (kindOfSign w), bump s.cs (s.ar.getLast?.getD 0), s.ar⟩
  else if closes.contains w = true ∧ s.ar ≠ [] then ⟨s.ks, s.cs, s.ar.dropLast⟩
  else ⟨s.ks ++ [(plainN w).1], s.cs ++ [(plainN w).2], s.ar⟩
def run3 (ws : List Str) : St3 := ws.foldl step3 ⟨[], [], []⟩
def nodesIn (z : Str) : List (Str × V) := (run3 (split4 z)).ks.zip (run3 (split4 z)).cs
/-- what the lists keep -/
structure Ok3 (s : St3) : Prop where
  len : s.cs.length = s.ks.length
  at_ : ∀ i ∈ s.ar, ∃ n : Int, s.cs[i]? = some (.int n)
theorem ok3_start : Ok3 ⟨[], [], []⟩ := ⟨rfl, fun i h => by cases h⟩
theorem last_mem {l : List Nat} (h : l ≠ []) : l.getLast?.getD 0 ∈ l := by
  rw [List.getLast?_eq_some_getLast h]
  exact List.getLast_mem h
theorem ok3_step {s : St3} (o : Ok3 s) (w : Str) : Ok3 (step3 s w) := by
  have app : ∀ (k : Str) (v : V) (i : Nat), (∃ n : Int, s.cs[i]? = some (.int n)) → ∃ n : Int, (s.cs ++ [v])[i]? = some (.int n) := fun k v i ⟨n, e⟩ => ⟨n, by
    have := (List.getElem?_eq_some_iff.mp e).1
    rw [List.getElem?_append_left this]
    exact e⟩
  unfold step3
  split
  · refine ⟨by simp [o.len], fun i h => ?_⟩
    rcases List.mem_append.mp h with h | h
    · exact app "" (.int 1) i (o.at_ i h)
    · rw [List.mem_singleton.mp h]
      exact ⟨1, by rw [← o.len]; simp⟩
  · split
    · rename_i h1 h2
      have hm := last_mem h2.2
      obtain ⟨n, e⟩ := o.at_ _ hm
      have eb : bump s.cs (s.ar.getLast?.getD 0) = s.cs.set (s.ar.getLast?.getD 0) (.int (n + 1)) := by
        unfold bump
        rw [e]
        rfl
      refine ⟨by rw [eb]; simp [o.len], fun i h => ?_⟩
      rw [eb]
      by_cases ei : s.ar.getLast?.getD 0 = i
      · rw [ei] at e
        have := (List.getElem?_eq_some_iff.mp e).1
        exact ⟨n + 1, by rw [ei, List.getElem?_set_self this]⟩
      · rw [List.getElem?_set_ne ei]
        exact o.at_ i h
    · split
      · exact ⟨o.len, fun i h => o.at_ i ((List.dropLast_sublist _).subset h)⟩
      · exact ⟨by simp [o.len], fun i h => app "" _ i (o.at_ i h)⟩
theorem step3_len (s : St3) (w : Str) : (step3 s w).ks.length ≤ s.ks.length + 1 ∧ (step3 s w).ar.length ≤ s.ar.length + 1 := by
  unfold step3
  split
  · simp
  · split
    · simp
    · split
      · simp; omega
      · simp
theorem run3_take {ws : List Str} {i : Nat} {w : Str} (h : ws[i]? = some w) : run3 (ws.take (i + 1)) = step3 (run3 (ws.take i)) w := by
  unfold run3
  rw [take_succ' h, List.foldl_append]
  rfl
theorem run3_ok : ∀ (ws : List Str) (s : St3), Ok3 s → Ok3 (ws.foldl step3 s)
  | [], s, o => o
  | w :: ws, s, o => run3_ok ws _ (ok3_step o w)
theorem run3_len : ∀ (ws : List Str) (s : St3), (ws.foldl step3 s).ks.length ≤ s.ks.length + ws.length ∧ (ws.foldl step3 s).ar.length ≤ s.ar.length + ws.length
  | [], s => ⟨Nat.le_refl _, Nat.le_refl _⟩
  | w :: ws, s => by
    have h := run3_len ws (step3 s w)
    have k := step3_len s w
    rw [List.foldl_cons, List.length_cons]
    omega
end Eh
set_option Elab.async false
set_option linter.all false
set_option maxRecDepth 100000
set_option maxHeartbeats 4000000
namespace Eh
open PySem PySem.Spec PyProof.Rows L2
open CwR
theorem same_put {H H2 : Hp} {l : Addr} {o : HO} (s : Same H H2) (n : H l = none) : Same H (upd H2 l o) := fun b u e => by
  rw [upd_ne (ne_of_none e n)]
  exact s b u e
def natV (i : Nat) : V := .int (i : Int)
/-- the three lists -/
structure L3 (H : Hp) (lk lc la : Addr) (s : St3) : Prop where
  k : H lk = some (.lst (s.ks.map V.str))
  c : H lc = some (.lst s.cs)
  a : H la = some (.lst (s.ar.map natV))
theorem L3.same {H H' : Hp} {lk lc la : Addr} {s : St3} (l : L3 H lk lc la s) (m : Same H H') : L3 H' lk lc la s := ⟨m _ _ l.k, m _ _ l.c, m _ _ l.a⟩
theorem last_nat {l : List Nat} (h : l ≠ []) : ∃ pre i, l = pre ++ [i] ∧ l.getLast?.getD 0 = i :=
  ⟨l.dropLast, l.getLast h, (List.dropLast_concat_getLast h).symm, by rw [List.getLast?_eq_some_getLast h]; rfl⟩
theorem zip_take_succ {ks : List Str} {cs : List V} {j : Nat} {k : Str} {v : V} (h : ks[j]? = some k) (h' : cs[j]? = some v) : (ks.zip cs).take (j + 1) = (ks.zip cs).take j ++ [(k, v)] :=
  take_succ' (by rw [List.getElem?_zip_eq_some]; exact ⟨h, h'⟩)
section
variable {P : Program} {w : World} {K : PySem.W.Frag} {mg : Str → Option Value} {base : Heap}
def spNodesIn (K : PySem.W.Frag) : Sp := fun vs H Q _ => ∃ z, vs = [.str z] ∧ z.length ≤ 9000 ∧ (split4 z).length < 100000 ∧ (∀ x ∈ split4 z, x.length ≤ 900000) ∧ ∀ p ys H', Same H H' → H p = none → H' p = some (.tup ys) → NdsAt K H' ys (nodesIn z) → Q (.ref p) H'
theorem ok_nodes_in {p0 fS fP f : Addr} {fdS fdP fd : FuncData} (F : Fun K "nodes_in" "nodes_in" s_nodes_in f fd) (T : Txt mg) (S : SignedAt K w mg p0) (GS : FnT P w K mg base 1 fS fdS ["text"] spSplit) (mS : mg "_split" = some (.ref fS)) (kS : PySem.W.keepIn K (.ref fS) = true) (bS : Binds K fdS ["text"] [])
    (C__plain_node : Cal P w K mg base 1 "_plain_node" fP fdP ["word"] spPlainN) : FnT P w K mg base 2 f fd ["text"] (spNodesIn K) := by
  refine funT F sc_nodes_in (fun vs H Q E h => ?_) (fun cdv A outer s H vs Q E hr h => ?_)
  · obtain ⟨z, rfl, _⟩ := h
    rfl
  · obtain ⟨z, rfl, hz, hw, hx, q⟩ := h
    refine ⟨_, psst_cons (PST.of (ps_set (i := 1) sc_nodes_in.nd rfl (.inr rfl) (pe_lst pa_nil)))
      (psst_cons (PST.of (ps_set (i := 2) sc_nodes_in.nd rfl (.inr rfl) (pe_lst pa_nil)))
      (psst_cons (PST.of (ps_set (i := 3) sc_nodes_in.nd rfl (.inl rfl) (pe_lst pa_nil)))
      (psst_cons (pst_for PassesOwn.never (by rfl) (pit_list (pet_callT GS hr (by rfl) mS kS bS (pa_cons (pv 0) pa_nil))) (pg_name (i := 4) sc_nodes_in.nd rfl (.inl rfl))
        (pss_one (ps_if (pt_cmpR (inQ (K := K) rfl) (pv 4) (pe_tup (pa_cons pe_str (pa_cons pe_str pa_nil))) (by rfl))
          (pss_cons (ps_expr (bmK (K := K) rfl (pe_bm PySem.F.plainAttrs_list PySem.F.slot_list_append PySem.F.type_list_append mt_append (pv 3) (pa_cons (pe_callB (lenQ (K := K) rfl) (by rfl) T.len_ (by decide +kernel) (pa_cons (pv 1) pa_nil)) pa_nil))))
          (pss_cons (ps_expr (bmK (K := K) rfl (pe_bm PySem.F.plainAttrs_list PySem.F.slot_list_append PySem.F.type_list_append mt_append (pv 1) (pa_cons pe_str pa_nil))))
          (pss_one (ps_expr (bmK (K := K) rfl (pe_bm PySem.F.plainAttrs_list PySem.F.slot_list_append PySem.F.type_list_append mt_append (pv 2) (pa_cons pe_int pa_nil)))))))
          (pss_one (ps_if (PW.pt (pw_and (pt_cmpR (inSg S rfl rfl) (pv 4) (pe_glob (v := .ref p0) rfl S.g rfl) (by rfl)) (pw_and1 (pt_truth (pv 3) (by intro _; rfl)))))
            (pss_cons (ps_asg (pe_ix (ixKd (K := K) (w := w) rfl rfl) (pe_glob (v := .ref p0) rfl S.g rfl) (pv 4) (fun _ _ => rfl)) (pg_sub (pv 1) (pe_ix (ixL (K := K) rfl) (pv 3) (pe_un un_neg pe_int) (fun _ _ => rfl)) set_list))
            (pss_one (ps_augS (pv 2) (pe_ix (ixL (K := K) rfl) (pv 3) (pe_un un_neg pe_int) (fun _ _ => rfl)) get_list pe_int ip_add set_list)))
            (pss_one (ps_if (PW.pt (pw_and (pt_cmpR (inQ (K := K) rfl) (pv 4) (pe_tup (pa_cons pe_str (pa_cons pe_str pa_nil))) (by rfl)) (pw_and1 (pt_truth (pv 3) (by intro _; rfl)))))
              (pss_one (ps_expr (bm0K (K := K) rfl (pe_bm0 PySem.F.plainAttrs_list PySem.F.slot_list_pop PySem.F.type_list_pop mt_pop (pv 3)))))
              (pss_cons (ps_asg (pe_call C__plain_node.G hr (by rfl) C__plain_node.m C__plain_node.k C__plain_node.b .nil pass0 (pa_cons (pv 4) pa_nil)) (pg_tup (by rfl) (pgs_cons (pg_name (i := 5) sc_nodes_in.nd rfl (.inl rfl)) (pgs_cons (pg_name (i := 6) sc_nodes_in.nd rfl (.inl rfl)) pgs_nil))))
              (pss_cons (ps_expr (bmK (K := K) rfl (pe_bm PySem.F.plainAttrs_list PySem.F.slot_list_append PySem.F.type_list_append mt_append (pv 1) (pa_cons (pv 5) pa_nil))))
              (pss_one (ps_expr (bmK (K := K) rfl (pe_bm PySem.F.plainAttrs_list PySem.F.slot_list_append PySem.F.type_list_append mt_append (pv 2) (pa_cons (pv 6) pa_nil))))))))))))))
      (PSsT.of (pss_one (ps_ret (pe_callTy call_tuple_of (by rfl) T.tuple_ (by decide +kernel) (pa_cons (pe_lc (own := [("at", 7)]) (g := gName 7) (by rfl) sc_nodes_in.nd (pi_range1 (by rfl) T.range_ (pa_cons (pe_callB (lenQ (K := K) rfl) (by rfl) T.len_ (by decide +kernel) (pa_cons (pv 1) pa_nil)) pa_nil)) (blkOk_by (by kernel_rfl)) (fun _ _ _ _ _ => (pg_name (i := 7) sc_nodes_in.nd rfl (.inl rfl))) (fun _ _ _ _ _ => pts_nil) (fun _ _ _ _ _ => (pe_tup (pa_cons (pe_ix (ixL (K := K) rfl) (pv 1) (pv 7) (fun _ _ => rfl)) (pa_cons (pe_ix (ixL (K := K) rfl) (pv 2) (pv 7) (fun _ _ => rfl)) pa_nil))))) pa_nil)))))))), ?_⟩
    refine ⟨Nat.zero_le _, fun lk nk => ⟨Nat.zero_le _, fun lc nc => ⟨Nat.zero_le _, fun la na => ?_⟩⟩⟩
    have s1 := same_new (o := .lst []) nk
    have s2 := same_new (o := .lst []) nc
    have s3 := same_new (o := .lst []) na
    have nkH : H lk = none := nk
    have ncH : H lc = none := s1.free nc
    have naH : H la = none := (s1.trans s2).free na
    have hck : lc ≠ lk := fun e => by rw [e, upd_same] at nc; cases nc
    have hac : la ≠ lc := fun e => by rw [e, upd_same] at na; cases na
    have hak : la ≠ lk := fun e => by rw [e, upd_ne hck.symm, upd_same] at na; cases na
    have l0 : L3 (upd (upd (upd H lk (.lst [])) lc (.lst [])) la (.lst [])) lk lc la ⟨[], [], []⟩ := ⟨s3 _ _ (s2 _ _ upd_same), s3 _ _ upd_same, upd_same⟩
    have s123 : Same H (upd (upd (upd H lk (.lst [])) lc (.lst [])) la (.lst [])) := s1.trans (s2.trans s3)
    generalize upd (upd (upd H lk (.lst [])) lc (.lst [])) la (.lst []) = H3 at l0 s123 ⊢
    clear nk nc na s1 s2 s3
    refine ⟨_, rfl, z, rfl, hz, fun lw nw => ⟨lw, rfl, ⟨_, SqL.of upd_same⟩, ?_⟩⟩
    have nwH : H lw = none := s123.free nw
    have hwk : lw ≠ lk := fun e => by rw [e, l0.k] at nw; cases nw
    have hwc : lw ≠ lc := fun e => by rw [e, l0.c] at nw; cases nw
    have hwa : lw ≠ la := fun e => by rw [e, l0.a] at nw; cases nw
    have s4 := same_new (o := .lst ((split4 z).map V.str)) nw
    have l4 := l0.same s4
    have e4 := upd_same (H := H3) (a := lw) (o := HO.lst ((split4 z).map V.str))
    have s14 := s123.trans s4
    generalize upd H3 lw (.lst ((split4 z).map V.str)) = H4 at l4 e4 s14 ⊢
    clear s4 l0 s123 nw
    refine for_list (K := K) (a := lw) (xs := (split4 z).map V.str) (fun j σ H5 => ∃ x4 x5 x6, σ = [some (.str z), some (.ref lk), some (.ref lc), some (.ref la), x4, x5, x6, none] ∧ Same H H5 ∧ H5 lw = some (.lst ((split4 z).map V.str)) ∧ L3 H5 lk lc la (run3 ((split4 z).take j))) ⟨none, none, none, rfl, s14, e4, l4⟩ (fun j σ H5 _ h => ?_) ?_ ?_
    · obtain ⟨_, _, _, _, _, e, _⟩ := h
      exact SqL.of e
    · rintro j x σ H5 hj ⟨x4, x5, x6, rfl, s5, e5, l5⟩
      rw [List.getElem?_map] at hj
      obtain ⟨y, hy, rfl⟩ := Option.map_eq_some_iff.mp hj
      have hjl : j < 100000 := by
        have := (List.getElem?_eq_some_iff.mp hy).1
        omega
      have hyl := hx y (List.mem_of_getElem? hy)
      obtain ⟨k3, c3⟩ := run3_len ((split4 z).take j) ⟨[], [], []⟩
      have ok := run3_ok ((split4 z).take j) _ ok3_start
      have htl := List.length_take_le j (split4 z)
      rw [run3_take hy]
      change (run3 ((split4 z).take j)).ks.length ≤ _ at k3
      change (run3 ((split4 z).take j)).ar.length ≤ _ at c3
      change Ok3 (run3 ((split4 z).take j)) at ok
      generalize run3 ((split4 z).take j) = s at l5 k3 c3 ok ⊢
      have k3 : s.ks.length ≤ j := by simpa using Nat.le_trans k3 (by simpa using htl)
      have c3 : s.ar.length ≤ j := by simpa using Nat.le_trans c3 (by simpa using htl)
      have hcl := ok.len
      refine ⟨_, rfl, lenOk 2, fun t1 n1 => ⟨t1, parens.map V.str, rfl, .inr (SqT.of upd_same), rfl, flat_strs _, _, rfl, ?_⟩⟩
      have u6 : Same H5 (upd H5 t1 (.tup [V.str "(", V.str "["])) := same_new n1
      have s6 := s5.trans u6
      have e6 := u6 _ _ e5
      have l6 := l5.same u6
      generalize upd H5 t1 (.tup [V.str "(", V.str "["]) = H6 at s6 e6 l6 ⊢
      clear u6 n1
      cases c1 : parens.contains y with
      | true =>
        have es : step3 s y = ⟨s.ks ++ [("" : Str)], s.cs ++ [.int 1], s.ar ++ [s.ks.length]⟩ := by unfold step3; rw [if_pos c1]
        rw [es]
        refine iteT' ((inV_strs y parens).trans c1) ?_
        refine ⟨_, rfl, .inl ⟨rfl, _, SqL.of l6.a⟩, _, rfl, .inl ⟨lk, _, rfl, .inl (SqL.of l6.k), la, _, .int ((s.ks.map V.str).length : Int), rfl, rfl, l6.a, small (by rw [List.length_map]; omega), ?_⟩⟩
        refine ⟨_, rfl, .inl ⟨rfl, _, SqL.of ((upd_ne hak.symm).trans l6.k)⟩, lk, _, .str "", rfl, rfl, (upd_ne hak.symm).trans l6.k, small (by rw [List.length_map]; omega), ?_⟩
        refine ⟨_, rfl, .inl ⟨rfl, _, SqL.of ((upd_ne hck).trans ((upd_ne hac.symm).trans l6.c))⟩, lc, _, .int 1, rfl, rfl, (upd_ne hck).trans ((upd_ne hac.symm).trans l6.c), small (by omega), ?_⟩
        refine ⟨_, _, _, rfl, same_put (same_put (same_put s6 naH) nkH) ncH, ?_, ?_, ?_, ?_⟩
        · rw [upd_ne hwc, upd_ne hwk, upd_ne hwa]
          exact e6
        · rw [upd_ne hck.symm, upd_same, List.map_append]
          rfl
        · exact upd_same
        · rw [upd_ne hac, upd_ne hak, upd_same, List.map_append, List.length_map]
          rfl
      | false =>
        have n1 : ¬ parens.contains y = true := by rw [c1]; exact Bool.false_ne_true
        refine iteF' ((inV_strs y parens).trans c1) ?_
        have tr : ∀ b, b = !(s.ar.map natV).isEmpty → TruV K (.ref la) H6 b := fun b e => .inl ⟨_, SqL.of l6.a, e⟩
        by_cases c2 : signs4.contains y = true ∧ s.ar ≠ []
        · obtain ⟨pre, i, ei, eg⟩ := last_nat c2.2
          have es : step3 s y = ⟨s.ks.set i (kindOfSign y), bump s.cs i, s.ar⟩ := by unfold step3; rw [if_neg n1, if_pos c2, eg]
          have hm := last_mem c2.2
          rw [eg] at hm
          obtain ⟨n, en⟩ := ok.at_ i hm
          have hil : i < s.cs.length := (List.getElem?_eq_some_iff.mp en).1
          have eb : bump s.cs i = s.cs.set i (.int (n + 1)) := by
            unfold bump
            rw [en]
            rfl
          rw [es, eb]
          have ea : s.ar.map natV = pre.map natV ++ [natV i] := by rw [ei, List.map_append]; rfl
          have la6 := l6.a
          rw [ea] at la6
          refine ⟨_, rfl, y, rfl, rfl, _, rfl, iteT' c2.1 ?_⟩
          refine ⟨_, rfl, true, tr true (by rw [ea]; simp), iteT ?_⟩
          refine ⟨_, rfl, p0, y, _, rfl, rfl, S.v y c2.1, ?_⟩
          refine ⟨_, rfl, _, rfl, _, rfl, la, _, (-1), natV i, rfl, rfl, SqL.of la6, atI_last, lk, _, (i : Int), i, rfl, rfl, l6.k, by rw [List.length_map]; exact ixN_nat (by omega), ?_⟩
          have la7 : (upd H6 lk (.lst ((s.ks.map V.str).set i (.str (kindOfSign y))))) la = some (.lst (pre.map natV ++ [natV i])) := (upd_ne hak).trans la6
          have lc7 : (upd H6 lk (.lst ((s.ks.map V.str).set i (.str (kindOfSign y))))) lc = some (.lst s.cs) := (upd_ne hck).trans l6.c
          refine ⟨_, rfl, _, rfl, _, rfl, la, _, (-1), natV i, rfl, rfl, SqL.of la7, atI_last, ?_⟩
          refine ⟨lc, _, (i : Int), .int n, rfl, rfl, SqL.of lc7, by omega, by omega, by rw [Int.toNat_natCast]; exact en, ?_⟩
          refine ⟨n, 1, rfl, rfl, lc, _, (i : Int), i, rfl, rfl, lc7, ixN_nat hil, ?_⟩
          refine ⟨_, _, _, rfl, same_put (same_put s6 nkH) ncH, ?_, ?_, ?_, ?_⟩
          · rw [upd_ne hwc, upd_ne hwk]
            exact e6
          · rw [upd_ne hck.symm, upd_same, List.map_set]
          · exact upd_same
          · rw [upd_ne hac, upd_ne hak]
            exact l6.a
        · have hs : signs4.contains y = true → s.ar = [] := fun h => Classical.byContradiction fun z => c2 ⟨h, z⟩
          have es : step3 s y = if closes.contains y = true ∧ s.ar ≠ [] then ⟨s.ks, s.cs, s.ar.dropLast⟩ else ⟨s.ks ++ [(plainN y).1], s.cs ++ [(plainN y).2], s.ar⟩ := by
            unfold step3
            rw [if_neg n1, if_neg c2]
          rw [es]
          refine ⟨_, rfl, y, rfl, rfl, _, rfl, ?_⟩
          cases e2 : signs4.contains y
          case' true =>
            have ha0 := hs e2
            refine iteT ⟨_, rfl, false, tr false (by rw [ha0]; rfl), iteF ?_⟩
          case' false => refine iteF ?_
          all_goals
            refine ⟨_, rfl, lenOk 2, fun t2 n2 => ⟨t2, closes.map V.str, rfl, .inr (SqT.of upd_same), rfl, flat_strs _, _, rfl, ?_⟩⟩
            have u7 : Same H6 (upd H6 t2 (.tup [V.str ")", V.str "]"])) := same_new n2
            have s7 := s6.trans u7
            have e7 := u7 _ _ e6
            have l7 := l6.same u7
            generalize upd H6 t2 (.tup [V.str ")", V.str "]"]) = H7 at s7 e7 l7 ⊢
            clear u7 n2
            have tr7 : ∀ b, b = !(s.ar.map natV).isEmpty → TruV K (.ref la) H7 b := fun b e => .inl ⟨_, SqL.of l7.a, e⟩
            by_cases c3 : closes.contains y = true ∧ s.ar ≠ []
            · obtain ⟨pre, i, ei, eg⟩ := last_nat c3.2
              rw [if_pos c3]
              have ea : s.ar.map natV = pre.map natV ++ [natV i] := by rw [ei, List.map_append]; rfl
              have la7 := l7.a
              rw [ea] at la7
              refine iteT' ((inV_strs y closes).trans c3.1) ⟨_, rfl, true, tr7 true (by rw [ea]; simp), iteT ?_⟩
              refine ⟨_, rfl, .inl ⟨rfl, _, SqL.of la7⟩, la, _, natV i, rfl, rfl, la7, ?_, ?_⟩
              · rw [List.length_append, List.length_singleton, Nat.add_sub_cancel]
                exact List.getElem?_concat_length
              · rw [List.dropLast_concat]
                refine ⟨_, _, _, rfl, same_put s7 naH, (upd_ne hwa).trans e7, (upd_ne hak.symm).trans l7.k, (upd_ne hac.symm).trans l7.c, ?_⟩
                rw [upd_same, ei, List.dropLast_concat]
            · rw [if_neg c3]
              have hc : closes.contains y = true → s.ar = [] := fun h => Classical.byContradiction fun z => c3 ⟨h, z⟩
              cases e3 : closes.contains y
              case' true =>
                have ha1 := hc e3
                refine iteT' ((inV_strs y closes).trans e3) ⟨_, rfl, false, tr7 false (by rw [ha1]; rfl), iteF ?_⟩
              case' false => refine iteF' ((inV_strs y closes).trans e3) ?_
              all_goals
                refine ⟨_, rfl, y, rfl, hyl, fun tp H8 u8 n8 e8 => ?_⟩
                have l8 := l7.same u8
                have e9 := u8 _ _ e7
                have s8 := s7.trans u8
                refine ⟨tp, _, rfl, SqT.of e8, rfl, _, _, rfl, _, _, rfl, rfl, ?_⟩
                refine ⟨_, rfl, .inl ⟨rfl, _, SqL.of l8.k⟩, _, rfl, lk, _, .str (plainN y).1, rfl, rfl, l8.k, small (by rw [List.length_map]; omega), ?_⟩
                refine ⟨_, rfl, .inl ⟨rfl, _, SqL.of ((upd_ne hck).trans l8.c)⟩, _, rfl, lc, _, (plainN y).2, rfl, rfl, (upd_ne hck).trans l8.c, small (by omega), ?_⟩
                refine ⟨_, _, _, rfl, same_put (same_put s8 nkH) ncH, (upd_ne hwc).trans ((upd_ne hwk).trans e9), ?_, upd_same, (upd_ne hac).trans ((upd_ne hak).trans l8.a)⟩
                rw [upd_ne hck.symm, upd_same, List.map_append]
                rfl
    · rintro σ H5 ⟨x4, x5, x6, rfl, s5, e5, l5⟩
      rw [List.length_map, List.take_length] at l5
      have ok := run3_ok (split4 z) _ ok3_start
      obtain ⟨k3, _⟩ := run3_len (split4 z) ⟨[], [], []⟩
      change Ok3 (run3 (split4 z)) at ok
      change (run3 (split4 z)).ks.length ≤ _ at k3
      have hq := q
      unfold nodesIn at hq
      generalize run3 (split4 z) = s at l5 ok k3 hq ⊢
      have k3 : s.ks.length ≤ (split4 z).length := by simpa using k3
      have hcl := ok.len
      refine ⟨_, rfl, .inl ⟨lk, _, rfl, .inl (SqL.of l5.k), _, rfl, by omega, by rw [List.length_map]; omega, fun D nD => ?_⟩⟩
      have s6 := s5.trans (same_new (o := .lst []) nD)
      have u6 := same_new (o := .lst []) nD
      have nDH : H D = none := s5.free nD
      have nD5 : H5 D = none := nD
      refine lcR (fun j acc H6 => Same H H6 ∧ Same H5 H6 ∧ NdsAt K H6 acc ((s.ks.zip s.cs).take j)) ⟨s6, u6, .nil⟩ ?_ ?_
      · rintro j acc H6 hj hl e ⟨s7, u7, A7⟩
        rw [List.length_map] at hj
        have hj' : j < s.ks.length := by omega
        obtain ⟨k, hk⟩ : ∃ k, s.ks[j]? = some k := ⟨_, List.getElem?_eq_getElem hj'⟩
        obtain ⟨v, hv⟩ : ∃ v, s.cs[j]? = some v := ⟨_, List.getElem?_eq_getElem (by omega)⟩
        have ei : ((0 : Int) + (j : Int)) = (j : Int) := Int.zero_add _
        rw [ei]
        refine ⟨_, rfl, _, rfl, lk, _, _, .str k, rfl, rfl, SqL.of (u7 _ _ l5.k), atI_nat (by rw [List.getElem?_map, hk]; rfl), ?_⟩
        refine ⟨_, rfl, _, rfl, lc, _, _, v, rfl, rfl, SqL.of (u7 _ _ l5.c), atI_nat hv, lenOk 2, fun t nt => ?_⟩
        have u8 : Same H6 (upd H6 t (.tup [.str k, v])) := same_new nt
        refine LcK.mk hl (by omega) (u8 _ _ e) ⟨same_put (s7.trans u8) nDH, same_put (u7.trans u8) nD5, ?_⟩
        rw [zip_take_succ hk hv]
        have kp := Tk.put (ys := acc ++ [V.ref t]) (u8 _ _ e)
        exact ((A7.tk (stk u8)).tk kp).app (.cons (kp.seq (SqT.of upd_same)) .nil)
      · rintro acc H6 hl e ⟨s7, u7, A7⟩
        have ez : (s.ks.zip s.cs).take (((s.ks.map V.str).length : Int)).toNat = s.ks.zip s.cs := by
          refine List.take_of_length_le ?_
          rw [List.length_zip, List.length_map]
          omega
        rw [ez] at A7
        refine ⟨D, acc, rfl, .inl ⟨SqL.of e, fun p np => ?_⟩⟩
        exact hq p acc _ (s7.trans (same_new np)) (s7.free np) upd_same (A7.tk (Tk.new np))
end
end Eh
set_option Elab.async false
set_option linter.all false
set_option maxRecDepth 100000
set_option maxHeartbeats 4000000
namespace Eh
open PySem PySem.Spec PyProof.Rows L2
open CwR
section
variable {P : Program} {w : World} {K : PySem.W.Frag} {mg : Str → Option Value} {base : Heap}
def spReadOk (K : PySem.W.Frag) (C : Addr) : Sp := fun vs H Q _ => ∃ z ns t, vs = [.ref C, .str z] ∧ z.length ≤ 9000 ∧ (split4 z).length < 100000 ∧ (∀ x ∈ split4 z, x.length ≤ 900000) ∧ nodesIn z = ns ∧ (∀ n ∈ ns, NOk n) ∧ dueGo 1 ns = true ∧ ns.length ≤ 15 ∧ stackT ns = [t] ∧ t = z ∧
  ∀ a H', Same H H' → H a = none → PrOk K C H' a ns → Q (.ref a) H'
theorem ok_read {C CE fI fL fN fA fT f : Addr} {fdI fdN fdA fdT fd : FuncData} (F : Fun K "read" "Promise.read" s_Promise_read f fd) (T : Txt mg) (PC : PromC K mg C fI fL) (GN : FnT P w K mg base 2 fN fdN ["text"] (spNodesIn K)) (mN : mg "nodes_in" = some (.ref fN)) (kN : PySem.W.keepIn K (.ref fN) = true) (bN : Binds K fdN ["text"] [])
    (C__are_nodes : Cal P w K mg base 3 "_are_nodes" fA fdA ["value"] (spAre K)) (C_text_of : Cal P w K mg base 2 "text_of" fT fdT ["nodes"] (spText K)) (GI : FnOk P w K mg base (L2.CX P w) 4 fI fdI ["self", "nodes"] (spInit K C CE)) (bI : Binds K fdI ["self", "nodes"] []) :
    FnT P w K mg base 6 f fd ["cls", "text"] (spReadOk K C) := by
  refine funT F sc_Promise_read (fun vs H Q E h => ?_) (fun cdv A outer s H vs Q E hr h => ?_)
  · obtain ⟨z, ns, t, rfl, _⟩ := h
    rfl
  · obtain ⟨z, ns, t, rfl, hz, hw, hx, hns, ho, hd, hl, ht, etz, q⟩ := h
    have hr2 := hr.mono (j := 2) (by omega)
    have hr3 := hr.mono (j := 3) (by omega)
    refine ⟨_, psst_cons (PST.of (ps_if (pt_not (pt_val (pe_callB (isiQ (K := K) rfl) (by rfl) T.isinstance_ (by decide +kernel) (pa_cons (pv 1) (pa_cons (pe_bltn (v := .ty "str") (by rfl) T.str_ (by decide +kernel) rfl) pa_nil))))) (pss_one ps_never) pss_nil))
      (psst_cons (pst_set (i := 2) sc_Promise_read.nd rfl (.inl rfl) (pet_callT GN hr2 (by rfl) mN kN bN (pa_cons (pv 1) pa_nil)))
      (PSsT.of (pss_cons (ps_if (PW.pt (pw_or (pt_not (pt_val (pe_call C__are_nodes.G hr3 (by rfl) C__are_nodes.m C__are_nodes.k C__are_nodes.b .nil pass0 (pa_cons (pv 2) pa_nil)))) (pw_or1 (pt_cmpR op_ne (pe_call C_text_of.G hr2 (by rfl) C_text_of.m C_text_of.k C_text_of.b .nil pass0 (pa_cons (pv 2) pa_nil)) (pv 1) (nomark _))))) (pss_one ps_never) pss_nil)
      (pss_one (ps_ret (pe_makeL (i := 0) (E := fun _ => E0) PC.mkC GI hr rfl (by first | exact Or.inl rfl | exact Or.inr (Or.inl rfl)) bI (fun σ pins H s e s' I h => passL pins σ H s e s' I h) (pa_cons (pv 2) pa_nil))))))), ?_⟩
    refine ⟨_, rfl, .str z, .ty "str", .type "str", .type "str", true, rfl, .ty _, .base (.str z), kit_ty (by decide +kernel), _, rfl, iteF ?_⟩
    refine ⟨_, rfl, z, rfl, hz, hw, hx, fun p ys H1 s1 n1 e1 N1 => ?_⟩
    rw [hns] at N1
    have g : GoodN ns := fun n hn => (ho n hn).1
    obtain ⟨nv, fw⟩ := good_nodes (K := K) (SqT.of e1) N1 ho hd hl
    refine ⟨_, rfl, .ref p, _, true, rfl, nv, fw, fun H2 s2 => ⟨_, rfl, iteF ?_⟩⟩
    have N2 := N1.tk (stk s2)
    have e2 := (stk s2).seq (SqT.of e1 : SqT K H1 p ys)
    refine ⟨_, rfl, p, ys, ns, t, rfl, e2, N2, g, hd, by rw [N1.length]; omega, ht, fun H3 s3 => ⟨_, rfl, rfl, _, rfl, ?_⟩⟩
    refine iteF' (by rw [etz]; simp) ⟨rfl, _, rfl, fun x dx nx nd ne => ?_⟩
    have s03 := s1.trans (s2.trans s3)
    have N3 := N2.tk (stk s3)
    have e3 := (stk s3).seq e2
    have u3 : Same H3 (upd (upd H3 dx (.own x)) x (.ins C dx [])) := fun b' o' eb => by
      rw [upd_ne (ne_of_none eb nx), upd_ne (ne_of_none eb nd)]
      exact eb
    have t3 := stk u3
    obtain ⟨nv3, fw3⟩ := good_nodes (K := K) (t3.seq e3) (N3.tk t3) ho hd hl
    refine ⟨x, dx, .ref p, _, true, rfl, upd_same, nv3, fw3, fun _ H4 bt e4 => ⟨rfl, ?_⟩, fun z => nomatch z⟩
    have s4 : Same H3 H4 := fun b' o' eb => bt b' o' (ne_of_none eb nx) (u3 b' o' eb)
    exact q x H4 (s03.trans s4) (s03.free nx) ⟨dx, p, ys, e4, (stk s4).seq e3, N3.tk (stk s4), ho⟩
end
end Eh
set_option Elab.async false
set_option linter.all false
set_option maxRecDepth 100000
set_option maxHeartbeats 2000000
set_option Elab.async false
set_option linter.all false
set_option maxRecDepth 100000
set_option maxHeartbeats 2000000
set_option Elab.async false
set_option linter.all false
set_option maxRecDepth 100000
set_option maxHeartbeats 2000000
namespace Eh
open PySem PySem.Spec PyProof.Rows L2
structure PropC (P : Program) (w : World) (K : PySem.W.Frag) (mg : Str → Option Value) (base : Heap) (C : Addr) (x : Str) (k : Nat) (sp : Sp) (p g : Addr) (fd : FuncData) : Prop where
  p : PropOf K C x p g
  ok : FnOk P w K mg base CX0 k g fd ["self"] sp
  b : Binds K fd ["self"] []
structure DunC (P : Program) (w : World) (K : PySem.W.Frag) (mg : Str → Option Value) (base : Heap) (C : Addr) (x : Str) (k : Nat) (ps : List Str) (sp : Sp) (g : Addr) (fd : FuncData) : Prop where
  s : PySem.W.findIn K (.ref C) x = some (some (.ref g))
  f : PySem.W.isFn K (.ref g) = true
  ok : FnOk P w K mg base CX0 k g fd ps sp
  b : Binds K fd ps []
section
variable {P : Program} {w : World} {K : PySem.W.Frag} {mg : Str → Option Value} {base : Heap}
theorem eqG_of_A {C f : Addr} {fd : FuncData} (F : FnOk P w K mg base CX0 1 f fd ["self", "value"] (spEqA K C)) : FnOk P w K mg base CX0 1 f fd ["self", "value"] (spEqG K C) :=
  F.imp fun vs H Q E h => .inl h
end
theorem hu65e {A : Around} {k : Nat} (hr : Room k A) : A.units + 65 < cLine := by
  have := hr.un
  omega
/-- what stands while a drawn promise is looked at -/
structure Rt (K : PySem.W.Frag) (C : Addr) (H : Hp) (v u : V) (pl ql : Pl) (x dx p n i : Addr) (zs xs ys : List V) : Prop where
  pa : At K H v pl
  oa : At K H u ql
  ix : H x = some (.ins C dx [(("_nodes" : Str), .ref p)])
  hs : SqT K H p zs
  hz : NdsAt K H zs (nodesOf pl)
  nl : H n = some (.lst xs)
  nd : NdsAt K H xs (nodesOf pl)
  il : H i = some (.lst ys)
  ia : AtAll K H ys (innerOf pl)
theorem Rt.same {K : PySem.W.Frag} {C : Addr} {H H' : Hp} {v u : V} {pl ql : Pl} {x dx p n i : Addr} {zs xs ys : List V} (r : Rt K C H v u pl ql x dx p n i zs xs ys) (s : Same H H') : Rt K C H' v u pl ql x dx p n i zs xs ys :=
  ⟨r.pa.tk (stk s), r.oa.tk (stk s), s _ _ r.ix, (stk s).seq r.hs, r.hz.tk (stk s), s _ _ r.nl, r.nd.tk (stk s), s _ _ r.il, r.ia.tk (stk s)⟩
theorem eqv_self {d : PyData} (h : SeqAt.shaped d = true) : PyData.eqv d d = true := SeqAt.eqv_refl _ (SeqAt.canLay_of_shaped h)
/-- a plain promise as it is drawn -/
structure Drawn (pl : Pl) : Prop where
  w : InW uni6 (nodesOf pl)
  l : (nodesOf pl).length ≤ 11
  ok : plOk pl = true
  good : GoodN (nodesOf pl)
  due : dueGo 1 (nodesOf pl) = true
  stack : stackT (nodesOf pl) = [textOf pl]
  full : plFull pl = true
theorem Drawn.nok {pl : Pl} (d : Drawn pl) : ∀ n ∈ nodesOf pl, NOk n := nok_of d.good d.w
theorem Drawn.of {K : PySem.W.Frag} {H : Hp} {v : V} {ws : List Str} {pl : Pl} (h : At K H v pl) (hi : ∀ z ∈ ws, z ∈ uni6) (w : InW ws (nodesOf pl)) (l : (nodesOf pl).length ≤ 11) : Drawn pl := by
  have w6 : InW uni6 (nodesOf pl) := fun k z m => hi _ (w k z m)
  obtain ⟨du, gd, _, _⟩ := at_good h w6 (by omega)
  have st := h.stack []
  rw [List.append_nil] at st
  exact ⟨w6, l, h.plOk, gd, du, st, h.full⟩
theorem Rt.m {K : PySem.W.Frag} {C : Addr} {H : Hp} {v u : V} {pl ql : Pl} {x dx p n i : Addr} {zs xs ys : List V} (r : Rt K C H v u pl ql x dx p n i zs xs ys) (d : Drawn pl) : PrOk K C H x (nodesOf pl) := ⟨dx, p, zs, r.ix, r.hs, r.hz, d.nok⟩
theorem Rt.g {K : PySem.W.Frag} {C : Addr} {H : Hp} {v u : V} {pl ql : Pl} {x dx p n i : Addr} {zs xs ys : List V} (r : Rt K C H v u pl ql x dx p n i zs xs ys) (d : Drawn pl) : PrG K C H x (nodesOf pl) := ⟨dx, p, zs, r.ix, r.hs, r.hz, d.good⟩
end Eh
set_option Elab.async false
set_option linter.all false
set_option maxRecDepth 100000
set_option maxHeartbeats 2000000
set_option Elab.async false
set_option linter.all false
set_option maxRecDepth 100000
set_option maxHeartbeats 2000000
set_option Elab.async false
set_option linter.all false
set_option maxRecDepth 100000
set_option maxHeartbeats 2000000
set_option Elab.async false
set_option linter.all false
set_option maxRecDepth 100000
set_option maxHeartbeats 4000000
set_option Elab.async false
set_option linter.all false
set_option maxRecDepth 100000
set_option maxHeartbeats 4000000
namespace Eh
open PySem PySem.Spec PyProof.Rows L2
open CwR
/-- a dict from just these facts to facts -/
structure Nm (H : Hp) (d : Addr) (ρ : Str → Str) (fs : List Str) : Prop where
  at_ : ∃ kvs, H d = some (.dK kvs) ∧ kvs.length = fs.length ∧ ∀ z ∈ fs, valV kvs (.inr z) = some (.str (ρ z))
  ok : ∀ z ∈ fs, factS (ρ z) = true
theorem Nm.same {H H' : Hp} {d : Addr} {ρ : Str → Str} {fs : List Str} (h : Nm H d ρ fs) (s : Same H H') : Nm H' d ρ fs := by
  obtain ⟨⟨kvs, a, b, c⟩, o⟩ := h
  exact ⟨⟨kvs, s _ _ a, b, c⟩, o⟩
theorem Nm.get {H : Hp} {d : Addr} {ρ : Str → Str} {fs : List Str} (h : Nm H d ρ fs) {z : Str} (hz : z ∈ fs) : DGet H d (.str z) (some (.str (ρ z))) := by
  obtain ⟨⟨kvs, a, b, c⟩, o⟩ := h
  have g := DGet.k (k := .inr z) a
  rw [c z hz] at g
  exact g
end Eh
set_option Elab.async false
set_option linter.all false
set_option maxRecDepth 100000
set_option maxHeartbeats 4000000
namespace Eh
open PySem PySem.Spec PyProof.Rows L2
open CwR
section
variable {P : Program} {w : World} {K : PySem.W.Frag} {mg : Str → Option Value} {base : Heap}
/-- what is asked of C(nodes) where the nodes are good: made or refused -/
theorem makeS_steps {C x dx p : Addr} {H : Hp} {ys : List V} {ns : List (Str × V)} {CE : Addr} {Q : VK} {E : XK} (nx : H x = none) (nd : H dx = none) (hs : SqT K H p ys) (hN : NdsAt K H ys ns) (g : GoodN ns)
    (q : okB ns = true → ∀ H', Same H H' → PrG K C H' x ns → Q (.ref x) H') (q2 : okB ns = false → ∀ H', Same H H' → E (.ref CE) none H') : spInitE K C CE [.ref x, .ref p] (upd (upd H dx (.own x)) x (.ins C dx [])) (fun v H' => v = .non ∧ Q (.ref x) H') E := by
  have u3 : Same H (upd (upd H dx (.own x)) x (.ins C dx [])) := fun b' o' eb => by
    rw [upd_ne (ne_of_none eb nx), upd_ne (ne_of_none eb nd)]
    exact eb
  refine ⟨x, dx, .ref p, okB ns, rfl, upd_same, (good_W hs hN g).ku (ku_same u3), fun eo H4 bt e4 => ⟨rfl, ?_⟩, fun eo H4 s4 => q2 eo H4 (u3.trans s4)⟩
  obtain ⟨s5, pr⟩ := made_steps nx nd hs hN g bt e4
  exact q eo H4 s5 pr
end
end Eh
set_option Elab.async false
set_option linter.all false
set_option maxRecDepth 100000
set_option maxHeartbeats 4000000
set_option Elab.async false
set_option linter.all false
set_option maxRecDepth 100000
set_option maxHeartbeats 4000000
namespace Eh
open PySem PySem.Spec PyProof.Rows L2
theorem facts_uni {ns : List (Str × V)} (w : InW uni6 ns) {z : Str} (h : z ∈ factsN ns) : z ∈ uni6 := by
  unfold factsN at h
  obtain ⟨n, hn, e⟩ := List.mem_filterMap.mp h
  split at e
  · split at e
    · rename_i y ey
      cases e
      exact w n.1 z (by rw [← ey]; exact hn)
    · cases e
  · cases e
section
variable {P : Program} {w : World} {K : PySem.W.Frag} {mg : Str → Option Value} {base : Heap}
theorem depth_pos : ∀ p : Pl, 1 ≤ depthOf p
  | .leaf k t => by rw [depthOf]; exact Nat.le_refl _
  | .node k ps => by rw [depthOf]; omega
end
end Eh
set_option Elab.async false
set_option linter.all false
set_option maxRecDepth 100000
set_option maxHeartbeats 4000000
set_option Elab.async false
set_option linter.all false
set_option maxRecDepth 100000
set_option maxHeartbeats 4000000
namespace Eh
open PySem PySem.Spec PyProof.Rows L2
open LamX (TabB Tabs TabS ExtN GivesTo TTold tLam told_gives pe_lamcall lamS_by lamCx lamEnv)
/-- a def of the module whose code object is told -/
structure FunL (K : PySem.W.Frag) (x qual : Str) (st : Stmt) (f : Addr) (fd : FuncData) (c : Addr) : Prop where
  ex : ∃ (oc : Value) (od : Option Addr) (kV doc pm : Value) (an : Option Addr) (ct : Value) (osl : Array (Option Value)),
    fd = PySem.W.fnOf x qual (defArgs st) (defBody st) (defScope st) .none kV doc pm an (.ref c) ct ∧ K.lookup f = some ⟨oc, od, .func fd, osl⟩ ∧ PySem.W.codeIn K (.ref c) qual = true
section
variable {P : Program} {w : World} {K : PySem.W.Frag} {mg : Str → Option Value} {base : Heap}
theorem FunL.ok {x qual : Str} {st : Stmt} {f c : Addr} {fd : FuncData} {N ps : List Str} {k : Nat} {sp : Sp} (F : FunL K x qual st f fd c) (S : FnScope N ps (defScope st)) (len : ∀ vs H Q E, sp vs H Q E → vs.length = ps.length)
    (hbody : ∀ (A : Around) (outer : List Env) (s : Shared) (H : Hp) (vs : List V) (Q : VK) (E : XK), Room k (A.deeper (envOfC qual (defScope st) s.heap.objs.size f (.ref c))) → sp vs H Q E →
      ∃ t, PSs (cxOf CX0 P w K mg base N qual (defScope st) f (.ref c) A outer s H E).nox (defBody st) t ∧ t { nx := fun _ H' => Q .non H', rt := Q } (start N vs) H) : FnOk P w K mg base CX0 (k + 1) f fd ps sp := by
  obtain ⟨oc, od, kV, doc, pm, an, ct, osl, rfl, lk, hcd⟩ := F.ex
  refine fn_of lk hcd S len fun A outer s H vs Q E hr hsp => ?_
  obtain ⟨t, h, q⟩ := hbody A outer s H vs Q E hr hsp
  exact ⟨t, h.nox, q⟩
end
end Eh
set_option Elab.async false
set_option linter.all false
set_option maxRecDepth 100000
set_option maxHeartbeats 8000000
namespace Eh
open PySem PySem.Spec PyProof.Rows L2
open LamX (TabB Tabs TabS ExtN GivesTo TTold tLam told_gives pe_lamcall lamS_by lamCx lamEnv)
/-- what a call makes, or the word -/
def Res (K : PySem.W.Frag) (C : Addr) (H : Hp) (v : V) (ns : List (Str × V)) : Prop := (okB ns = true ∧ ∃ x, v = .ref x ∧ PrG K C H x ns) ∨ (okB ns = false ∧ v = .str "promise")
theorem ntk {H H' : Hp} (e : ExtN H H') : Tk H H' := fun a xs h => h.imp (fun z => e a _ z fun ps z => by cases z) fun ⟨o, z⟩ => ⟨o, e a _ z fun ps z => by cases z⟩
theorem PrG.ext {K : PySem.W.Frag} {C a : Addr} {H H' : Hp} {ns : List (Str × V)} (h : PrG K C H a ns) (e : ExtN H H') : PrG K C H' a ns := by
  obtain ⟨dx, p, xs, e1, hs, hN, g⟩ := h
  exact ⟨dx, p, xs, e _ _ e1 (fun ps z => by cases z), (ntk e).seq hs, hN.tk (ntk e), g⟩
theorem Res.ext {K : PySem.W.Frag} {C : Addr} {H H' : Hp} {v : V} {ns : List (Str × V)} (h : Res K C H v ns) (e : ExtN H H') : Res K C H' v ns :=
  h.imp (fun ⟨a, x, b, c⟩ => ⟨a, x, b, c.ext e⟩) id
inductive ResAll (K : PySem.W.Frag) (C : Addr) (H : Hp) : List V → List (List (Str × V)) → Prop
  | nil : ResAll K C H [] []
  | cons {v : V} {vs : List V} {n : List (Str × V)} {ns : List (List (Str × V))} : Res K C H v n → ResAll K C H vs ns → ResAll K C H (v :: vs) (n :: ns)
theorem ResAll.ext {K : PySem.W.Frag} {C : Addr} {H H' : Hp} (e : ExtN H H') : ∀ {vs : List V} {ns : List (List (Str × V))}, ResAll K C H vs ns → ResAll K C H' vs ns
  | _, _, .nil => .nil
  | _, _, .cons h r => .cons (h.ext e) (r.ext e)
theorem ResAll.snoc {K : PySem.W.Frag} {C : Addr} {H : Hp} {v : V} {n : List (Str × V)} (h : Res K C H v n) : ∀ {vs : List V} {ns : List (List (Str × V))}, ResAll K C H vs ns → ResAll K C H (vs ++ [v]) (ns ++ [n])
  | _, _, .nil => .cons h .nil
  | _, _, .cons a r => .cons a (r.snoc h)
/-- two promises and the plain ones they are of -/
structure Two (K : PySem.W.Frag) (C : Addr) (H : Hp) (a b : Addr) (v u : V) (pl ql : Pl) : Prop where
  a : PrG K C H a (nodesOf pl)
  b : PrG K C H b (nodesOf ql)
  v : At K H v pl
  u : At K H u ql
theorem Two.ext {K : PySem.W.Frag} {C : Addr} {H H' : Hp} {a b : Addr} {v u : V} {pl ql : Pl} (t : Two K C H a b v u pl ql) (e : ExtN H H') : Two K C H' a b v u pl ql := ⟨t.a.ext e, t.b.ext e, t.v.tk (ntk e), t.u.tk (ntk e)⟩
section
variable {P : Program} {w : World} {K : PySem.W.Frag} {mg : Str → Option Value} {base : Heap}
mutual
theorem depth_inner : ∀ {p : Pl}, plOk p = true → depthOf p ≤ 1 + countIn nodeKinds (nodesOf p)
  | .leaf k t, _ => by rw [depthOf]; omega
  | .node k ps, h => by
    rw [plOk, Bool.and_eq_true] at h
    have ih := depthA_inner h.2
    have e : countIn nodeKinds (nodesOf (.node k ps)) = 1 + countIn nodeKinds (nodesAll ps) := by
      rw [nodesOf, show ((k, V.int (ps.length : Int)) :: nodesAll ps) = [(k, V.int (ps.length : Int))] ++ nodesAll ps from rfl, countIn_app]
      congr 1
      unfold countIn
      rw [List.filter_cons, if_pos h.1]
      rfl
    rw [depthOf, e]
    omega
theorem depthA_inner : ∀ {ps : List Pl}, plsOk ps = true → depthAll ps ≤ 1 + countIn nodeKinds (nodesAll ps)
  | [], _ => by rw [depthAll]; omega
  | p :: ps, h => by
    rw [plsOk, Bool.and_eq_true] at h
    have i1 := depth_inner h.1
    have i2 := depthA_inner h.2
    rw [depthAll, nodesAll, countIn_app]
    omega
end
theorem Drawn.okB {pl : Pl} (d : Drawn pl) : okB (nodesOf pl) = true := by
  have hl := d.l
  have h1 := due_inner (l := 1) d.good d.due
  have h2 := countIn_mono (fun k h => choice_inner (k := k) h) (nodesOf pl)
  have h3 := depth_inner d.ok
  have h4 := depth_tree d.ok d.full
  have h5 := depth_pos pl
  have h6 : (nubS (factsN (nodesOf pl))).length ≤ 6 := nodup_le (us := uni6) (puts_nodup (factsN (nodesOf pl))) fun z hz => facts_uni d.w ((puts_mem _ z).mp hz)
  unfold Eh.okB boundB
  rw [decide_eq_true (show (nodesOf pl).length ≤ 40 by omega), decide_eq_true h6, decide_eq_true (show countIn choiceKinds (nodesOf pl) ≤ 10 by omega), h4, decide_eq_true (show (1 : Int) ≤ ((depthOf pl : Nat) : Int) by omega), decide_eq_true (show ((depthOf pl : Nat) : Int) ≤ 8 by omega)]
  rfl
end
end Eh
set_option Elab.async false
set_option linter.all false
set_option maxRecDepth 100000
set_option maxHeartbeats 4000000
namespace HNE
open PySem PySem.Spec PyProof.Rows PySem.SeqAt
section
variable {prog : Program} {w : World} {A : Around} {E : Value → Shared → Prop} {h : Heap} {g : Array GenState} {d : Drawn} {t : Nat} {os : OsState} {K : PySem.W.Frag} {x y C f : Addr} {ox : Obj} {od : Option Obj}
theorem ne_entry {Q : Fin → Shared → Prop} (hu : A.units < cLine) (X : K.In h) (I : PySem.W.InstAt h x ox C od) (hs : PySem.W.findIn K (.ref C) "__eq__" = some (some (.ref f))) (hf : PySem.W.isFn K (.ref f) = true)
    (hcall : wpAny (model prog w) A (call (.ref f) [.ref x, .ref y]) (fun v s' => ∃ b, v = .bool b ∧ Q (.done (.ret (.bool (!b)))) s') E ⟨h, g, d, t, os⟩) :
    wpAny (model prog w) A (Builtin.«object.__ne__» ⟨[.ref x, .ref y], []⟩) Q E ⟨h, g, d, t, os⟩ := by
  unfold Builtin.«object.__ne__»
  repeat (first
    | with_reducible refine wpAny_cRoomFor hu ?_
    | (refine wpAny_bind (m := callSpecialIfBound? (.ref x) (Str.ofString "__eq__") [.ref y])
        (PySem.W.ifBound_K X I hs hf (wpAny_mono hcall (fun r s' hr => by
          obtain ⟨b, rfl, hq⟩ := hr
          repeat (first | exact hq | exact wpAny_pure hq | exact wpAny_truthy_bool hq | (refine wpAny_bind (m := truthy (.bool _)) (wpAny_truthy_bool ?_)) | wp_step)) fun _ _ e => e)))
    | wp_step)
theorem ifBound_objNe {M : Model} {s : Shared} {args : List Value} {Q : Option Value → Shared → Prop} (X : K.In s.heap) (I : PySem.W.InstAt s.heap x ox C od) (hs : PySem.W.findIn K (.ref C) "__ne__" = some (some (.builtin "object.__ne__")))
    (h : wpAny M A (call (.builtin "object.__ne__") (.ref x :: args)) (fun v => Q (some v)) E s) : wpAny M A (callSpecialIfBound? (.ref x) "__ne__" args) Q E s := by
  simp only [callSpecialIfBound?, bindSpecialIfBound?]
  refine wpAny_holding (wpAny_bind (wpAny_bind (wpAny_bind (I.type.here ((PySem.W.looks_findIn X hs).here ?_)))))
  refine wpAny_bind (wpAny_askSetting (wpAny_ite ?_))
  have fin : wpAny M A (call (.builtin "object.__ne__") ([.ref x] ++ args) >>= fun v => pure (some v)) Q E s := wpAny_bind (wpAny_mono h (fun v s' h' => wpAny_pure h') fun _ _ h' => h')
  split
  · exact wpAny_bind (wpAny_of_eq (F.cmp_object.ne.bind _) (wpAny_pure (by exact fin)))
  · exact wpAny_tryCatch (wpAny_bind (wpAny_of_eq (F.cmp_object.ne.bind _) (wpAny_pure (by exact fin))))
theorem rc_ne {s : Shared} {Q : Value → Shared → Prop} {oy : Obj} {ody : Option Obj} (hu : A.units + 1 < cLine) (hu2 : A.in1.units < cLine) (X : K.In s.heap) (I : PySem.W.InstAt s.heap x ox C od) (J : PySem.W.InstAt s.heap y oy C ody) (hm : PySem.W.mroIn K C (.type "object") = some true) (hn : PySem.W.findIn K (.ref C) "__ne__" = some (some (.builtin "object.__ne__")))
    (hs : PySem.W.findIn K (.ref C) "__eq__" = some (some (.ref f))) (hf : PySem.W.isFn K (.ref f) = true)
    (hcall : wpAny (model prog w) A.in1 (call (.ref f) [.ref x, .ref y]) (fun v s' => ∃ b, v = .bool b ∧ Q (.bool (!b)) s') E s) : wpAny (model prog w) A (richCompare .NotEq (.ref x) (.ref y)) Q E s := by
  have one : wpAny (model prog w) A (tryCompare (.ref x) "__ne__" (.ref y)) (fun r s' => ∃ v, r = some v ∧ Q v s') E s := by
    unfold tryCompare
    refine wpAny_bind (ifBound_objNe X I hn (wpAny_call (codeAny_call_builtin F.cmp_object.ne.plain F.cmpEntry_ne (PySem.W.check_slot F.cmpKind_ne F.cmpSplit_ne (I.type.andThen (PySem.W.looks_mroIn X hm)) (F.cmpArgs_ne _ _) ?_))))
    obtain ⟨hp, g, d, t, os⟩ := s
    refine ne_entry (A := A.in1) hu2 X I hs hf (wpAny_mono hcall (fun v s' hv => ?_) fun _ _ e => e)
    obtain ⟨b, rfl, hq⟩ := hv
    first | exact ⟨b, rfl, wpAny_pure ⟨_, rfl, hq⟩⟩ | exact ⟨b, rfl, _, rfl, hq⟩ | exact ⟨b, rfl, wpAny_pure (wpAny_pure ⟨_, rfl, hq⟩)⟩
  unfold richCompare
  simp only [oneThing_ref]
  refine wpAny_holding (wpAny_bind (wpAny_cRoomFor (Nat.lt_of_succ_lt hu) ?_))
  rw [PySem.cmpInfo_NotEq]
  dsimp only
  refine wpAny_bind (I.type.here (wpAny_bind (J.type.here ?_)))
  rw [show (Value.ref C != Value.ref C) = false from by simp]
  simp only [Bool.false_eq_true, if_false]
  refine wpAny_bind (wpAny_pure ?_)
  simp only [Bool.false_eq_true, if_false]
  refine wpAny_bind (wpAny_mono one (fun r s' z => ?_) fun _ _ e => e)
  obtain ⟨v, rfl, hq⟩ := z
  exact wpAny_pure hq
end
end HNE
namespace Eh
open PySem PySem.Spec PyProof.Rows L2
section
variable {X : Cx} {n : Nat} {f C : Addr} {fd : FuncData} {ps : List Str} {sp : Sp} {CX : CXT} {E : XK}
def rNeOwn (C : Addr) (sp : Sp) (E : XK) : R2 := fun x y H Q => ∃ a b dx dy fs gs, x = .ref a ∧ y = .ref b ∧ H a = some (.ins C dx fs) ∧ H b = some (.ins C dy gs) ∧ sp [.ref a, .ref b] H (fun v H' => ∃ k, v = .bl k ∧ Q (.bl (!k)) H') E
theorem neOwn (F : FnOk X.prog X.w X.K X.mg X.base CX n f fd ps sp) (hr : Room (n + 1) X.A) (hm : PySem.W.mroIn X.K C (.type "object") = some true) (hn : PySem.W.findIn X.K (.ref C) "__ne__" = some (some (.builtin "object.__ne__"))) (hs : PySem.W.findIn X.K (.ref C) "__eq__" = some (some (.ref f))) (hf : PySem.W.isFn X.K (.ref f) = true) (hb : Binds X.K fd ps []) (hx : Passes CX X E) :
    OpR X (compareOp .NotEq) (rNeOwn C sp E) := by
  intro pins s σ H x y v u Q I rx ry h
  obtain ⟨a, b, dx, dy, fs, gs, rfl, rfl, ha, hb', q⟩ := h
  cases rx
  cases ry
  obtain ⟨mA, J, _⟩ := ins_get I.hok ha
  obtain ⟨mB, J', _⟩ := ins_get I.hok hb'
  obtain ⟨od, J, _⟩ := J.look
  obtain ⟨od', J', _⟩ := J'.look
  have hu : X.A.units + 1 < cLine := by
    have := hr.un
    omega
  show wpAny _ _ (richCompare .NotEq _ _) _ _ _
  refine HNE.rc_ne hu hr.in1.units0 I.kIn J J' hm hn hs hf (wpAny_mono (run_own (us := [.ref a, .ref b]) (vs := [.ref a, .ref b]) F hb hx ⟨hr.in1, rfl⟩ I (.cons rfl (.cons rfl .nil)) q) (fun r s' z => ?_) fun _ _ e => e)
  obtain ⟨z, H', I', rz, k, rfl, q'⟩ := z
  cases rz
  exact ⟨k, rfl, .bl (!k), H', I', rfl, q'⟩
end
end Eh
set_option Elab.async false
set_option linter.all false
set_option maxRecDepth 100000
set_option maxHeartbeats 8000000
set_option pp.maxSteps 60
namespace Eh
open PySem PySem.Spec PyProof.Rows L2
open ClX
open LamX (TabB Tabs TabS ExtN GivesTo TTold tLam told_gives pe_lamcall lamS_by lamCx lamEnv)
/-- the dice go on; all else stays, but the tables -/
structure GrN (T : List (Addr × Str)) (d : Addr) (H H' : Hp) : Prop where
  dice : D3 H' d
  keep : ∀ a o, a ≠ d → H a = some o → (∀ ps, o ≠ .tbl ps) → H' a = some o
  tabs : Tabs T H'
theorem GrN.same {T : List (Addr × Str)} {d : Addr} {H0 H H' : Hp} (g : GrN T d H0 H) (s : Same H H') : GrN T d H0 H' := ⟨(same_gr g.dice s).dice, fun a o n e k => s _ _ (g.keep a o n e k), g.tabs.ext s⟩
theorem GrN.ext {T : List (Addr × Str)} {d : Addr} {H0 H H' : Hp} (g : GrN T d H0 H) (x : ExtN H H') (t : Tabs T H') : GrN T d H0 H' := by
  obtain ⟨a, b, c, e⟩ := g.dice
  exact ⟨⟨a, b, c, x _ _ e fun ps z => by cases z⟩, fun a o n e k => x _ _ (g.keep a o n e k) k, t⟩
theorem set_cut {us : List V} {i : Nat} {u : V} (h : i < us.length) : us.take i ++ [u] ++ us.drop (i + 1) = us.set i u := by
  rw [List.set_eq_take_append_cons_drop, if_pos h, List.append_assoc]
  rfl
end Eh
set_option Elab.async false
set_option linter.all false
set_option maxRecDepth 100000
set_option maxHeartbeats 4000000
namespace Zl
open PySem PySem.Spec PyProof.Rows L2
open Sem (wp)
theorem nq {a S : Nat} (h : a < S) (j : Nat) : S + 1 + j ≠ a := by omega
theorem nt {a S T : Nat} (h : a < S) (h2 : S < T) : T ≠ a := by omega
end Zl
set_option Elab.async false
set_option linter.all false
set_option maxRecDepth 100000
set_option maxHeartbeats 4000000
namespace Zl
open PySem PySem.Spec PyProof.Rows L2
open Sem (wp)
/-- pairs laid one behind the other from B on -/
def prL : Hp → Addr → List (V × V) → Hp
  | H, _, [] => H
  | H, B, (x, y) :: r => prL (upd H B (.tup [x, y])) (B + 1) r
section
variable {X : Cx} {pins : List (Addr × Obj)} {σ : L2.St} {h' : Heap}
theorem lay : ∀ (zs : List (V × V)) (B : Nat) (H : Hp) (s : Shared), Inv X pins σ H s → (∀ b o, s.heap.get? b = some o → h'.get? b = some o) → (∀ b : Nat, B ≤ b → s.heap.get? b = none ∧ H b = none) →
    (∀ j x y, zs[j]? = some (x, y) → ∃ u v, RelV x u ∧ RelV y v ∧ IsPair h' (B + j) u v) →
    ∃ G : Heap, (∀ b o, G.get? b = some o → h'.get? b = some o) ∧ (∀ b : Nat, b < B → s.heap.get? b = none → G.get? b = none) ∧ Inv X pins σ (prL H B zs) { s with heap := G }
  | [], B, H, s, I, k, n, a => ⟨s.heap, k, fun _ _ e => e, I⟩
  | (x, y) :: r, B, H, s, I, k, n, a => by
    obtain ⟨u, v, ru, rv, hT⟩ := a 0 x y rfl
    obtain ⟨G, g1, g2⟩ := restrict h' fun b => decide ((s.heap.get? b).isSome = true ∨ b = B)
    have gk : ∀ b o, s.heap.get? b = some o → G.get? b = some o := fun b o e => by
      rw [g1 b (decide_eq_true (.inl (by rw [e]; rfl)))]
      exact k b o e
    have gs : ∀ b o, G.get? b = some o → h'.get? b = some o := fun b o e => by
      by_cases hb : (s.heap.get? b).isSome = true ∨ b = B
      · rw [g1 b (decide_eq_true hb)] at e; exact e
      · rw [g2 b (decide_eq_false hb)] at e; cases e
    have gn : ∀ b, s.heap.get? b = none → b ≠ B → G.get? b = none := fun b e hb => g2 b (decide_eq_false fun z => by
      rcases z with z | z
      · rw [e] at z; cases z
      · exact hb z)
    have hT2 : G.get? B = some { cls := .type "tuple", data := .seq #[u, v] } := by
      rw [g1 B (decide_eq_true (.inr rfl))]
      exact hT
    have new : ObjOk X.prog X.w (upd H B (.tup [x, y])) G B (.tup [x, y]) :=
      ⟨by show 2 ≤ sizeLine; decide, [u, v], .cons ru (.cons rv .nil), ⟨_, hT2, rfl, _, rfl⟩⟩
    have I1 : Inv X pins σ (upd H B (.tup [x, y])) { s with heap := G } := I.laidN (t' := s.toks) gk (n B (Nat.le_refl _)).1 (n B (Nat.le_refl _)).2 new
    obtain ⟨G2, q1, q2, q3⟩ := lay r (B + 1) (upd H B (.tup [x, y])) { s with heap := G } I1 gs (fun b hb => ⟨gn b (n b (by omega)).1 (Nat.ne_of_gt hb), by rw [upd_ne (Nat.ne_of_gt hb)]; exact (n b (by omega)).2⟩)
      (fun j x' y' e => by
        obtain ⟨u', v', r1, r2, r3⟩ := a (j + 1) x' y' (by simpa using e)
        exact ⟨u', v', r1, r2, by rw [Nat.add_right_comm]; exact r3⟩)
    exact ⟨G2, q1, fun b hb e => q2 b (by omega) (gn b e (Nat.ne_of_lt hb)), q3⟩
end
theorem vals_refs : ∀ (l : List Nat), Vals (l.map fun a => V.ref a) (l.map fun a => Value.ref a)
  | [] => .nil
  | a :: l => .cons rfl (vals_refs l)
end Zl
set_option Elab.async false
set_option linter.all false
set_option maxRecDepth 100000
set_option maxHeartbeats 4000000
namespace Eh
open PySem PySem.Spec PyProof.Rows L2
def look (fs ws : List Str) (z : Str) : Str := match (fs.zip ws).find? fun p => decide (p.1 = z) with | some p => p.2 | none => z
end Eh
set_option Elab.async false
set_option linter.all false
set_option maxRecDepth 100000
set_option maxHeartbeats 4000000
namespace Eh
open PySem PySem.Spec PyProof.Rows L2
open Zl
/-- the pairs made so far, what stood stays -/
def PrsR (H0 : Hp) (kvs : List (Key × V)) (j : Nat) (acc : List V) (H : Hp) : Prop := ∃ ps : List Addr, acc = ps.map V.ref ∧ Paired (fun p kv => H p = some (.tup [kV kv.1, kv.2])) ps (kvs.take j) ∧ Same H0 H
/-- behind the comprehension: what dict(..) asks -/
theorem PrsR.done {K : PySem.W.Frag} {H0 H : Hp} {acc : List V} {kvs : List (Key × V)} {n : Nat} (r : PrsR H0 kvs n acc H) (h : kvs.length ≤ n) : ∃ ps : List Addr, acc = ps.map V.ref ∧ Paired (fun p kv => SqT K H p [kV kv.1, kv.2]) ps kvs ∧ Same H0 H := by
  obtain ⟨ps, ea, hp, s⟩ := r
  rw [List.take_of_length_le h] at hp
  exact ⟨ps, ea, Paired.mono (fun p kv e => SqT.of e) hp, s⟩
end Eh
set_option Elab.async false
set_option linter.all false
set_option maxRecDepth 100000
set_option maxHeartbeats 4000000
set_option Elab.async false
set_option linter.all false
set_option maxRecDepth 100000
set_option maxHeartbeats 4000000
set_option Elab.async false
set_option linter.all false
set_option maxRecDepth 100000
set_option maxHeartbeats 2000000
namespace Eh
open PySem PySem.Spec PyProof.Rows L2
/-- where a path leads through nodes of some kinds: how many nodes stand ahead, and the part -/
def walkV (ks : List Str) : Pl → List V → Option (Nat × Pl)
  | p, [] => some (0, p)
  | .leaf _ _, _ :: _ => none
  | .node k ps, v :: r =>
    if (ks.contains k && idxV v (ps.length : Int)) = true then
      (match ps[(intOf v).toNat]? with
      | some q => (walkV ks q r).map fun y => (1 + (nodesAll (ps.take (intOf v).toNat)).length + y.1, y.2)
      | none => none)
    else none
theorem walkV_nil {ks : List Str} {p : Pl} : walkV ks p [] = some (0, p) := by
  cases p <;> rw [walkV]
theorem idxV_nat {v : V} {n : Nat} (h : idxV v (n : Int) = true) : ∃ i : Nat, v = .int (i : Int) ∧ i < n := by
  unfold idxV at h
  rw [Bool.and_eq_true] at h
  obtain ⟨i, rfl⟩ := intV_int h.1
  have h2 : (decide (0 ≤ i) && decide (i < (n : Int))) = true := h.2
  rw [Bool.and_eq_true, decide_eq_true_eq, decide_eq_true_eq] at h2
  refine ⟨i.toNat, ?_, by omega⟩
  rw [Int.toNat_of_nonneg h2.1]
theorem nodesAll_split {ps : List Pl} {i : Nat} {q : Pl} (h : ps[i]? = some q) : nodesAll ps = nodesAll (ps.take i) ++ (nodesOf q ++ nodesAll (ps.drop (i + 1))) := by
  have d := drop_at h
  have e : ps = ps.take i ++ q :: ps.drop (i + 1) := by rw [← d, List.take_append_drop]
  have e2 := congrArg nodesAll e
  rw [nodesAll_append, nodesAll] at e2
  exact e2
theorem walkV_node {ks : List Str} {k : Str} {ps : List Pl} {r : List V} {i : Nat} {q : Pl} (hk : ks.contains k = true) (hi : idxV (.int (i : Int)) (ps.length : Int) = true) (hq : ps[i]? = some q) :
    walkV ks (.node k ps) (.int (i : Int) :: r) = (walkV ks q r).map fun y => (1 + (nodesAll (ps.take i)).length + y.1, y.2) := by
  rw [walkV, hk, hi, if_pos (show (true && true) = true from rfl)]
  have e : (intOf (V.int (i : Int))).toNat = i := rfl
  rw [e, hq]
theorem walkV_split {ks : List Str} : ∀ {zs : List V} {pl : Pl} {o : Nat} {q : Pl}, plOk pl = true → walkV ks pl zs = some (o, q) → ∃ pre post, nodesOf pl = pre ++ (nodesOf q ++ post) ∧ pre.length = o ∧ plOk q = true
  | [], pl, o, q, h, e => by
    rw [walkV_nil] at e
    cases e
    exact ⟨[], [], by rw [List.append_nil]; rfl, rfl, h⟩
  | v :: r, .leaf k t, o, q, h, e => by
    rw [walkV] at e
    cases e
  | v :: r, .node k ps, o, q, h, e => by
    rw [walkV] at e
    split at e
    · split at e
      · rename_i q1 hq
        cases hw : walkV ks q1 r with
        | none =>
          rw [hw] at e
          cases e
        | some y =>
          obtain ⟨o1, q2⟩ := y
          rw [hw] at e
          cases e
          rw [plOk, Bool.and_eq_true] at h
          obtain ⟨pre, post, e1, e2, e3⟩ := walkV_split (plsOk_get h.2 hq) hw
          refine ⟨(k, .int (ps.length : Int)) :: (nodesAll (ps.take (intOf v).toNat) ++ pre), post ++ nodesAll (ps.drop ((intOf v).toNat + 1)), ?_, ?_, e3⟩
          · rw [nodesOf, nodesAll_split hq, e1]
            simp only [List.append_assoc, List.cons_append]
          · rw [List.length_cons, List.length_append, e2]
            omega
      · cases e
    · cases e
/-- what a value is as a path -/
inductive PathV (K : PySem.W.Frag) (H : Hp) : V → Option (List V) → Prop
  | other {v : V} : NoT H v → PathV K H v none
  | tup {t : Addr} {zs : List V} : SqT K H t zs → (∀ z ∈ zs, KindI K H z) → PathV K H (.ref t) (some zs)
def startV (ks : List Str) (pl : Pl) : Option (List V) → V
  | none => .non
  | some zs => match walkV ks pl zs with
    | some y => .int (y.1 : Int)
    | none => .non
theorem startV_none {ks : List Str} {pl : Pl} {zs : List V} (h : walkV ks pl zs = none) : startV ks pl (some zs) = .non := by
  show (match walkV ks pl zs with | some y => V.int (y.1 : Int) | none => V.non) = _
  rw [h]
theorem startV_some {ks : List Str} {pl : Pl} {zs : List V} {o : Nat} {q : Pl} (h : walkV ks pl zs = some (o, q)) : startV ks pl (some zs) = .int (o : Int) := by
  show (match walkV ks pl zs with | some y => V.int (y.1 : Int) | none => V.non) = _
  rw [h]
end Eh
set_option Elab.async false
set_option linter.all false
set_option maxRecDepth 100000
set_option maxHeartbeats 4000000
namespace Eh
open PySem PySem.Spec PyProof.Rows L2
section
variable {P : Program} {w : World} {K : PySem.W.Frag} {mg : Str → Option Value} {base : Heap}
def spAlong (K : PySem.W.Frag) : Sp := fun vs H Q _ => ∃ p xs pl v ws kp ks, vs = [.ref p, v, .ref kp] ∧ SqT K H p xs ∧ NdsAt K H xs (nodesOf pl) ∧ plOk pl = true ∧ xs.length < 1000 ∧ PathV K H v ws ∧ SqT K H kp (ks.map V.str) ∧ (∀ k : Str, ks.contains k = true → nodeKinds.contains k = true) ∧ Q (startV ks pl ws) H
/-- the first node of a tree that stands at an offset -/
theorem head_at {xs : List V} {ns : List (Str × V)} {H : Hp} {st : Nat} {q : Pl} {rest : List (Str × V)} (hN : NdsAt K H xs ns) (hd : ns.drop st = nodesOf q ++ rest) :
    ∃ a k u, xs[st]? = some (.ref a) ∧ ns[st]? = some (k, u) ∧ SqT K H a [.str k, u] ∧ (∃ more, nodesOf q = (k, u) :: more) := by
  obtain ⟨⟨k, u⟩, more, e⟩ : ∃ n more, nodesOf q = n :: more := by
    cases q with
    | leaf k u => exact ⟨_, _, by rw [nodesOf]⟩
    | node k ps => exact ⟨_, _, by rw [nodesOf]⟩
  rw [e] at hd
  have hke : ns[st]? = some (k, u) := by
    have h0 : (ns.drop st)[0]? = some (k, u) := by rw [hd]; rfl
    rw [List.getElem?_drop] at h0
    exact h0
  have hel : st < ns.length := (List.getElem?_eq_some_iff.mp hke).1
  have hx := List.getElem?_eq_getElem (show st < xs.length by rw [hN.length]; exact hel)
  obtain ⟨a, k', u', ex, hk', ha⟩ := hN.get hx
  rw [hke] at hk'
  cases hk'
  exact ⟨a, k, u, by rw [← ex]; exact hx, hke, ha, more, e⟩
theorem ok_start_along {fX fE f : Addr} {fdX fdE fd : FuncData} (F : Fun K "_start_along" "_start_along" s__start_along f fd) (T : Txt mg) (C_is_index : Cal P w K mg base 2 "is_index" fX fdX ["value", "many"] (spIndex K)) (C_end_of : Cal P w K mg base 1 "end_of" fE fdE ["nodes", "start"] (spEnd K)) :
    FnOk P w K mg base CX0 3 f fd ["nodes", "path", "kinds"] (spAlong K) := by
  refine F.ok sc__start_along (fun vs H Q E h => ?_) (fun cdv A outer s H vs Q E hr h => ?_)
  · obtain ⟨p, xs, pl, v, ws, kp, ks, rfl, _⟩ := h
    rfl
  · obtain ⟨p, xs, pl, v, ws, kp, ks, rfl, hS, hN, hok, hlen, hP, hK, hks, q⟩ := h
    have hr2 := hr.mono (j := 2) (by omega)
    have hr1 := hr.mono (j := 1) (by omega)
    refine ⟨_, (pss_cons (ps_if (pt_not (pt_val (pe_callB (isiQ (K := K) rfl) (by rfl) T.isinstance_ (by decide +kernel) (pa_cons (pv 1) (pa_cons (pe_bltn (v := .ty "tuple") (by rfl) T.tuple_ (by decide +kernel) rfl) pa_nil)))))
  (pss_one (ps_ret pe_non))
  pss_nil)
  (pss_cons (ps_set (i := 3) sc__start_along.nd rfl (.inl rfl) pe_int)
  (pss_cons (ps_for PassesOwn.never (by rfl) (pi_tup (pv 1)) (pg_name (i := 4) sc__start_along.nd rfl (.inl rfl))
  (pss_cons (ps_asg (pe_ix (ixT (K := K) rfl) (pv 0) (pv 3) (fun _ _ => rfl)) (pg_tup (by rfl) (pgs_cons (pg_name (i := 5) sc__start_along.nd rfl (.inl rfl)) (pgs_cons (pg_name (i := 6) sc__start_along.nd rfl (.inl rfl)) pgs_nil))))
  (pss_cons (ps_if (PW.pt (pw_or (pt_cmpR (niB (K := K) rfl) (pv 5) (pv 2) (by rfl)) (pw_or1 (pt_not (pt_val (pe_call C_is_index.G hr2 (by rfl) C_is_index.m C_is_index.k C_is_index.b .nil pass0 (pa_cons (pv 4) (pa_cons (pv 6) pa_nil))))))))
  (pss_one (ps_ret pe_non))
  pss_nil)
  (pss_cons (ps_set (i := 3) sc__start_along.nd rfl (.inl rfl) (pe_op op_add (pv 3) pe_int))
  (pss_one (ps_for PassesOwn.never (by rfl) (pi_range1 (by rfl) T.range_ (pa_cons (pv 4) pa_nil)) (pg_name (i := 7) sc__start_along.nd rfl (.inl rfl))
  (pss_one (ps_set (i := 3) sc__start_along.nd rfl (.inl rfl) (pe_call C_end_of.G hr1 (by rfl) C_end_of.m C_end_of.k C_end_of.b .nil pass0 (pa_cons (pv 0) (pa_cons (pv 3) pa_nil)))))))))))
  (pss_one (ps_ret (pv 3)))))), ?_⟩
    cases hP with
    | other hno =>
      obtain ⟨u, ty, hk⟩ := hno.ty (K := K)
      exact ⟨_, rfl, v, .ty "tuple", _, .type "tuple", false, rfl, .ty _, ty, hk, _, rfl, iteT q⟩
    | tup hs hkI =>
      rename_i t zs
      refine ⟨_, rfl, .ref t, .ty "tuple", _, .type "tuple", true, rfl, .ty _, ty_tup hs, kitTT, _, rfl, iteF ?_⟩
      refine ⟨_, rfl, t, rfl, ⟨_, hs⟩, for_tup (xs := zs) (fun j σ H2 => ∃ (st : Nat) (q : Pl) (rest : List (Str × V)) (x4 x5 x6 x7 : Option V), H2 = H ∧ σ = [some (.ref p), some (.ref t), some (.ref kp), some (.int (st : Int)), x4, x5, x6, x7] ∧ (nodesOf pl).drop st = nodesOf q ++ rest ∧ plOk q = true ∧ walkV ks pl zs = (walkV ks q (zs.drop j)).map fun y => (st + y.1, y.2)) ?_ (fun j σ H2 _ h => ?_) ?_ ?_⟩
      · refine ⟨0, pl, [], none, none, none, none, rfl, rfl, by rw [List.append_nil]; rfl, hok, ?_⟩
        rw [List.drop_zero]
        cases walkV ks pl zs with
        | none => rfl
        | some y => rw [Option.map_some, Nat.zero_add]
      · obtain ⟨st, q, rest, x4, x5, x6, x7, rfl, _⟩ := h
        exact hs
      · rintro j x σ H2 hx ⟨st, t1, rest, x4, x5, x6, x7, rfl, rfl, hd, hok1, hw⟩
        obtain ⟨a, k, u, hxa, hna, ha, more, hmore⟩ := head_at hN hd
        have hkx := hkI x (List.mem_of_getElem? hx)
        have hdz := drop_at hx
        refine ⟨_, rfl, _, rfl, p, xs, _, .ref a, rfl, rfl, hS, atI_nat hxa, ?_⟩
        refine ⟨a, _, rfl, ha, rfl, _, _, rfl, _, _, rfl, rfl, ?_⟩
        refine ⟨_, rfl, _, rfl, kp, _, rfl, .inr hK, rfl, flat_strs _, fun b eb => ⟨_, rfl, ?_⟩⟩
        rw [inV_strs] at eb
        cases t1 with
        | leaf k1 u1 =>
          rw [nodesOf] at hmore
          cases hmore
          have hkn : nodeKinds.contains k = false := by
            rw [plOk] at hok1
            simpa using hok1
          have eb' : b = false := by
            cases b with
            | false => rfl
            | true => exact absurd (hks k eb) (by rw [hkn]; exact Bool.false_ne_true)
          subst eb'
          rw [hdz, walkV] at hw
          rw [startV_none hw] at q
          exact iteT (iteT q)
        | node k1 ps =>
          rw [nodesOf] at hmore
          cases hmore
          cases b with
          | false =>
            rw [hdz, walkV, eb, Bool.false_and, if_neg Bool.false_ne_true] at hw
            rw [startV_none hw] at q
            exact iteT (iteT q)
          | true =>
            refine iteF ?_
            refine ⟨_, rfl, _, rfl, x, _, rfl, hkx, ⟨_, rfl, ?_⟩⟩
            cases ei : idxV x (ps.length : Int) with
            | false =>
              rw [hdz, walkV, eb, ei, Bool.and_false, if_neg Bool.false_ne_true] at hw
              rw [startV_none hw] at q
              exact iteT q
            | true =>
              refine iteF ?_
              obtain ⟨i, rfl, hi⟩ := idxV_nat ei
              have hq := List.getElem?_eq_getElem hi
              rw [hdz, walkV_node eb ei hq] at hw
              rw [plOk, Bool.and_eq_true] at hok1
              have hokq := plsOk_get hok1.2 hq
              rw [nodesOf] at hd
              have hps : ps.length < 1000 := by
                have h1 := congrArg List.length hd
                rw [List.length_drop, List.length_append, List.length_cons] at h1
                have := hN.length
                have := nodes_ge ps
                omega
              refine ⟨_, rfl, _, _, rfl, rfl, _, rfl, _, rfl, by omega, by omega, ?_⟩
              refine for_range (lo := 0) (n := i) (fun m σ H3 => ∃ (y7 : Option V), H3 = H2 ∧ σ = [some (.ref p), some (.ref t), some (.ref kp), some (.int ((st + 1 + (nodesAll (ps.take m)).length : Nat) : Int)), some (.int (i : Int)), some (.str k), some (.int (ps.length : Int)), y7]) ?_ ?_ ?_
              · refine ⟨x7, rfl, ?_⟩
                rw [List.take_zero, nodesAll]
                rfl
              · rintro m σ H3 hm ⟨y7, rfl, rfl⟩
                have hm' : m < ps.length := by omega
                have hqm := List.getElem?_eq_getElem hm'
                refine ⟨_, rfl, _, rfl, p, xs, nodesOf pl, st + 1 + (nodesAll (ps.take m)).length, ps[m], nodesAll (ps.drop (m + 1)) ++ rest, rfl, hS, hN, hlen, ?_, plsOk_get hok1.2 hqm, ?_⟩
                · have h2 := congrArg (List.drop (1 + (nodesAll (ps.take m)).length)) hd
                  rw [List.drop_drop, nodesAll_split hqm, List.cons_append, Nat.add_comm 1, List.drop_succ_cons, List.append_assoc, List.drop_left, List.append_assoc] at h2
                  rw [← h2]
                  exact congrArg (fun n => (nodesOf pl).drop n) (by omega)
                · refine ⟨some (.int (0 + ((m : Nat) : Int))), rfl, ?_⟩
                  rw [nodesAll_take hqm, List.length_append, Nat.add_assoc (st + 1)]
                  rfl
              · rintro σ H3 ⟨y7, rfl, rfl⟩
                refine ⟨st + 1 + (nodesAll (ps.take i)).length, ps[i], nodesAll (ps.drop (i + 1)) ++ rest, _, _, _, _, rfl, rfl, ?_, hokq, ?_⟩
                · have h2 := congrArg (List.drop (1 + (nodesAll (ps.take i)).length)) hd
                  rw [List.drop_drop, nodesAll_split hq, List.cons_append, Nat.add_comm 1, List.drop_succ_cons, List.append_assoc, List.drop_left, List.append_assoc] at h2
                  rw [← h2]
                  exact congrArg (fun n => (nodesOf pl).drop n) (by omega)
                · rw [hw, Option.map_map]
                  refine congrArg (fun f => Option.map f _) (funext fun y => ?_)
                  show ((st + (1 + (nodesAll (ps.take i)).length + y.1), y.2) : Nat × Pl) = (st + 1 + (nodesAll (ps.take i)).length + y.1, y.2)
                  rw [show st + (1 + (nodesAll (ps.take i)).length + y.1) = st + 1 + (nodesAll (ps.take i)).length + y.1 by omega]
      · rintro σ H2 ⟨st, t1, rest, x4, x5, x6, x7, rfl, rfl, hd, hok1, hw⟩
        rw [List.drop_length, walkV_nil] at hw
        have e0 : startV ks pl (some zs) = .int (st : Int) := startV_some hw
        rw [e0] at q
        exact ⟨_, rfl, q⟩
end
end Eh
set_option Elab.async false
set_option linter.all false
set_option maxRecDepth 100000
set_option maxHeartbeats 4000000
namespace Eh
open PySem PySem.Spec PyProof.Rows L2
theorem catA {X : Cx} {K : PySem.W.Frag} (h : X.K = K) : OpR X (binaryOp .Add) (rCatA K) := by subst h; exact op_catA
/-- t + u of any tuples, wherever the sum stands -/
theorem cat_anyW {K : PySem.W.Frag} {H : Hp} {a b : Addr} {xs ys : List V} {Q : VK} (ha : SqT K H a xs) (hb : SqT K H b ys) (hl : xs.length + ys.length < 1000000)
    (q : ∀ t H', Same H H' → SqT K H' t (xs ++ ys) → Q (.ref t) H') : rCatA K (.ref a) (.ref b) H Q := by
  refine ⟨a, b, xs, ys, rfl, rfl, ha, hb, Nat.le_of_lt (small hl), fun e => ?_, fun _ e => ?_, fun _ _ p np => ?_⟩
  · subst e
    exact q b H (Same.refl H) hb
  · subst e
    exact q a H (Same.refl H) (by rw [List.append_nil]; exact ha)
  · exact q p _ (same_new np) (SqT.of upd_same)
theorem cutN_to (xs : List V) (b : Nat) : cutV xs none (some (b : Int)) = xs.take b := by
  unfold cutV
  rw [HT.sIx_nat]
  show (xs.drop 0).take (min b xs.length - 0) = _
  rw [List.drop_zero, Nat.sub_zero]
  by_cases h : b ≤ xs.length
  · rw [Nat.min_eq_left h]
  · rw [Nat.min_eq_right (by omega), List.take_of_length_le (Nat.le_refl _), List.take_of_length_le (by omega)]
theorem cutN_from (xs : List V) (a : Nat) (h : a ≤ xs.length) : cutV xs (some (a : Int)) none = xs.drop a := by
  unfold cutV
  rw [HT.sIx_nat, Nat.min_eq_left h]
  show (xs.drop a).take (xs.length - a) = _
  exact List.take_of_length_le (by rw [List.length_drop]; exact Nat.le_refl _)
/-- t[a:b] of any tuple -/
theorem sl_mid {K : PySem.W.Frag} {H : Hp} {p : Addr} {xs : List V} {Q : VK} {a b : Nat} (h : SqT K H p xs) (ha : a ≤ xs.length) (hb : a ≤ b)
    (q : ∀ t H', Same H H' → SqT K H' t ((xs.drop a).take (b - a)) → Q (.ref t) H') : rSlA K (.ref p) (some (a : Int)) (some (b : Int)) H Q := by
  refine ⟨p, xs, rfl, h, fun hw => ?_, fun _ z nz => ?_⟩
  · rw [HT.sIx_nat, HT.sIx_nat] at hw
    refine q p H (Same.refl H) ?_
    by_cases h0 : a = 0
    · subst h0
      rw [List.drop_zero, List.take_of_length_le (by omega)]
      exact h
    · have hx : xs = [] := List.length_eq_zero_iff.mp (by omega)
      subst hx
      rw [List.drop_nil, List.take_nil]
      exact h
  · refine q z _ (same_new nz) (SqT.of ?_)
    rw [upd_same, cutD xs a b ha hb]
theorem sl_to {K : PySem.W.Frag} {H : Hp} {p : Addr} {xs : List V} {Q : VK} {b : Nat} (h : SqT K H p xs)
    (q : ∀ t H', Same H H' → SqT K H' t (xs.take b) → Q (.ref t) H') : rSlA K (.ref p) none (some (b : Int)) H Q := by
  refine ⟨p, xs, rfl, h, fun hw => ?_, fun _ z nz => ?_⟩
  · have hw := hw.2
    rw [HT.sIx_nat] at hw
    refine q p H (Same.refl H) ?_
    rw [List.take_of_length_le (by omega)]
    exact h
  · refine q z _ (same_new nz) (SqT.of ?_)
    rw [upd_same, cutN_to]
theorem sl_from {K : PySem.W.Frag} {H : Hp} {p : Addr} {xs : List V} {Q : VK} {a : Nat} (h : SqT K H p xs) (ha : a ≤ xs.length)
    (q : ∀ t H', Same H H' → SqT K H' t (xs.drop a) → Q (.ref t) H') : rSlA K (.ref p) (some (a : Int)) none H Q := by
  refine ⟨p, xs, rfl, h, fun hw => ?_, fun _ z nz => ?_⟩
  · have hw := hw.1
    rw [HT.sIx_nat] at hw
    refine q p H (Same.refl H) ?_
    by_cases h0 : a = 0
    · subst h0
      rw [List.drop_zero]
      exact h
    · have hx : xs = [] := List.length_eq_zero_iff.mp (by omega)
      subst hx
      rw [List.drop_nil]
      exact h
  · refine q z _ (same_new nz) (SqT.of ?_)
    rw [upd_same, cutN_from xs a ha]
theorem drop_len {α : Type} {ns qs rest : List α} {st : Nat} (h : ns.drop st = qs ++ rest) (hq : 0 < qs.length) : st + qs.length + rest.length = ns.length ∧ ns.drop (st + qs.length) = rest := by
  have h1 := congrArg List.length h
  rw [List.length_drop, List.length_append] at h1
  refine ⟨by omega, ?_⟩
  have h2 := congrArg (List.drop qs.length) h
  rw [List.drop_drop, List.drop_left] at h2
  exact h2
section
variable {P : Program} {w : World} {K : PySem.W.Frag} {mg : Str → Option Value} {base : Heap}
def spPartFrom (K : PySem.W.Frag) : Sp := fun vs H Q _ => ∃ p xs ns st q rest, vs = [.ref p, .int (st : Nat)] ∧ SqT K H p xs ∧ NdsAt K H xs ns ∧ xs.length < 1000 ∧ ns.drop st = nodesOf q ++ rest ∧ plOk q = true ∧
  ∀ r ys H', Same H H' → SqT K H' r ys → NdsAt K H' ys (nodesOf q) → Q (.ref r) H'
theorem ok_part_from {fE f : Addr} {fdE fd : FuncData} (F : Fun K "part_from" "part_from" s_part_from f fd) (C_end_of : Cal P w K mg base 1 "end_of" fE fdE ["nodes", "start"] (spEnd K)) :
    FnOk P w K mg base CX0 2 f fd ["nodes", "start"] (spPartFrom K) := by
  refine F.ok sc_part_from (fun vs H Q E h => ?_) (fun cdv A outer s H vs Q E hr h => ?_)
  · obtain ⟨p, xs, ns, st, q, rest, rfl, _⟩ := h
    rfl
  · obtain ⟨p, xs, ns, st, t, rest, rfl, hS, hN, hlen, hd, hok, q⟩ := h
    refine ⟨_, (pss_one (ps_ret (pe_slice (slA (K := K) rfl) (pv 0) (po_some (pv 1)) (po_some (pe_call C_end_of.G hr (by rfl) C_end_of.m C_end_of.k C_end_of.b .nil pass0 (pa_cons (pv 0) (pa_cons (pv 1) pa_nil))))))), ?_⟩
    have hl := drop_len hd (nodesOf_pos t)
    have hx := hN.length
    refine ⟨_, rfl, _, rfl, _, rfl, _, rfl, _, rfl, p, xs, ns, st, t, rest, rfl, hS, hN, hlen, hd, hok, _, rfl, ?_⟩
    refine sl_mid (a := st) (b := st + (nodesOf t).length) hS (by omega) (by omega) fun r H' s hr2 => q r _ H' s hr2 ?_
    have h2 := ((hN.tk (stk s)).drop st).take (st + (nodesOf t).length - st)
    rw [Nat.add_sub_cancel_left] at h2 ⊢
    rw [hd, List.take_left] at h2
    exact h2
def spExFrom (K : PySem.W.Frag) : Sp := fun vs H Q _ => ∃ p r xs ys ns ms st q rest, vs = [.ref p, .int (st : Nat), .ref r] ∧ SqT K H p xs ∧ NdsAt K H xs ns ∧ xs.length < 1000 ∧ SqT K H r ys ∧ NdsAt K H ys ms ∧ ys.length < 1000 ∧ ns.drop st = nodesOf q ++ rest ∧ plOk q = true ∧
  ∀ t us H', Same H H' → SqT K H' t us → NdsAt K H' us (ns.take st ++ (ms ++ rest)) → Q (.ref t) H'
theorem ok_exchanged_from {fE f : Addr} {fdE fd : FuncData} (F : Fun K "exchanged_from" "exchanged_from" s_exchanged_from f fd) (C_end_of : Cal P w K mg base 1 "end_of" fE fdE ["nodes", "start"] (spEnd K)) :
    FnOk P w K mg base CX0 2 f fd ["nodes", "start", "other"] (spExFrom K) := by
  refine F.ok sc_exchanged_from (fun vs H Q E h => ?_) (fun cdv A outer s H vs Q E hr h => ?_)
  · obtain ⟨p, r, xs, ys, ns, ms, st, q, rest, rfl, _⟩ := h
    rfl
  · obtain ⟨p, r, xs, ys, ns, ms, st, t, rest, rfl, hS, hN, hlen, hS2, hM, hlen2, hd, hok, q⟩ := h
    refine ⟨_, (pss_one (ps_ret (pe_op (catA (K := K) rfl) (pe_op (catA (K := K) rfl) (pe_slice (slA (K := K) rfl) (pv 0) po_none (po_some (pv 1))) (pv 2)) (pe_slice (slA (K := K) rfl) (pv 0) (po_some (pe_call C_end_of.G hr (by rfl) C_end_of.m C_end_of.k C_end_of.b .nil pass0 (pa_cons (pv 0) (pa_cons (pv 1) pa_nil)))) po_none)))), ?_⟩
    have hl := drop_len hd (nodesOf_pos t)
    have hx := hN.length
    have hy := hM.length
    refine ⟨_, rfl, _, rfl, _, rfl, ?_⟩
    refine sl_to hS fun a H1 s1 h1 => ?_
    have n1 := (hN.tk (stk s1)).take st
    refine ⟨_, rfl, ?_⟩
    refine cat_anyW h1 ((stk s1).seq hS2) (by rw [List.length_take]; omega) fun b H2 s2 h2 => ?_
    have s12 := s1.trans s2
    have n2 := (n1.tk (stk s2)).app (hM.tk (stk s12))
    refine ⟨_, rfl, _, rfl, _, rfl, p, xs, ns, st, t, rest, rfl, (stk s12).seq hS, hN.tk (stk s12), hlen, hd, hok, _, rfl, ?_⟩
    dsimp only [tNoPart]
    refine sl_from (a := st + (nodesOf t).length) ((stk s12).seq hS) (by omega) fun c H3 s3 h3 => ?_
    have z1 : (xs.take st).length ≤ xs.length := by rw [List.length_take]; exact Nat.min_le_right _ _
    have z2 : (xs.drop (st + (nodesOf t).length)).length ≤ xs.length := by rw [List.length_drop]; exact Nat.sub_le _ _
    refine cat_anyW ((stk s3).seq h2) h3 (by rw [List.length_append]; omega) fun d H4 s4 h4 => ?_
    refine q d _ H4 (s12.trans (s3.trans s4)) h4 ?_
    have n3 := (hN.tk (stk (s12.trans (s3.trans s4)))).drop (st + (nodesOf t).length)
    rw [hl.2] at n3
    have n5 := (n2.tk (stk (s3.trans s4))).app n3
    rw [List.append_assoc (ns.take st)] at n5
    exact n5
end
mutual
/-- the paths of a plain promise through nodes of some kinds, in order, and where they lead -/
def pathsK (ks : List Str) : Pl → List (List Nat × Nat)
  | .leaf _ _ => [([], 0)]
  | .node k ps => ([], 0) :: (if ks.contains k = true then pathsAll ks 0 1 ps else [])
def pathsAll (ks : List Str) (i off : Nat) : List Pl → List (List Nat × Nat)
  | [] => []
  | p :: ps => (pathsK ks p).map (fun y => (i :: y.1, off + y.2)) ++ pathsAll ks (i + 1) (off + (nodesOf p).length) ps
end
/-- what is still to come -/
def outP (ks : List Str) : Nat → List (List Nat × Pl) → List (List Nat × Nat)
  | _, [] => []
  | off, (pa, p) :: r => (pathsK ks p).map (fun y => (pa ++ y.1, off + y.2)) ++ outP ks (off + (nodesOf p).length) r
/-- the parts of a node as what is to come -/
def kids (pa : List Nat) (i : Nat) : List Pl → List (List Nat × Pl)
  | [] => []
  | p :: ps => (pa ++ [i], p) :: kids pa (i + 1) ps
theorem kids_snd (pa : List Nat) : ∀ (i : Nat) (ps : List Pl), (kids pa i ps).map (·.2) = ps
  | _, [] => rfl
  | i, p :: ps => by rw [kids, List.map_cons, kids_snd pa (i + 1) ps]
theorem kids_len (pa : List Nat) : ∀ (i : Nat) (ps : List Pl), (kids pa i ps).length = ps.length
  | _, [] => rfl
  | i, p :: ps => by rw [kids, List.length_cons, List.length_cons, kids_len pa (i + 1) ps]
theorem kids_fst (pa : List Nat) : ∀ (i : Nat) (ps : List Pl), (kids pa i ps).map (·.1) = (List.range' i ps.length).map fun j => pa ++ [j]
  | _, [] => rfl
  | i, p :: ps => by rw [kids, List.map_cons, List.length_cons, List.range'_succ, List.map_cons, kids_fst pa (i + 1) ps]
theorem outP_kids (ks : List Str) (pa : List Nat) : ∀ (ps : List Pl) (i off : Nat) (r : List (List Nat × Pl)) (o0 : Nat),
    outP ks (o0 + off) (kids pa i ps ++ r) = (pathsAll ks i off ps).map (fun y => (pa ++ y.1, o0 + y.2)) ++ outP ks (o0 + off + (nodesAll ps).length) r
  | [], i, off, r, o0 => by
    rw [kids, pathsAll, nodesAll]
    rfl
  | p :: ps, i, off, r, o0 => by
    have ih := outP_kids ks pa ps (i + 1) (off + (nodesOf p).length) r o0
    rw [kids, List.cons_append, outP, Nat.add_assoc o0, ih, pathsAll, nodesAll, List.map_append, List.map_map, List.length_append, List.append_assoc, show o0 + (off + (nodesOf p).length) + (nodesAll ps).length = o0 + off + ((nodesOf p).length + (nodesAll ps).length) by omega]
    have e : (pathsK ks p).map (fun y => (pa ++ [i] ++ y.1, o0 + off + y.2)) = (pathsK ks p).map ((fun y : List Nat × Nat => (pa ++ y.1, o0 + y.2)) ∘ fun y : List Nat × Nat => (i :: y.1, off + y.2)) := List.map_congr_left fun y _ => Prod.ext (by simp) (by simp only [Function.comp]; omega)
    rw [e]
theorem outP_node {ks : List Str} {pa : List Nat} {k : Str} {ps : List Pl} {r : List (List Nat × Pl)} {st : Nat} (h : ks.contains k = true) :
    outP ks st ((pa, .node k ps) :: r) = (pa, st) :: outP ks (st + 1) (kids pa 0 ps ++ r) := by
  rw [outP, pathsK, if_pos h, outP_kids ks pa ps 0 1 r st, nodesOf, List.length_cons, List.map_cons, List.append_nil, Nat.add_zero, List.cons_append, show st + ((nodesAll ps).length + 1) = st + 1 + (nodesAll ps).length by omega]
theorem outP_other {ks : List Str} {pa : List Nat} {p : Pl} {r : List (List Nat × Pl)} {st : Nat} (h : pathsK ks p = [([], 0)]) :
    outP ks st ((pa, p) :: r) = (pa, st) :: outP ks (st + (nodesOf p).length) r := by
  rw [outP, h]
  show (pa ++ [], st + 0) :: _ = _
  rw [List.append_nil]
  rfl
theorem outP_all (ks : List Str) (p : Pl) : outP ks 0 [([], p)] = pathsK ks p := by
  rw [outP, outP, List.append_nil]
  have : (fun y : List Nat × Nat => (([] : List Nat) ++ y.1, 0 + y.2)) = id := by
    funext y
    rw [Nat.zero_add]
    rfl
  rw [this, List.map_id]
/-- how paths stand -/
inductive PthsAt (K : PySem.W.Frag) (H : Hp) : List V → List (List Nat) → Prop
  | nil : PthsAt K H [] []
  | cons {a : Addr} {ns : List Nat} {us : List V} {ps : List (List Nat)} : SqT K H a (ns.map natV) → PthsAt K H us ps → PthsAt K H (.ref a :: us) (ns :: ps)
theorem PthsAt.tk {K : PySem.W.Frag} {H H' : Hp} (t : Tk H H') : ∀ {us : List V} {ps : List (List Nat)}, PthsAt K H us ps → PthsAt K H' us ps
  | _, _, .nil => .nil
  | _, _, .cons h r => .cons (t.seq h) (r.tk t)
theorem PthsAt.length {K : PySem.W.Frag} {H : Hp} : ∀ {us : List V} {ps : List (List Nat)}, PthsAt K H us ps → us.length = ps.length
  | _, _, .nil => rfl
  | _, _, .cons _ r => by rw [List.length_cons, List.length_cons, r.length]
theorem PthsAt.app {K : PySem.W.Frag} {H : Hp} : ∀ {us vs : List V} {ps qs : List (List Nat)}, PthsAt K H us ps → PthsAt K H vs qs → PthsAt K H (us ++ vs) (ps ++ qs)
  | _, _, _, _, .nil, h => h
  | _, _, _, _, .cons a r, h => .cons a (r.app h)
theorem PthsAt.snoc {K : PySem.W.Frag} {H : Hp} {a : Addr} {ns : List Nat} {us : List V} {ps : List (List Nat)} (h : PthsAt K H us ps) (x : SqT K H a (ns.map natV)) : PthsAt K H (us ++ [.ref a]) (ps ++ [ns]) := h.app (.cons x .nil)
theorem PthsAt.last' {K : PySem.W.Frag} {H : Hp} : ∀ {us : List V} {qs : List (List Nat)}, PthsAt K H us qs → ∀ {ps : List (List Nat)} {ns : List Nat}, qs = ps ++ [ns] → ∃ us' a, us = us' ++ [.ref a] ∧ PthsAt K H us' ps ∧ SqT K H a (ns.map natV)
  | _, _, .nil, ps, ns, e => by
    have := congrArg List.length e
    simp at this
  | _, _, .cons (a := a) (us := us) h r, [], ns, e => by
    injection e with e1 e2
    subst e1 e2
    cases r
    exact ⟨[], a, rfl, .nil, h⟩
  | _, _, .cons (a := a) (us := us) h r, p :: ps, ns, e => by
    injection e with e1 e2
    subst e1
    obtain ⟨us', b, e3, h1, h2⟩ := r.last' e2
    exact ⟨.ref a :: us', b, by rw [e3]; rfl, .cons h h1, h2⟩
theorem PthsAt.last {K : PySem.W.Frag} {H : Hp} {ps : List (List Nat)} {us : List V} {ns : List Nat} (h : PthsAt K H us (ps ++ [ns])) : ∃ us' a, us = us' ++ [.ref a] ∧ PthsAt K H us' ps ∧ SqT K H a (ns.map natV) := h.last' rfl
theorem PthsAt.get {K : PySem.W.Frag} {H : Hp} : ∀ {us : List V} {ps : List (List Nat)}, PthsAt K H us ps → ∀ {i : Nat} {v : V}, us[i]? = some v → ∃ a ns, v = .ref a ∧ ps[i]? = some ns ∧ SqT K H a (ns.map natV)
  | _, _, .nil, i, v, h => by simp at h
  | _, _, .cons a _, 0, v, h => by
    cases (show some _ = some v from h)
    exact ⟨_, _, rfl, rfl, a⟩
  | _, _, .cons _ r, i + 1, v, h => r.get (i := i) h
/-- how pairs of a path and an index stand -/
inductive FndAt (K : PySem.W.Frag) (H : Hp) : List V → List (List Nat × Nat) → Prop
  | nil : FndAt K H [] []
  | cons {a b : Addr} {ns : List Nat} {o : Nat} {us : List V} {r : List (List Nat × Nat)} : SqT K H a [.ref b, natV o] → SqT K H b (ns.map natV) → FndAt K H us r → FndAt K H (.ref a :: us) ((ns, o) :: r)
theorem FndAt.tk {K : PySem.W.Frag} {H H' : Hp} (t : Tk H H') : ∀ {us : List V} {ps : List (List Nat × Nat)}, FndAt K H us ps → FndAt K H' us ps
  | _, _, .nil => .nil
  | _, _, .cons h h2 r => .cons (t.seq h) (t.seq h2) (r.tk t)
theorem FndAt.length {K : PySem.W.Frag} {H : Hp} : ∀ {us : List V} {ps : List (List Nat × Nat)}, FndAt K H us ps → us.length = ps.length
  | _, _, .nil => rfl
  | _, _, .cons _ _ r => by rw [List.length_cons, List.length_cons, r.length]
theorem FndAt.snoc {K : PySem.W.Frag} {H : Hp} {a b : Addr} {ns : List Nat} {o : Nat} (h1 : SqT K H a [.ref b, natV o]) (h2 : SqT K H b (ns.map natV)) : ∀ {us : List V} {ps : List (List Nat × Nat)}, FndAt K H us ps → FndAt K H (us ++ [.ref a]) (ps ++ [(ns, o)])
  | _, _, .nil => .cons h1 h2 .nil
  | _, _, .cons a b r => .cons a b (r.snoc h1 h2)
theorem FndAt.get {K : PySem.W.Frag} {H : Hp} : ∀ {us : List V} {ps : List (List Nat × Nat)}, FndAt K H us ps → ∀ {i : Nat} {v : V}, us[i]? = some v → ∃ a b ns o, v = .ref a ∧ ps[i]? = some (ns, o) ∧ SqT K H a [.ref b, natV o] ∧ SqT K H b (ns.map natV)
  | _, _, .nil, i, v, h => by simp at h
  | _, _, .cons a b _, 0, v, h => by
    cases (show some _ = some v from h)
    exact ⟨_, _, _, _, rfl, rfl, a, b⟩
  | _, _, .cons _ _ r, i + 1, v, h => r.get (i := i) h
end Eh
set_option Elab.async false
set_option linter.all false
set_option maxRecDepth 100000
set_option maxHeartbeats 4000000
namespace HSP
open PySem PySem.Spec PyProof.Rows PySem.SeqAt
/-- the order of paths -/
def lexN : List Nat → List Nat → Bool
  | [], [] => false
  | [], _ :: _ => true
  | _ :: _, [] => false
  | a :: as, b :: bs => if a = b then lexN as bs else decide (a < b)
theorem lexN_irr : ∀ a : List Nat, lexN a a = false
  | [] => rfl
  | x :: a => by rw [lexN, if_pos rfl, lexN_irr a]
theorem lexN_asym : ∀ a b : List Nat, lexN a b = true → lexN b a = false
  | [], [], h => rfl
  | [], _ :: _, h => rfl
  | _ :: _, [], h => by cases h
  | x :: a, y :: b, h => by
    rw [lexN] at h ⊢
    by_cases e : x = y
    · subst e
      rw [if_pos rfl] at h ⊢
      exact lexN_asym a b h
    · rw [if_neg e] at h
      rw [if_neg (Ne.symm e)]
      exact decide_eq_false (by have := of_decide_eq_true h; omega)
structure IsPath (h : Heap) (v : Value) (ns : List Nat) : Prop where
  at_ : ∃ a o xs n, v = .ref a ∧ h.get? a = some o ∧ o.cls = .type "tuple" ∧ o.data = .seq xs n ∧ IntsAre xs.toList (ns.map fun (i : Nat) => (i : Int))
theorem IsPath.keeps {h h' : Heap} {v : Value} {ns : List Nat} (p : IsPath h v ns) (k : ∀ b o, h.get? b = some o → o.cls = .type "tuple" → h'.get? b = some o) : IsPath h' v ns := by
  obtain ⟨a, o, xs, n, e, ho, hc, hd, hi⟩ := p.at_
  exact ⟨a, o, xs, n, e, k _ _ ho hc, hc, hd, hi⟩
end HSP
namespace Eh
open PySem PySem.Spec PyProof.Rows L2
section
variable {X : Cx}
inductive PthVals (h : Heap) : List Value → List (List Nat) → Prop
  | nil : PthVals h [] []
  | cons {v : Value} {ns : List Nat} {vs : List Value} {ps : List (List Nat)} : HSP.IsPath h v ns → PthVals h vs ps → PthVals h (v :: vs) (ns :: ps)
theorem PthVals.mem {h : Heap} : ∀ {vs : List Value} {ps : List (List Nat)}, PthVals h vs ps → ∀ v ∈ vs, ∃ ns ∈ ps, HSP.IsPath h v ns
  | _, _, .nil, v, hv => by cases hv
  | _, _, .cons p r, v, hv => by
    rcases List.mem_cons.mp hv with e | hv
    · subst e
      exact ⟨_, List.mem_cons_self, p⟩
    · obtain ⟨ns, m, q⟩ := r.mem v hv
      exact ⟨ns, List.mem_cons_of_mem _ m, q⟩
end
end Eh
set_option Elab.async false
set_option linter.all false
set_option maxRecDepth 100000
set_option maxHeartbeats 4000000
set_option Elab.async false
set_option linter.all false
set_option maxRecDepth 100000
set_option maxHeartbeats 8000000
namespace Eh
open PySem PySem.Spec PyProof.Rows L2
mutual
theorem pathsK_len {ks : List Str} : ∀ p : Pl, (pathsK ks p).length ≤ (nodesOf p).length
  | .leaf k t => by
    rw [pathsK, nodesOf]
    exact Nat.le_refl _
  | .node k ps => by
    rw [pathsK, nodesOf, List.length_cons, List.length_cons]
    split
    · have := pathsAll_len (ks := ks) ps 0 1
      omega
    · exact Nat.succ_le_succ (Nat.zero_le _)
theorem pathsAll_len {ks : List Str} : ∀ (ps : List Pl) (i off : Nat), (pathsAll ks i off ps).length ≤ (nodesAll ps).length
  | [], i, off => by
    rw [pathsAll]
    exact Nat.zero_le _
  | p :: ps, i, off => by
    rw [pathsAll, nodesAll, List.length_append, List.length_append, List.length_map]
    have := pathsK_len (ks := ks) p
    have := pathsAll_len (ks := ks) ps (i + 1) (off + (nodesOf p).length)
    omega
end
theorem pathsK_closed {ks : List Str} {k : Str} {ps : List Pl} (h : ks.contains k = false) : pathsK ks (.node k ps) = [([], 0)] := by
  rw [pathsK, if_neg (by rw [h]; exact Bool.false_ne_true)]
theorem pathsK_leaf {ks : List Str} {k : Str} {t : V} : pathsK ks (.leaf k t) = [([], 0)] := by rw [pathsK]
theorem kids_mem {pa : List Nat} {y : List Nat × Pl} : ∀ {i : Nat} {ps : List Pl}, y ∈ kids pa i ps → y.1.length = pa.length + 1 ∧ (nodesOf y.2).length ≤ (nodesAll ps).length
  | _, [], h => by
    rw [kids] at h
    cases h
  | i, p :: ps, h => by
    rw [kids] at h
    rw [nodesAll, List.length_append]
    rcases List.mem_cons.mp h with e | h
    · subst e
      refine ⟨?_, ?_⟩
      · show (pa ++ [i]).length = _
        rw [List.length_append]
        rfl
      · exact Nat.le_add_right _ _
    · have := kids_mem h
      omega
section
variable {P : Program} {w : World} {K : PySem.W.Frag} {mg : Str → Option Value} {base : Heap}
def spPathsAlong (K : PySem.W.Frag) : Sp := fun vs H Q _ => ∃ p xs pl kp ks, vs = [.ref p, .ref kp] ∧ SqT K H p xs ∧ NdsAt K H xs (nodesOf pl) ∧ plOk pl = true ∧ xs.length < 1000 ∧ SqT K H kp (ks.map V.str) ∧ (∀ k : Str, ks.contains k = true → nodeKinds.contains k = true) ∧
  ∀ l us H', Same H H' → H l = none → H' l = some (.lst us) → FndAt K H' us (pathsK ks pl) → Q (.ref l) H'
theorem ok_paths_along {fE f : Addr} {fdE fd : FuncData} (F : Fun K "_paths_along" "_paths_along" s__paths_along f fd) (T : Txt mg) (C_end_of : Cal P w K mg base 1 "end_of" fE fdE ["nodes", "start"] (spEnd K)) :
    FnOk P w K mg base CX0 2 f fd ["nodes", "kinds"] (spPathsAlong K) := by
  refine F.ok sc__paths_along (fun vs H Q E h => ?_) (fun cdv A outer s H vs Q E hr h => ?_)
  · obtain ⟨p, xs, pl, kp, ks, rfl, _⟩ := h
    rfl
  · obtain ⟨p, xs, pl, kp, ks, rfl, hS, hN, hok, hlen, hK, hks, q⟩ := h
    refine ⟨_, (pss_cons (ps_set (i := 2) sc__paths_along.nd rfl (.inl rfl) (pe_lst pa_nil))
  (pss_cons (ps_set (i := 3) sc__paths_along.nd rfl (.inl rfl) (pe_lst (pa_cons (pe_tup pa_nil) pa_nil)))
  (pss_cons (ps_set (i := 4) sc__paths_along.nd rfl (.inl rfl) pe_int)
  (pss_cons (ps_while PassesOwn.never (pt_truth (pv 3) (by intro _; rfl))
  (pss_cons (ps_set (i := 5) sc__paths_along.nd rfl (.inl rfl) (bm0K (K := K) rfl (pe_bm0 PySem.F.plainAttrs_list PySem.F.slot_list_pop PySem.F.type_list_pop mt_pop (pv 3))))
  (pss_cons (ps_asg (pe_ix (ixT (K := K) rfl) (pv 0) (pv 4) (fun _ _ => rfl)) (pg_tup (by rfl) (pgs_cons (pg_name (i := 6) sc__paths_along.nd rfl (.inl rfl)) (pgs_cons (pg_name (i := 7) sc__paths_along.nd rfl (.inl rfl)) pgs_nil))))
  (pss_cons (ps_expr (bmK (K := K) rfl (pe_bm PySem.F.plainAttrs_list PySem.F.slot_list_append PySem.F.type_list_append mt_append (pv 2) (pa_cons (pe_tup (pa_cons (pv 5) (pa_cons (pv 4) pa_nil))) pa_nil))))
  (pss_one (ps_if (pt_cmpR (inQ (K := K) rfl) (pv 6) (pv 1) (by rfl))
  (pss_cons (ps_set (i := 4) sc__paths_along.nd rfl (.inl rfl) (pe_op op_add (pv 4) pe_int))
  (pss_one (ps_for PassesOwn.never (by rfl) (pi_revR (by rfl) T.reversed_ (prg_1 (by rfl) T.range_ (pv 7))) (pg_name (i := 8) sc__paths_along.nd rfl (.inl rfl))
  (pss_one (ps_expr (bmK (K := K) rfl (pe_bm PySem.F.plainAttrs_list PySem.F.slot_list_append PySem.F.type_list_append mt_append (pv 3) (pa_cons (pe_op (catA (K := K) rfl) (pv 5) (pe_tup (pa_cons (pv 8) pa_nil))) pa_nil))))))))
  (pss_one (ps_set (i := 4) sc__paths_along.nd rfl (.inl rfl) (pe_call C_end_of.G hr (by rfl) C_end_of.m C_end_of.k C_end_of.b .nil pass0 (pa_cons (pv 0) (pa_cons (pv 4) pa_nil)))))))))))
  (pss_one (ps_ret (pv 2))))))), ?_⟩
    have hx := hN.length
    have hpl := pathsK_len (ks := ks) pl
    refine ⟨Nat.zero_le _, fun lf nf => ?_⟩
    have nfH : H lf = none := nf
    have s1 : Same H (upd H lf (.lst [])) := same_new nf
    refine ⟨Nat.zero_le _, fun t0 nt0 => ⟨lenOk 1, fun lp np => ?_⟩⟩
    have s2 := s1.trans (same_new (o := .tup []) nt0)
    have npH : H lp = none := s2.free np
    have nlp : lf ≠ lp := fun e => by
      subst e
      rw [upd_ne (fun e => by subst e; rw [upd_same] at nt0; cases nt0), upd_same] at np
      cases np
    have nft : lf ≠ t0 := fun e => by
      subst e
      rw [upd_same] at nt0
      cases nt0
    have ntp : t0 ≠ lp := fun e => by
      subst e
      rw [upd_same] at np
      cases np
    have keep : ∀ {a : Addr} {H' : Hp} {o : HO}, H a = none → Same H H' → Same H (upd H' a o) := fun {a H' o} na s b u eb => by
      rw [upd_ne (ne_of_none eb na)]
      exact s b u eb
    refine ⟨fun m σ H2 => ∃ (dn : List (List Nat × Nat)) (pend : List (List Nat × Pl)) (fs us : List V) (st : Nat) (x5 x6 x7 x8 : Option V), m = (nodesAll (pend.map (·.2))).length ∧ σ = [some (.ref p), some (.ref kp), some (.ref lf), some (.ref lp), some (.int (st : Int)), x5, x6, x7, x8] ∧ Same H H2 ∧ H2 lf = some (.lst fs) ∧ FndAt K H2 fs dn ∧ H2 lp = some (.lst us) ∧ PthsAt K H2 us (pend.map (·.1)).reverse ∧ (nodesOf pl).drop st = nodesAll (pend.map (·.2)) ∧ plsOk (pend.map (·.2)) = true ∧ dn ++ outP ks st pend = pathsK ks pl ∧ (∀ y ∈ pend, y.1.length + (nodesOf y.2).length ≤ xs.length),
      ⟨_, [], [([], pl)], [], [.ref t0], 0, none, none, none, none, rfl, rfl, keep npH s2, ?_, .nil, upd_same, ?_, ?_, ?_, ?_⟩, ?_⟩
    · rw [upd_ne nlp, upd_ne nft]
      exact upd_same
    · refine .cons (ns := []) (SqT.of ?_) .nil
      rw [upd_ne ntp]
      exact upd_same
    · show (nodesOf pl).drop 0 = nodesAll [pl]
      rw [List.drop_zero, nodesAll, nodesAll, List.append_nil]
    · show plsOk [pl] = true
      rw [plsOk, plsOk, hok]
      rfl
    · refine ⟨outP_all ks pl, fun y hy => ?_⟩
      rw [List.mem_singleton.mp hy]
      show 0 + (nodesOf pl).length ≤ _
      omega
    · rintro m σ H2 ⟨dn, pend, fs, us, st, x5, x6, x7, x8, rfl, rfl, s3, ef, hF, ep, hPt, hd, hpk, hout, hdep⟩
      refine ⟨_, rfl, _, .inl ⟨us, SqL.of ep, rfl⟩, ?_⟩
      cases pend with
      | nil =>
        rw [List.map_nil, List.reverse_nil] at hPt
        cases hPt
        rw [outP, List.append_nil] at hout
        rw [hout] at hF
        exact iteF ⟨_, rfl, q lf fs H2 s3 nfH ef hF⟩
      | cons y r =>
        obtain ⟨pa, t1⟩ := y
        rw [List.map_cons, List.reverse_cons] at hPt
        obtain ⟨us', a, rfl, hPt', haP⟩ := hPt.last
        have hd' : (nodesOf pl).drop st = nodesOf t1 ++ nodesAll (r.map (·.2)) := by
          rw [hd, List.map_cons, nodesAll]
        obtain ⟨b, k, u, hxa, hna, hb, more, hmore⟩ := head_at hN hd'
        rw [List.map_cons, plsOk, Bool.and_eq_true] at hpk
        refine iteT' (by cases us' <;> rfl) ⟨_, fun σ' H' h => h, ?_⟩
        -- the path is taken
        refine ⟨_, rfl, .inl ⟨rfl, _, SqL.of ep⟩, lp, _, .ref a, rfl, rfl, ep, ?_, ?_⟩
        · rw [List.length_append, List.length_singleton, Nat.add_sub_cancel]
          exact List.getElem?_concat_length
        rw [List.dropLast_concat]
        have k1 := Tk.put (ys := us') ep
        have ep1 : upd H2 lp (.lst us') lp = some (.lst us') := upd_same
        have ef1 : upd H2 lp (.lst us') lf = some (.lst fs) := by rw [upd_ne nlp]; exact ef
        have s4 : Same H (upd H2 lp (.lst us')) := keep npH s3
        have hF1 := hF.tk k1
        have hPt1 := hPt'.tk k1
        have haP1 := k1.seq haP
        have hb1 := (stk s4).seq hb
        have hS1 := (stk s4).seq hS
        have hK1 := (stk s4).seq hK
        generalize upd H2 lp (.lst us') = H3 at ep1 ef1 s4 hF1 hPt1 haP1 hb1 hS1 hK1 ⊢
        clear hF hPt hPt' haP hb ef ep s3 k1
        refine ⟨_, rfl, _, rfl, p, xs, _, .ref b, rfl, rfl, hS1, atI_nat hxa, ?_⟩
        refine ⟨b, _, rfl, hb1, rfl, _, _, rfl, _, _, rfl, rfl, ?_⟩
        refine ⟨_, rfl, .inl ⟨rfl, _, SqL.of ef1⟩, _, rfl, _, rfl, lenOk 2, fun t2 nt2 => ?_⟩
        have nl2 : lf ≠ t2 := ne_of_none ef1 nt2
        have np2 : lp ≠ t2 := ne_of_none ep1 nt2
        have hdn : dn.length < 1000 := by
          have h1 := congrArg List.length hout
          rw [List.length_append] at h1
          omega
        have ef2 := same_new (o := .tup [.ref a, .int (st : Int)]) nt2 _ _ ef1
        have hfl := hF1.length
        refine ⟨lf, fs, .ref t2, rfl, rfl, ef2, small (by omega), ?_⟩
        have k2 := Tk.new (o := .tup [.ref a, .int (st : Int)]) nt2
        have k3 := Tk.put (ys := fs ++ [V.ref t2]) ef2
        have ef3 : upd (upd H3 t2 (.tup [.ref a, .int (st : Int)])) lf (.lst (fs ++ [.ref t2])) lf = some (.lst (fs ++ [.ref t2])) := upd_same
        have ep3 : upd (upd H3 t2 (.tup [.ref a, .int (st : Int)])) lf (.lst (fs ++ [.ref t2])) lp = some (.lst us') := by rw [upd_ne nlp.symm, upd_ne np2]; exact ep1
        have s5 : Same H (upd (upd H3 t2 (.tup [.ref a, .int (st : Int)])) lf (.lst (fs ++ [.ref t2]))) := keep nfH (s4.trans (same_new nt2))
        have hF3 := FndAt.snoc (K := K) (H := upd (upd H3 t2 (.tup [.ref a, .int (st : Int)])) lf (.lst (fs ++ [.ref t2]))) (a := t2) (b := a) (ns := pa) (o := st) (k3.seq (SqT.of upd_same)) (k3.seq (k2.seq haP1)) ((hF1.tk k2).tk k3)
        have hPt3 := (hPt1.tk k2).tk k3
        have haP3 := k3.seq (k2.seq haP1)
        have hS3 := (stk s5).seq hS
        have hK3 := (stk s5).seq hK
        generalize upd (upd H3 t2 (.tup [.ref a, .int (st : Int)])) lf (.lst (fs ++ [.ref t2])) = H4 at ef3 ep3 s5 hF3 hPt3 haP3 hS3 hK3 ⊢
        clear ef1 ef2 hF1 hPt1 haP1 hS1 hK1 s4 ep1 hb1 k2 k3
        have hsum : (nodesAll ((pa, t1) :: r |>.map (·.2))).length = (nodesOf t1).length + (nodesAll (r.map (·.2))).length := by
          rw [List.map_cons, nodesAll, List.length_append]
        refine ⟨_, rfl, _, rfl, kp, _, rfl, .inr hK3, rfl, flat_strs _, _, rfl, ?_⟩
        rw [inV_strs]
        cases ek : ks.contains k with
        | false =>
          refine iteF ?_
          have ho : pathsK ks t1 = [([], 0)] := by
            cases t1 with
            | leaf k1 u1 => exact pathsK_leaf
            | node k1 ps =>
              rw [nodesOf] at hmore
              cases hmore
              exact pathsK_closed ek
          rw [outP_other ho] at hout
          refine ⟨_, rfl, _, rfl, p, xs, nodesOf pl, st, t1, nodesAll (r.map (·.2)), rfl, hS3, hN.tk (stk s5), hlen, hd', hpk.1, ?_⟩
          refine ⟨_, ?_, dn ++ [(pa, st)], r, _, us', st + (nodesOf t1).length, _, _, _, _, rfl, rfl, s5, ef3, hF3, ep3, hPt3, (drop_len hd' (nodesOf_pos t1)).2, hpk.2, ?_, fun y hy => hdep y (List.mem_cons_of_mem _ hy)⟩
          · rw [hsum]
            have := nodesOf_pos t1
            omega
          · rw [List.append_assoc]
            exact hout
        | true =>
          refine iteT ?_
          cases t1 with
          | leaf k1 u1 =>
            rw [nodesOf] at hmore
            cases hmore
            have h1 := hks k ek
            have h2 := hpk.1
            rw [plOk, h1] at h2
            cases h2
          | node k1 ps =>
          rw [nodesOf] at hmore
          cases hmore
          rw [outP_node ek] at hout
          have hokp := hpk.1
          rw [plOk, Bool.and_eq_true] at hokp
          rw [nodesOf] at hd'
          have hps : ps.length < 1000 := by
            have h1 := congrArg List.length hd'
            rw [List.length_drop, List.length_append, List.length_cons] at h1
            have := nodes_ge ps
            omega
          have hul := hPt3.length
          have hr1000 : us'.length < 1000 := by
            have h1 := congrArg List.length hd'
            rw [List.length_drop, List.length_append] at h1
            have := nodes_ge (r.map (·.2))
            rw [List.length_map] at this
            rw [hul, List.length_reverse, List.length_map]
            omega
          refine ⟨_, rfl, _, _, rfl, rfl, _, rfl, ?_⟩
          refine ⟨_, rfl, by omega, by omega, by omega, by omega, ?_⟩
          have e0 : ((ps.length : Int) - 0).toNat = ps.length := by omega
          rw [e0]
          refine for_rangeC (lo := 0 + (ps.length : Int) - 1) (c := -1) (n := ps.length) (fun i σ H5 => ∃ (vs5 : List V) (y8 : Option V), σ = [some (.ref p), some (.ref kp), some (.ref lf), some (.ref lp), some (.int ((st + 1 : Nat) : Int)), some (.ref a), some (.str k), some (.int (ps.length : Int)), y8] ∧ Same H H5 ∧ H5 lf = some (.lst (fs ++ [.ref t2])) ∧ FndAt K H5 (fs ++ [.ref t2]) (dn ++ [(pa, st)]) ∧ SqT K H5 a (pa.map natV) ∧ H5 lp = some (.lst vs5) ∧ PthsAt K H5 vs5 ((r.map (·.1)).reverse ++ (((kids pa 0 ps).map (·.1)).reverse.take i))) ?_ ?_ ?_
          · refine ⟨us', _, rfl, s5, ef3, hF3, haP3, ep3, ?_⟩
            rw [List.take_zero, List.append_nil]
            exact hPt3
          · rintro i σ H5 hi ⟨vs5, y8, rfl, s6, ef6, hF6, ha6, ep6, hP6⟩
            have ei : (0 + (ps.length : Int) - 1 + (i : Nat) * (-1) : Int) = ((ps.length - 1 - i : Nat) : Int) := by omega
            rw [ei]
            have hke : ((kids pa 0 ps).map (·.1)).reverse[i]? = some (pa ++ [ps.length - 1 - i]) := by
              rw [List.getElem?_reverse (by rw [List.length_map, kids_len]; exact hi), List.length_map, kids_len, kids_fst, List.getElem?_map, List.getElem?_range' (by omega)]
              simp
            have hvl := hP6.length
            rw [List.length_append, List.length_take, List.length_reverse, List.length_reverse, List.length_map, List.length_map, kids_len] at hvl
            have hul2 := hul
            rw [List.length_reverse, List.length_map] at hul2
            refine ⟨_, rfl, .inl ⟨rfl, _, SqL.of ep6⟩, _, rfl, _, rfl, lenOk 1, fun t3 nt3 => ?_⟩
            have k6 := Tk.new (o := .tup [natV (ps.length - 1 - i)]) nt3
            have hpal : pa.length < 1000 := by
              have := hdep _ List.mem_cons_self
              have h2 : pa.length + (nodesOf (.node k ps)).length ≤ xs.length := this
              omega
            refine cat_anyW (k6.seq ha6) (SqT.of upd_same) (by rw [List.length_map]; show _ + 1 < _; omega) fun t4 H6 s7 h7 => ?_
            have s8 := (same_new (o := .tup [natV (ps.length - 1 - i)]) nt3).trans s7
            have ep7 := s8 _ _ ep6
            have ef7 := s8 _ _ ef6
            refine ⟨lp, vs5, .ref t4, rfl, rfl, ep7, small (by omega), ?_⟩
            have k7 := Tk.put (ys := vs5 ++ [V.ref t4]) ep7
            refine ⟨vs5 ++ [.ref t4], _, rfl, keep npH (s6.trans s8), by rw [upd_ne nlp]; exact ef7, (hF6.tk (stk s8)).tk k7, k7.seq ((stk s8).seq ha6), upd_same, ?_⟩
            rw [take_succ' hke, ← List.append_assoc]
            refine PthsAt.snoc ((hP6.tk (stk s8)).tk k7) (k7.seq ?_)
            rw [List.map_append]
            exact h7
          · rintro σ H5 ⟨vs5, y8, rfl, s6, ef6, hF6, ha6, ep6, hP6⟩
            rw [List.take_of_length_le (by rw [List.length_reverse, List.length_map, kids_len]; exact Nat.le_refl _)] at hP6
            refine ⟨_, ?_, dn ++ [(pa, st)], kids pa 0 ps ++ r, _, vs5, st + 1, _, _, _, _, rfl, rfl, s6, ef6, hF6, ep6, ?_, ?_, ?_, ?_, ?_⟩
            · rw [hsum, List.map_append, kids_snd, nodesAll_append, List.length_append, nodesOf, List.length_cons]
              omega
            · rw [List.map_append, List.reverse_append]
              exact hP6
            · rw [List.map_append, kids_snd, nodesAll_append]
              have h2 := congrArg (List.drop 1) hd'
              rw [List.drop_drop] at h2
              exact h2
            · rw [List.map_append, kids_snd, plsOk_app, hokp.2, hpk.2]
              rfl
            · rw [List.append_assoc]
              exact hout
            · intro y hy
              rcases List.mem_append.mp hy with hy | hy
              · have h1 := hdep _ List.mem_cons_self
                have h2 : pa.length + (nodesOf (.node k ps)).length ≤ xs.length := h1
                rw [nodesOf, List.length_cons] at h2
                have h3 := kids_mem hy
                omega
              · exact hdep y (List.mem_cons_of_mem _ hy)
end
end Eh
set_option Elab.async false
set_option linter.all false
set_option maxRecDepth 100000
set_option maxHeartbeats 4000000
namespace Eh
open PySem PySem.Spec PyProof.Rows L2
/-- a tuple of texts of the module's top -/
def TupAt (K : PySem.W.Frag) (mg : Str → Option Value) (x : Str) (p : Addr) (ws : List Str) : Prop := mg x = some (.ref p) ∧ ∀ H, SqT K H p (ws.map V.str)
theorem has_of {ws : List Str} {k : Str} (h : ws.contains k = true) : k ∈ ws := by
  simpa using h
section
variable {P : Program} {w : World} {K : PySem.W.Frag} {mg : Str → Option Value} {base : Heap}
/-- a promise passes, another value is refused -/
def spCheckP (K : PySem.W.Frag) (C CE : Addr) : Sp := fun vs H Q E => ∃ v, vs = [v] ∧ ((∃ a dx fs, v = .ref a ∧ H a = some (.ins C dx fs) ∧ Q .non H) ∨ ∃ t, TyX K H v t ∧ PySem.W.kitOne K t (.ref C) = some false ∧ E (.ref CE) none H)
theorem ok_check_promise {C fI fL CE f : Addr} {fd : FuncData} (F : Fun K "check_promise" "check_promise" s_check_promise f fd) (T : Txt mg) (PC : PromC K mg C fI fL) (IC : IsC K C) (R : ErrC K mg "InvalidPromise" CE) :
    FnOk P w K mg base (L2.CX P w) 1 f fd ["value"] (spCheckP K C CE) := by
  refine F.okX sc_check_promise (fun vs H Q E h => ?_) (fun cdv A outer s H vs Q E hr h => ?_)
  · obtain ⟨v, rfl, _⟩ := h
    rfl
  · obtain ⟨v, rfl, h⟩ := h
    refine ⟨_, (pss_one (ps_if (pt_not (pt_val (pe_callB (isiQ (K := K) rfl) (by rfl) T.isinstance_ (by decide +kernel) (pa_cons (pv 0) (pa_cons (pe_glob (v := .ref C) rfl PC.g rfl) pa_nil)))))
      (pss_one (ps_raise rfl (takes_of rfl rfl rfl rfl) (pmk_own PySem.F.excBase_ValueError R.q R.g R.k (raises_own R.b R.t) rfl))) pss_nil)), ?_⟩
    rcases h with ⟨a, dx, fs, rfl, ea, q⟩ | ⟨t, ht, hk, q⟩
    · exact ⟨_, rfl, .ref a, .ref C, .ref C, .ref C, true, rfl, .own _, .base (.ins ea PC.cl IC.cls IC.sp IC.tk IC.mro), IC.self, _, rfl, iteF q⟩
    · exact ⟨_, rfl, v, .ref C, t, .ref C, false, rfl, .own _, ht, hk, _, rfl, iteT q⟩
end
end Eh
set_option Elab.async false
set_option linter.all false
set_option maxRecDepth 100000
set_option maxHeartbeats 4000000
namespace Eh
open PySem PySem.Spec PyProof.Rows L2
theorem PrG.sm {K : PySem.W.Frag} {C a : Addr} {H H' : Hp} {ns : List (Str × V)} (h : PrG K C H a ns) (s : Same H H') : PrG K C H' a ns := by
  obtain ⟨dx, p, xs, e, hs, hN, g⟩ := h
  exact ⟨dx, p, xs, s _ _ e, (stk s).seq hs, hN.tk (stk s), g⟩
theorem PathV.sm {K : PySem.W.Frag} {H H' : Hp} {v : V} {ws : Option (List V)} (h : PathV K H v ws) (hk : ∀ z, KindI K H z → KindI K H' z) (s : Same H H') : PathV K H' v ws := by
  cases h with
  | other hn => exact .other (hn.ku (ku_same s))
  | tup ht hz => exact .tup ((stk s).seq ht) fun z m => hk z (hz z m)
section
variable {P : Program} {w : World} {K : PySem.W.Frag} {mg : Str → Option Value} {base : Heap}
/-- a comprehension over a list, any target -/
theorem lcLg {K : PySem.W.Frag} {a : Addr} {xs : List V} {g : TG} {tt : TT} {te : TE} {vs : List Nat} {σ : L2.St} {H1 : Hp} {D : Addr} {Qd : Hp → Prop} (R : Nat → List V → Hp → Prop) (h0 : R 0 [] (upd H1 D (.lst []))) (hl : ∀ j acc H, R j acc H → SqL K H a xs)
    (hs : ∀ j x acc H, xs[j]? = some x → acc.length ≤ j → H D = some (.lst acc) → R j acc H →
      g x (wipe σ vs) H fun σ2 H2 => wipe σ2 vs = wipe σ vs ∧ tt σ2 H2 fun b H3 => if b = true then te σ2 H3 (LcK R D j) else LcP R D (j + 1) H3)
    (hd : ∀ acc H, acc.length ≤ xs.length → H D = some (.lst acc) → R xs.length acc H → Qd H) : LcGoal (Itl K a) g tt te vs σ H1 D Qd := by
  refine ⟨fun j m H => m = xs.length - j ∧ j ≤ xs.length ∧ LcP R D j H, ⟨xs.length, by omega, Nat.zero_le _, [], Nat.le_refl _, upd_same, h0⟩, ?_⟩
  rintro j m H ⟨rfl, hj, acc, hlen, e, r⟩
  have q := hl _ _ _ r
  by_cases hlt : j < xs.length
  · refine .inr ⟨⟨xs, xs[j], q, List.getElem?_eq_getElem hlt⟩, LcP R D (j + 1), fun H' p => ⟨xs.length - (j + 1), by omega, rfl, hlt, p⟩, fun x H' y => ?_⟩
    obtain ⟨rfl, y⟩ := y
    exact hs j x acc _ (y xs q) hlen e r
  · have ej : j = xs.length := by omega
    subst ej
    exact .inl ⟨⟨xs, q, Nat.le_refl _⟩, hd acc H hlen e r⟩
theorem startV_cases (ks : List Str) (pl : Pl) (ws : Option (List V)) : (startV ks pl ws = .non) ∨ ∃ zs o q, ws = some zs ∧ walkV ks pl zs = some (o, q) ∧ startV ks pl ws = .int (o : Int) := by
  cases ws with
  | none => exact .inl rfl
  | some zs =>
    cases h : walkV ks pl zs with
    | none => exact .inl (startV_none h)
    | some y => exact .inr ⟨zs, y.1, y.2, rfl, h, startV_some h⟩
end
end Eh
set_option Elab.async false
set_option linter.all false
set_option maxRecDepth 100000
set_option maxHeartbeats 4000000
namespace Eh
open PySem PySem.Spec PyProof.Rows L2
section
variable {P : Program} {w : World} {K : PySem.W.Frag} {mg : Str → Option Value} {base : Heap}
inductive PgsAt (K : PySem.W.Frag) (C : Addr) (H : Hp) : List V → List Pl → Prop
  | nil : PgsAt K C H [] []
  | cons {a : Addr} {vs : List V} {p : Pl} {ps : List Pl} : PrG K C H a (nodesOf p) → PgsAt K C H vs ps → PgsAt K C H (.ref a :: vs) (p :: ps)
theorem PgsAt.sm {K : PySem.W.Frag} {C : Addr} {H H' : Hp} (s : Same H H') : ∀ {vs : List V} {ps : List Pl}, PgsAt K C H vs ps → PgsAt K C H' vs ps
  | _, _, .nil => .nil
  | _, _, .cons h r => .cons (h.sm s) (r.sm s)
theorem PgsAt.length {K : PySem.W.Frag} {C : Addr} {H : Hp} : ∀ {vs : List V} {ps : List Pl}, PgsAt K C H vs ps → vs.length = ps.length
  | _, _, .nil => rfl
  | _, _, .cons _ r => by rw [List.length_cons, List.length_cons, r.length]
theorem PgsAt.get {K : PySem.W.Frag} {C : Addr} {H : Hp} : ∀ {vs : List V} {ps : List Pl}, PgsAt K C H vs ps → ∀ {i : Nat} {v : V}, vs[i]? = some v → ∃ a p, v = .ref a ∧ ps[i]? = some p ∧ PrG K C H a (nodesOf p)
  | _, _, .nil, i, v, h => by simp at h
  | _, _, .cons a _, 0, v, h => by
    cases (show some _ = some v from h)
    exact ⟨_, _, rfl, rfl, a⟩
  | _, _, .cons _ r, i + 1, v, h => r.get (i := i) h
theorem PgsAt.good {K : PySem.W.Frag} {C : Addr} {H : Hp} : ∀ {vs : List V} {ps : List Pl}, PgsAt K C H vs ps → GoodN (nodesAll ps)
  | _, _, .nil => fun n hn => by
    rw [nodesAll] at hn
    cases hn
  | _, _, .cons h r => by
    rw [nodesAll]
    obtain ⟨_, _, _, _, _, _, g⟩ := h
    exact goodAll_app g r.good
theorem walk_drop {ks : List Str} {zs : List V} {pl : Pl} {o : Nat} {q : Pl} (h : plOk pl = true) (e : walkV ks pl zs = some (o, q)) : ∃ rest, (nodesOf pl).drop o = nodesOf q ++ rest ∧ plOk q = true := by
  obtain ⟨pre, post, e1, e2, e3⟩ := walkV_split h e
  refine ⟨post, ?_, e3⟩
  rw [e1, ← e2, List.drop_left]
end
end Eh
set_option Elab.async false
set_option linter.all false
set_option maxRecDepth 100000
set_option maxHeartbeats 4000000
namespace Eh
open PySem PySem.Spec PyProof.Rows L2
/-- with another part at a path -/
def putP : Pl → List Nat → Pl → Pl
  | _, [], x => x
  | .leaf k t, _ :: _, _ => .leaf k t
  | .node k ps, i :: r, x => match ps[i]? with
    | some q => .node k (ps.set i (putP q r x))
    | none => .node k ps
theorem putP_nil {p x : Pl} : putP p [] x = x := by cases p <;> rw [putP]
theorem putP_node {k : Str} {ps : List Pl} {i : Nat} {r : List Nat} {q x : Pl} (h : ps[i]? = some q) : putP (.node k ps) (i :: r) x = .node k (ps.set i (putP q r x)) := by
  rw [putP, h]
theorem set_get {α : Type} {ps : List α} {i : Nat} {q y : α} (h : ps[i]? = some q) : (ps.set i y)[i]? = some y := List.getElem?_set_self (List.getElem?_eq_some_iff.mp h).1
theorem nodesAll_put {ps : List Pl} {i : Nat} {q y : Pl} (h : ps[i]? = some q) : nodesAll (ps.set i y) = nodesAll (ps.take i) ++ (nodesOf y ++ nodesAll (ps.drop (i + 1))) := by
  have e := nodesAll_split (set_get (y := y) h)
  rw [List.take_set_of_le (Nat.le_refl i), List.drop_set_of_lt (Nat.lt_succ_self i)] at e
  exact e
theorem intV_small {i : Nat} (h : i < 1000) : intV (.int (i : Int)) = true := by
  show decide ((if (i : Int) < 0 then -(i : Int) else (i : Int)) < 10 ^ (60 : Int).toNat) = true
  rw [if_neg (by omega)]
  refine decide_eq_true ?_
  have h1 : (1000 : Int) ≤ 10 ^ (60 : Int).toNat := by decide
  omega
theorem idxV_small {i n : Nat} (h : i < n) (hn : n < 1000) : idxV (.int (i : Int)) (n : Int) = true := by
  unfold idxV
  rw [intV_small (by omega)]
  show (true && (decide (0 ≤ (i : Int)) && decide ((i : Int) < (n : Int)))) = true
  rw [decide_eq_true (by omega), decide_eq_true (by omega)]
  rfl
theorem lexN_cons {i : Nat} {a b : List Nat} : HSP.lexN (i :: a) (i :: b) = HSP.lexN a b := by
  rw [HSP.lexN, if_pos rfl]
end Eh
set_option Elab.async false
set_option linter.all false
set_option maxRecDepth 100000
set_option maxHeartbeats 4000000
namespace Eh
open PySem PySem.Spec PyProof.Rows L2
def open2 : List Str := ["all", "some"]
theorem open2_node {k : Str} (h : open2.contains k = true) : nodeKinds.contains k = true := by
  have h1 := has_of h
  unfold open2 at h1
  simp only [List.mem_cons, List.not_mem_nil, or_false] at h1
  rcases h1 with rfl | rfl <;> rfl
mutual
/-- all places, in order, and what stands there -/
def subsP : Pl → List (List Nat × Pl)
  | .leaf k t => [([], .leaf k t)]
  | .node k ps => ([], .node k ps) :: (if open2.contains k = true then subsAll 0 ps else [])
def subsAll (i : Nat) : List Pl → List (List Nat × Pl)
  | [] => []
  | p :: ps => (subsP p).map (fun y => (i :: y.1, y.2)) ++ subsAll (i + 1) ps
end
theorem subs_head (p : Pl) : ∃ r, subsP p = ([], p) :: r := by
  cases p with
  | leaf k t => exact ⟨[], by rw [subsP]⟩
  | node k ps => exact ⟨_, by rw [subsP]⟩
theorem subs_nil (p : Pl) : ([], p) ∈ subsP p := by
  obtain ⟨r, e⟩ := subs_head p
  rw [e]
  exact List.mem_cons_self
theorem mem_all : ∀ {ps : List Pl} {i : Nat} {pa : List Nat} {q : Pl}, (pa, q) ∈ subsAll i ps ↔ ∃ j r p, pa = (i + j) :: r ∧ ps[j]? = some p ∧ (r, q) ∈ subsP p
  | [], i, pa, q => by
    rw [subsAll]
    exact ⟨fun h => (nomatch h), fun ⟨j, r, p, _, h, _⟩ => by simp at h⟩
  | p :: ps, i, pa, q => by
    rw [subsAll, List.mem_append]
    constructor
    · rintro (h | h)
      · obtain ⟨y, hy, e⟩ := List.mem_map.mp h
        obtain ⟨e1, e2⟩ := Prod.mk.inj e
        exact ⟨0, y.1, p, e1.symm, rfl, by rw [← e2]; exact hy⟩
      · obtain ⟨j, r, p', e, hp, hq⟩ := mem_all.mp h
        exact ⟨j + 1, r, p', by rw [e]; congr 1; omega, hp, hq⟩
    · rintro ⟨j, r, p', e, hp, hq⟩
      cases j with
      | zero =>
        cases (show some p = some p' from hp)
        exact .inl (List.mem_map.mpr ⟨(r, q), hq, by rw [e]; rfl⟩)
      | succ j => exact .inr (mem_all.mpr ⟨j, r, p', by rw [e]; congr 1; omega, hp, hq⟩)
theorem mem_node {k : Str} {ps : List Pl} {pa : List Nat} {q : Pl} : (pa, q) ∈ subsP (.node k ps) ↔ (pa = [] ∧ q = .node k ps) ∨ (open2.contains k = true ∧ ∃ j r p, pa = j :: r ∧ ps[j]? = some p ∧ (r, q) ∈ subsP p) := by
  rw [subsP, List.mem_cons]
  constructor
  · rintro (h | h)
    · obtain ⟨e1, e2⟩ := Prod.mk.inj h
      exact .inl ⟨e1, e2⟩
    · split at h
      · rename_i ho
        obtain ⟨j, r, p, e, hp, hq⟩ := mem_all.mp h
        exact .inr ⟨ho, j, r, p, by rw [e, Nat.zero_add], hp, hq⟩
      · cases h
  · rintro (⟨rfl, rfl⟩ | ⟨ho, j, r, p, e, hp, hq⟩)
    · exact .inl rfl
    · rw [if_pos ho]
      exact .inr (mem_all.mpr ⟨j, r, p, by rw [e, Nat.zero_add], hp, hq⟩)
mutual
theorem subs_srt : ∀ p : Pl, ((subsP p).map (·.1)).Pairwise (fun a b => HSP.lexN a b = true)
  | .leaf k t => by
    rw [subsP]
    exact List.pairwise_singleton _ _
  | .node k ps => by
    rw [subsP, List.map_cons]
    refine List.pairwise_cons.mpr ⟨fun b hb => ?_, ?_⟩
    · obtain ⟨⟨pa, q⟩, hm, e⟩ := List.mem_map.mp hb
      split at hm
      · obtain ⟨j, r, _, e2, _⟩ := mem_all.mp hm
        rw [← e, e2]
        rfl
      · cases hm
    · split
      · exact all_srt 0 ps
      · exact List.Pairwise.nil
theorem all_srt : ∀ (i : Nat) (ps : List Pl), ((subsAll i ps).map (·.1)).Pairwise (fun a b => HSP.lexN a b = true)
  | i, [] => by
    rw [subsAll]
    exact List.Pairwise.nil
  | i, p :: ps => by
    rw [subsAll, List.map_append, List.map_map]
    refine List.pairwise_append.mpr ⟨?_, all_srt (i + 1) ps, fun a ha b hb => ?_⟩
    · have h := subs_srt p
      rw [List.pairwise_map] at h ⊢
      exact h.imp fun {a b} h => by show HSP.lexN (i :: a.1) (i :: b.1) = true; rw [lexN_cons]; exact h
    · obtain ⟨y, _, e⟩ := List.mem_map.mp ha
      obtain ⟨⟨pa, q⟩, hm, e2⟩ := List.mem_map.mp hb
      obtain ⟨j, r, _, e3, _⟩ := mem_all.mp hm
      rw [← e, ← e2, e3]
      show HSP.lexN (i :: y.1) ((i + 1 + j) :: r) = true
      rw [HSP.lexN, if_neg (by omega)]
      exact decide_eq_true (by omega)
end
theorem lexN_ne {a b : List Nat} (h : HSP.lexN a b = true) : a ≠ b := fun e => by
  rw [e, HSP.lexN_irr] at h
  cases h
theorem subs_nodup (p : Pl) : ((subsP p).map (·.1)).Nodup := (subs_srt p).imp fun h => lexN_ne h
mutual
theorem subs_len : ∀ p : Pl, (subsP p).length ≤ (nodesOf p).length
  | .leaf k t => by rw [subsP, nodesOf]; exact Nat.le_refl _
  | .node k ps => by
    rw [subsP, nodesOf, List.length_cons, List.length_cons]
    split
    · have := all_len 0 ps; omega
    · exact Nat.succ_le_succ (Nat.zero_le _)
theorem all_len : ∀ (i : Nat) (ps : List Pl), (subsAll i ps).length ≤ (nodesAll ps).length
  | i, [] => by rw [subsAll]; exact Nat.zero_le _
  | i, p :: ps => by
    rw [subsAll, nodesAll, List.length_append, List.length_append, List.length_map]
    have := subs_len p
    have := all_len (i + 1) ps
    omega
end
/-- a place leads to what stands there -/
theorem walk_place : ∀ {pa : List Nat} {pl q : Pl}, plOk pl = true → (nodesOf pl).length < 1000 → (pa, q) ∈ subsP pl →
    ∃ o rest, walkV open2 pl (pa.map natV) = some (o, q) ∧ (nodesOf pl).drop o = nodesOf q ++ rest ∧ ∀ x, nodesOf (putP pl pa x) = (nodesOf pl).take o ++ (nodesOf x ++ rest)
  | [], pl, q, hk, hl, h => by
    have : q = pl := by
      cases pl with
      | leaf k t => rw [subsP] at h; exact (Prod.mk.inj (List.mem_singleton.mp h)).2
      | node k ps =>
        rcases mem_node.mp h with ⟨_, e⟩ | ⟨_, j, r, p, e, _⟩
        · exact e
        · cases e
    subst this
    exact ⟨0, [], walkV_nil, by rw [List.append_nil]; rfl, fun x => by rw [putP_nil, List.append_nil]; rfl⟩
  | i :: r, pl, q, hk, hl, h => by
    cases pl with
    | leaf k t => rw [subsP] at h; cases (Prod.mk.inj (List.mem_singleton.mp h)).1
    | node k ps =>
      rcases mem_node.mp h with ⟨e, _⟩ | ⟨ho2, j, r', p, e, hp, hq⟩
      · cases e
      · cases e
        rw [plOk, Bool.and_eq_true] at hk
        have hi := (List.getElem?_eq_some_iff.mp hp).1
        rw [nodesOf, List.length_cons] at hl
        have hg := nodes_ge ps
        have hpl : (nodesOf p).length ≤ (nodesAll ps).length := nodesOf_get hp
        obtain ⟨o, rest, e1, e2, e3⟩ := walk_place (plsOk_get hk.2 hp) (by omega) hq
        have ho : o ≤ (nodesOf p).length := by
          have h1 := congrArg List.length e2
          rw [List.length_drop, List.length_append] at h1
          have := nodesOf_pos q
          omega
        refine ⟨1 + (nodesAll (ps.take i)).length + o, rest ++ nodesAll (ps.drop (i + 1)), ?_, ?_, fun x => ?_⟩
        · rw [List.map_cons]
          show walkV open2 (.node k ps) (.int (i : Int) :: r.map natV) = _
          rw [walkV_node ho2 (idxV_small hi (by omega)) hp, e1]
          rfl
        · rw [nodesOf, nodesAll_split hp, show 1 + (nodesAll (ps.take i)).length + o = ((nodesAll (ps.take i)).length + o) + 1 by omega, List.drop_succ_cons, ← List.drop_drop, List.drop_left, List.drop_append_of_le_length ho, e2, List.append_assoc]
        · rw [putP_node hp, nodesOf, nodesAll_put hp, e3 x, nodesOf, nodesAll_split hp, List.length_set, show 1 + (nodesAll (ps.take i)).length + o = ((nodesAll (ps.take i)).length + o) + 1 by omega, List.take_succ_cons, List.take_length_add_append, List.take_append_of_le_length ho]
          simp only [List.append_assoc, List.cons_append]
/-- what leads anywhere is a place -/
theorem place_walk : ∀ {zs : List V} {pl q : Pl} {o : Nat}, walkV open2 pl zs = some (o, q) → ∃ pa : List Nat, zs = pa.map natV ∧ (pa, q) ∈ subsP pl
  | [], pl, q, o, e => by
    rw [walkV_nil] at e
    cases e
    exact ⟨[], rfl, subs_nil _⟩
  | v :: r, .leaf k t, q, o, e => by
    rw [walkV] at e
    cases e
  | v :: r, .node k ps, q, o, e => by
    rw [walkV] at e
    split at e
    · rename_i hc
      rw [Bool.and_eq_true] at hc
      obtain ⟨i, rfl, hi⟩ := idxV_nat hc.2
      split at e
      · rename_i q1 hq
        cases hw : walkV open2 q1 r with
        | none => rw [hw] at e; cases e
        | some y =>
          obtain ⟨o1, q2⟩ := y
          rw [hw] at e
          cases e
          obtain ⟨pa, e1, hm⟩ := place_walk hw
          have hq' : ps[i]? = some q1 := hq
          exact ⟨i :: pa, by rw [List.map_cons, ← e1]; rfl, mem_node.mpr (.inr ⟨hc.1, i, pa, q1, rfl, hq', hm⟩)⟩
      · cases e
    · cases e
/-- where the paths that the program finds lead -/
def PtRel (ns : List (Str × V)) (y : List Nat × Nat) (z : List Nat × Pl) : Prop := y.1 = z.1 ∧ plOk z.2 = true ∧ ∃ rest, ns.drop y.2 = nodesOf z.2 ++ rest
theorem PtRel.into {ns ms post : List (Str × V)} {off i : Nat} {y : List Nat × Nat} {z : List Nat × Pl} (h : PtRel ns y z) (d : ms.drop off = ns ++ post) : PtRel ms (i :: y.1, off + y.2) (i :: z.1, z.2) := by
  obtain ⟨e1, e2, rest, e3⟩ := h
  have hy : y.2 ≤ ns.length := by
    have h1 := congrArg List.length e3
    rw [List.length_drop, List.length_append] at h1
    have := nodesOf_pos z.2
    omega
  refine ⟨by rw [e1], e2, rest ++ post, ?_⟩
  show ms.drop (off + y.2) = nodesOf z.2 ++ (rest ++ post)
  rw [← List.drop_drop, d, List.drop_append_of_le_length hy, e3, List.append_assoc]
mutual
theorem paths_subs : ∀ {pl : Pl}, plOk pl = true → Paired (PtRel (nodesOf pl)) (pathsK open2 pl) (subsP pl)
  | .leaf k t, h => by
    rw [pathsK, subsP]
    exact .cons ⟨rfl, h, [], by rw [List.append_nil]; rfl⟩ .nil
  | .node k ps, h => by
    have h' := h
    rw [plOk, Bool.and_eq_true] at h'
    rw [pathsK, subsP]
    refine .cons ⟨rfl, h, [], by rw [List.append_nil]; rfl⟩ ?_
    split
    · refine all_subs (post := []) h'.2 ?_
      rw [nodesOf, List.append_nil]
      rfl
    · exact .nil
theorem all_subs : ∀ {ps : List Pl} {i off : Nat} {ms post : List (Str × V)}, plsOk ps = true → ms.drop off = nodesAll ps ++ post → Paired (PtRel ms) (pathsAll open2 i off ps) (subsAll i ps)
  | [], i, off, ms, post, _, _ => by rw [pathsAll, subsAll]; exact .nil
  | p :: ps, i, off, ms, post, h, d => by
    rw [plsOk, Bool.and_eq_true] at h
    rw [nodesAll, List.append_assoc] at d
    rw [pathsAll, subsAll]
    have d2 : ms.drop (off + (nodesOf p).length) = nodesAll ps ++ post := by rw [← List.drop_drop, d, List.drop_left]
    have one := paths_subs h.1
    have up : ∀ {l : List (List Nat × Nat)} {m : List (List Nat × Pl)}, Paired (PtRel (nodesOf p)) l m → Paired (PtRel ms) (l.map fun y => (i :: y.1, off + y.2)) (m.map fun y => (i :: y.1, y.2)) := by
      intro l m hp
      induction hp with
      | nil => exact .nil
      | cons a t ih => exact .cons (a.into d) ih
    have app : ∀ {l : List (List Nat × Nat)} {m : List (List Nat × Pl)} {l2 : List (List Nat × Nat)} {m2 : List (List Nat × Pl)}, Paired (PtRel ms) l m → Paired (PtRel ms) l2 m2 → Paired (PtRel ms) (l ++ l2) (m ++ m2) := by
      intro l m l2 m2 a b
      induction a with
      | nil => exact b
      | cons x t ih => exact .cons x ih
    exact app (up one) (all_subs h.2 d2)
end
theorem paths_fst {pl : Pl} (h : plOk pl = true) : (pathsK open2 pl).map (·.1) = (subsP pl).map (·.1) := by
  have : ∀ {l : List (List Nat × Nat)} {m : List (List Nat × Pl)}, Paired (PtRel (nodesOf pl)) l m → l.map (·.1) = m.map (·.1) := by
    intro l m p
    induction p with
    | nil => rfl
    | cons a t ih => rw [List.map_cons, List.map_cons, ih, a.1]
  exact this (paths_subs h)
/-- the kind of a plain promise -/
def kindPl : Pl → Str
  | .leaf k _ => k
  | .node k _ => k
theorem kind_head {pl : Pl} {n : Str × V} {more : List (Str × V)} (h : nodesOf pl = n :: more) : n.1 = kindPl pl := by
  cases pl <;> rw [nodesOf] at h <;> cases h <;> rfl
/-- the places of nodes of some kinds -/
def inK (ks : List Str) (pl : Pl) : List (List Nat) := ((subsP pl).filter fun y => ks.contains (kindPl y.2)).map (·.1)
end Eh
set_option Elab.async false
set_option linter.all false
set_option maxRecDepth 100000
namespace Eh
open PySem PySem.Spec PyProof.Rows L2
theorem kit_self {K : PySem.W.Frag} {C : Addr} : PySem.W.kitOne K (.ref C) (.ref C) = some true := by
  unfold PySem.W.kitOne
  rw [if_pos (beq_self_eq_true (Value.ref C))]
theorem kit_off {K : PySem.W.Frag} {C : Addr} {T : String} (i : PySem.W.isClsIn K C = true) (t : PySem.W.typeIn K (.ref C) = some (.type "type")) (h : (PySem.fastBuiltinMro T).map (·.contains (.ref C)) = some false) : PySem.W.kitOne K (.type T) (.ref C) = some false := by
  unfold PySem.W.kitOne
  rw [if_neg (by show ¬ (false = true); decide)]
  have j : ((PySem.W.clsIn K C).isSome && PySem.W.typeIn K (.ref C) == some (.type "type")) = true := by
    rw [show (PySem.W.clsIn K C).isSome = true from i, t]
    decide
  exact (if_pos j).trans h
end Eh
set_option Elab.async false
set_option linter.all false
set_option maxRecDepth 100000
set_option maxHeartbeats 4000000
namespace Eh
open PySem PySem.Spec PyProof.Rows L2
theorem paired_at {α β : Type} {F : α → β → Prop} : ∀ {xs : List α} {ys : List β}, Paired F xs ys → ∀ {i : Nat} {x : α}, xs[i]? = some x → ∃ y, ys[i]? = some y ∧ F x y
  | _, _, .nil, i, x, h => by simp at h
  | _, _, .cons r t, 0, x, h => by
    cases (show some _ = some x from h)
    exact ⟨_, rfl, r⟩
  | _, _, .cons r t, i + 1, x, h => paired_at t (i := i) (by simpa using h)
theorem filter_snoc {α : Type} (p : α → Bool) {l : List α} {j : Nat} {x : α} (h : l[j]? = some x) : (l.take (j + 1)).filter p = (l.take j).filter p ++ (if p x = true then [x] else []) := by
  rw [List.take_add_one, h, List.filter_append]
  congr 1
  show [x].filter p = _
  by_cases e : p x = true
  · rw [if_pos e, List.filter_cons, if_pos e]; rfl
  · rw [if_neg e, List.filter_cons, if_neg e]; rfl
section
variable {P : Program} {w : World} {K : PySem.W.Frag} {mg : Str → Option Value} {base : Heap}
def spStartAt (K : PySem.W.Frag) : Sp := fun vs H Q _ => ∃ p xs pl v ws, vs = [.ref p, v] ∧ SqT K H p xs ∧ NdsAt K H xs (nodesOf pl) ∧ plOk pl = true ∧ xs.length < 1000 ∧ PathV K H v ws ∧ Q (startV open2 pl ws) H
theorem ok_start_at {pW fA f : Addr} {fdA fd : FuncData} (F : Fun K "start_at" "start_at" s_start_at f fd) (WA : TupAt K mg "OPEN" pW open2) (C__start_along : Cal P w K mg base 3 "_start_along" fA fdA ["nodes", "path", "kinds"] (spAlong K)) :
    FnOk P w K mg base CX0 4 f fd ["nodes", "place"] (spStartAt K) := by
  refine F.ok sc_start_at (fun vs H Q E h => ?_) (fun cdv A outer s H vs Q E hr h => ?_)
  · obtain ⟨p, xs, pl, v, ws, rfl, _⟩ := h
    rfl
  · obtain ⟨p, xs, pl, v, ws, rfl, hS, hN, hok, hl, hP, q⟩ := h
    refine ⟨_, (pss_one (ps_ret (pe_call C__start_along.G hr (by rfl) C__start_along.m C__start_along.k C__start_along.b .nil pass0 (pa_cons (pv 0) (pa_cons (pv 1) (pa_cons (pe_glob (v := .ref pW) rfl WA.1 rfl) pa_nil)))))), ?_⟩
    exact ⟨_, rfl, _, rfl, p, xs, pl, v, ws, pW, open2, rfl, hS, hN, hok, hl, hP, WA.2 H, fun k hk => open2_node hk, q⟩
def spSurfOf (K : PySem.W.Frag) : Sp := fun vs H Q _ => ∃ p xs pl, vs = [.ref p] ∧ SqT K H p xs ∧ NdsAt K H xs (nodesOf pl) ∧ plOk pl = true ∧ xs.length < 1000 ∧ ∀ l us H', Same H H' → H l = none → H' l = some (.lst us) → FndAt K H' us (pathsK open2 pl) → Q (.ref l) H'
theorem ok_surface_of {pW fA f : Addr} {fdA fd : FuncData} (F : Fun K "surface_of" "surface_of" s_surface_of f fd) (WA : TupAt K mg "OPEN" pW open2) (C__paths_along : Cal P w K mg base 2 "_paths_along" fA fdA ["nodes", "kinds"] (spPathsAlong K)) :
    FnOk P w K mg base CX0 3 f fd ["nodes"] (spSurfOf K) := by
  refine F.ok sc_surface_of (fun vs H Q E h => ?_) (fun cdv A outer s H vs Q E hr h => ?_)
  · obtain ⟨p, xs, pl, rfl, _⟩ := h
    rfl
  · obtain ⟨p, xs, pl, rfl, hS, hN, hok, hl, q⟩ := h
    refine ⟨_, (pss_one (ps_ret (pe_call C__paths_along.G hr (by rfl) C__paths_along.m C__paths_along.k C__paths_along.b .nil pass0 (pa_cons (pv 0) (pa_cons (pe_glob (v := .ref pW) rfl WA.1 rfl) pa_nil))))), ?_⟩
    exact ⟨_, rfl, p, xs, pl, pW, open2, rfl, hS, hN, hok, hl, WA.2 H, fun k hk => open2_node hk, q⟩
/-- a tuple of the places of nodes of some kinds -/
def spPlacesIn (K : PySem.W.Frag) : Sp := fun vs H Q _ => ∃ p xs pl kp ks, vs = [.ref p, .ref kp] ∧ SqT K H p xs ∧ NdsAt K H xs (nodesOf pl) ∧ plOk pl = true ∧ xs.length < 1000 ∧ (∀ H', Same H H' → SqT K H' kp (ks.map V.str)) ∧
  ∀ r us H', Same H H' → H r = none → H' r = some (.tup us) → PthsAt K H' us (inK ks pl) → Q (.ref r) H'
theorem ok_places_in {fA f : Addr} {fdA fd : FuncData} (F : Fun K "places_in" "places_in" s_places_in f fd) (T : Txt mg) (C_surface_of : Cal P w K mg base 3 "surface_of" fA fdA ["nodes"] (spSurfOf K)) : FnOk P w K mg base CX0 4 f fd ["nodes", "kinds"] (spPlacesIn K) := by
  refine F.ok sc_places_in (fun vs H Q E h => ?_) (fun cdv A outer s H vs Q E hr h => ?_)
  · obtain ⟨p, xs, pl, kp, ks, rfl, _⟩ := h
    rfl
  · obtain ⟨p, xs, pl, kp, ks, rfl, hS, hN, hok, hl, hK, q⟩ := h
    refine ⟨_, (pss_one (ps_ret (pe_callTy call_tuple_of (by rfl) T.tuple_ (by decide +kernel) (pa_cons (pe_lc (own := [("place", 2), ("start", 3)]) (g := gTup K 2 (gCons (gName 2) (gCons (gName 3) gNil))) (by rfl) sc_places_in.nd (piL (K := K) rfl (pe_call C_surface_of.G hr (by rfl) C_surface_of.m C_surface_of.k C_surface_of.b .nil pass0 (pa_cons (pv 0) pa_nil))) (blkOk_by (by kernel_rfl))
      (fun _ _ _ _ _ => (pgT (K := K) rfl (by rfl) (pgs_cons (pg_name (i := 2) sc_places_in.nd rfl (.inl rfl)) (pgs_cons (pg_name (i := 3) sc_places_in.nd rfl (.inl rfl)) pgs_nil)))) (fun _ _ _ _ _ => (pts_one (pt_cmpR (inQ (K := K) rfl) (pe_ix (ixT (K := K) rfl) (pe_ix (ixT (K := K) rfl) (pv 0) (pv 3) (fun _ _ => rfl)) pe_int (fun _ _ => rfl)) (pv 1) (by rfl)))) (fun _ _ _ _ _ => (pv 2))) pa_nil)))), ?_⟩
    refine ⟨_, rfl, p, xs, pl, rfl, hS, hN, hok, hl, fun l us H1 s1 n1 e1 F1 => ?_⟩
    refine ⟨l, rfl, ⟨us, SqL.of e1⟩, fun D nD => ?_⟩
    have nDH : H D = none := s1.free nD
    have hul := F1.length
    have hpl := pathsK_len (ks := open2) pl
    have hx := hN.length
    have nlD : l ≠ D := ne_of_none e1 nD
    have hps := paths_subs hok
    have hlen := Paired.length hps
    refine lcLg (K := K) (a := l) (xs := us) (fun j acc H2 => Tk H1 H2 ∧ H2 l = some (.lst us) ∧ Same H H2 ∧ PthsAt K H2 acc ((((subsP pl).take j).filter fun y => ks.contains (kindPl y.2)).map (·.1))) ⟨Tk.new nD, by rw [upd_ne nlD]; exact e1, s1.trans (same_new nD), .nil⟩ (fun j acc H2 h => SqL.of h.2.1) ?_ ?_
    · rintro j x acc H2 hx2 hl2 e ⟨t2, el, s2, hP⟩
      obtain ⟨a, b, ns, o, rfl, hk, ha, hb⟩ := F1.get hx2
      have hj := (List.getElem?_eq_some_iff.mp hx2).1
      obtain ⟨⟨pa, z⟩, hz, e1', e2', rest, e3'⟩ := paired_at hps hk
      obtain ⟨c, k, u, hxa, hna, hc, more, hmore⟩ := head_at hN e3'
      have hS2 := (stk s2).seq hS
      have hc2 := (stk s2).seq hc
      have hkk : k = kindPl z := kind_head hmore
      refine ⟨a, _, rfl, t2.seq ha, rfl, _, _, rfl, _, _, rfl, rfl, rfl, ?_⟩
      refine ⟨_, rfl, _, rfl, p, xs, _, .ref c, rfl, rfl, hS2, atI_nat hxa, c, _, 0, .str k, rfl, rfl, hc2, rfl, _, rfl, kp, _, rfl, .inr (hK H2 s2), rfl, flat_strs _, _, rfl, ?_⟩
      rw [inV_strs, hkk]
      have stp := filter_snoc (fun y : List Nat × Pl => ks.contains (kindPl y.2)) hz
      cases ec : ks.contains (kindPl z) with
      | false =>
        rw [if_neg (by decide)]
        refine ⟨acc, by omega, e, t2, el, s2, ?_⟩
        rw [stp, if_neg (by rw [ec]; decide), List.append_nil]
        exact hP
      | true =>
        rw [if_neg (by decide)]
        refine iteT ⟨_, rfl, ?_⟩
        have kp := Tk.put (ys := acc ++ [V.ref b]) e
        refine LcK.mk hl2 (by omega) e ⟨t2.trans kp, by rw [upd_ne nlD]; exact el, fun b' o' eb => ?_, ?_⟩
        · rw [upd_ne (ne_of_none eb nDH)]
          exact s2 b' o' eb
        · rw [stp, if_pos ec, List.map_append]
          have e4 : ns = pa := e1'
          have := (hP.tk kp).snoc (kp.seq (t2.seq hb))
          rw [e4] at this
          exact this
    · rintro acc H2 hl2 e ⟨t2, el, s2, hP⟩
      rw [List.take_of_length_le (by omega)] at hP
      refine ⟨D, acc, rfl, .inl ⟨SqL.of e, fun r nr => ?_⟩⟩
      exact q r acc _ (s2.trans (same_new nr)) (s2.free nr) upd_same (hP.tk (Tk.new nr))
/-- the tuple of all places -/
def spSurface (K : PySem.W.Frag) (C CE : Addr) : Sp := fun vs H Q E => ∃ v, vs = [v] ∧ ((∃ a pl, v = .ref a ∧ PrG K C H a (nodesOf pl) ∧ plOk pl = true ∧ (nodesOf pl).length < 1000 ∧ ∀ r us H', Same H H' → H r = none → H' r = some (.tup us) → PthsAt K H' us ((subsP pl).map (·.1)) → Q (.ref r) H') ∨
  ∃ t, TyX K H v t ∧ PySem.W.kitOne K t (.ref C) = some false ∧ E (.ref CE) none H)
theorem ok_surface {C CE fI fL fC fS pN fN f : Addr} {fdC fdS fdN fd : FuncData} (F : Fun K "surface" "surface" s_surface f fd) (T : Txt mg) (PC : PromC K mg C fI fL)
    (GC : FnOk P w K mg base (L2.CX P w) 1 fC fdC ["value"] (spCheckP K C CE)) (mC : mg "check_promise" = some (.ref fC)) (kC : PySem.W.keepIn K (.ref fC) = true) (bC : Binds K fdC ["value"] [])
    (C_surface_of : Cal P w K mg base 3 "surface_of" fS fdS ["nodes"] (spSurfOf K)) (PN : PropC P w K mg base C "nodes" 1 (spNodesP K C) pN fN fdN) : FnOk P w K mg base (L2.CX P w) 4 f fd ["promise"] (spSurface K C CE) := by
  refine F.okX sc_surface (fun vs H Q E h => ?_) (fun cdv A outer s H vs Q E hr h => ?_)
  · obtain ⟨v, rfl, _⟩ := h
    rfl
  · obtain ⟨v, rfl, h⟩ := h
    have hr1 := hr.mono (j := 1) (by omega)
    have hr2 := hr.mono (j := 2) (by omega)
    refine ⟨_, (pss_cons (ps_expr (pe_callS GC hr1 (by rfl) mC kC bC (fun σ => passAt (takes_of rfl rfl rfl rfl) σ) (pa_cons (pv 0) pa_nil)))
      (pss_one (ps_ret (pe_callTy call_tuple_of (by rfl) T.tuple_ (by decide +kernel) (pa_cons (pe_lc (own := [("place", 1), ("_", 2)]) (g := gTup K 2 (gCons (gName 1) (gCons (gName 2) gNil))) (by rfl) sc_surface.nd (piL (K := K) rfl (pe_call C_surface_of.G hr (by rfl) C_surface_of.m C_surface_of.k C_surface_of.b .nil pass0 (pa_cons (pe_prop (pv 0) PC.cl PN.p PN.ok hr2 PN.b .nil pass0 rfl) pa_nil))) (blkOk_by (by kernel_rfl))
      (fun _ _ _ _ _ => (pgT (K := K) rfl (by rfl) (pgs_cons (pg_name (i := 1) sc_surface.nd rfl (.inl rfl)) (pgs_cons (pg_name (i := 2) sc_surface.nd rfl (.inl rfl)) pgs_nil)))) (fun _ _ _ _ _ => pts_nil) (fun _ _ _ _ _ => (pv 1))) pa_nil))))), ?_⟩
    rcases h with ⟨a, pl, rfl, pr, hok, hl, q⟩ | ⟨t, ht, hk, q⟩
    · obtain ⟨dx, p, xs, ea, hs, hN, g⟩ := id pr
      refine ⟨_, rfl, .ref a, rfl, .inl ⟨a, dx, _, rfl, ea, ?_⟩⟩
      refine ⟨_, rfl, a, dx, _, rfl, ea, a, dx, _, p, rfl, ea, rfl, ?_⟩
      refine ⟨p, xs, pl, rfl, hs, hN, hok, by rw [hN.length]; exact hl, fun l us H1 s1 n1 e1 F1 => ?_⟩
      refine ⟨l, rfl, ⟨us, SqL.of e1⟩, fun D nD => ?_⟩
      have nDH : H D = none := s1.free nD
      have hul := F1.length
      have hpl := pathsK_len (ks := open2) pl
      have nlD : l ≠ D := ne_of_none e1 nD
      refine lcLg (K := K) (a := l) (xs := us) (fun j acc H2 => Tk H1 H2 ∧ H2 l = some (.lst us) ∧ Same H H2 ∧ PthsAt K H2 acc (((pathsK open2 pl).map (·.1)).take j)) ⟨Tk.new nD, by rw [upd_ne nlD]; exact e1, s1.trans (same_new nD), .nil⟩ (fun j acc H2 h => SqL.of h.2.1) ?_ ?_
      · rintro j x acc H2 hx2 hl2 e ⟨t2, el, s2, hP⟩
        obtain ⟨a, b, ns, o, rfl, hk, ha, hb⟩ := F1.get hx2
        have hj := (List.getElem?_eq_some_iff.mp hx2).1
        refine ⟨a, _, rfl, t2.seq ha, rfl, _, _, rfl, _, _, rfl, rfl, rfl, yesT ⟨_, rfl, ?_⟩⟩
        have kp := Tk.put (ys := acc ++ [V.ref b]) e
        refine LcK.mk hl2 (by omega) e ⟨t2.trans kp, by rw [upd_ne nlD]; exact el, fun b' o' eb => ?_, ?_⟩
        · rw [upd_ne (ne_of_none eb nDH)]
          exact s2 b' o' eb
        · have hk2 : ((pathsK open2 pl).map (·.1))[j]? = some ns := by rw [List.getElem?_map, hk]; rfl
          rw [take_succ' hk2]
          exact (hP.tk kp).snoc (kp.seq (t2.seq hb))
      · rintro acc H2 hl2 e ⟨t2, el, s2, hP⟩
        rw [List.take_of_length_le (by rw [List.length_map]; omega), paths_fst hok] at hP
        refine ⟨D, acc, rfl, .inl ⟨SqL.of e, fun r nr => ?_⟩⟩
        exact q r acc _ (s2.trans (same_new nr)) (s2.free nr) upd_same (hP.tk (Tk.new nr))
    · exact ⟨_, rfl, v, rfl, .inr ⟨t, ht, hk, q⟩⟩
end
end Eh
set_option Elab.async false
set_option linter.all false
set_option maxRecDepth 100000
set_option maxHeartbeats 4000000
set_option Elab.async false
set_option linter.all false
set_option maxRecDepth 100000
set_option maxHeartbeats 4000000
namespace Eh
open PySem PySem.Spec PyProof.Rows L2
/-- the class Surface -/
structure SurC (K : PySem.W.Frag) (mg : Str → Option Value) (C fI : Addr) : Prop where
  g : mg "Surface" = some (.ref C)
  mkC : Mk K C fI
  cl : Cls K C
  np : NoAttr K C "_places"
  nq : NoAttr K C "_promise"
/-- a surface of a promise -/
def SfAt (K : PySem.W.Frag) (C CS : Addr) (H : Hp) (a b : Addr) (pl : Pl) : Prop := ∃ dx t us, H a = some (.ins CS dx [(("_places" : Str), .ref t), (("_promise" : Str), .ref b)]) ∧ SqT K H t us ∧ PthsAt K H us ((subsP pl).map (·.1)) ∧ PrG K C H b (nodesOf pl)
theorem SfAt.sm {K : PySem.W.Frag} {C CS a b : Addr} {H H' : Hp} {pl : Pl} (h : SfAt K C CS H a b pl) (s : Same H H') : SfAt K C CS H' a b pl := by
  obtain ⟨dx, t, us, e, hs, hP, pr⟩ := h
  exact ⟨dx, t, us, s _ _ e, (stk s).seq hs, hP.tk (stk s), pr.sm s⟩
section
variable {P : Program} {w : World} {K : PySem.W.Frag} {mg : Str → Option Value} {base : Heap}
def spSInit (K : PySem.W.Frag) (C CS : Addr) : Sp := fun vs H Q _ => ∃ x dx b pl, vs = [.ref x, .ref b] ∧ H x = some (.ins CS dx []) ∧ PrG K C H b (nodesOf pl) ∧ plOk pl = true ∧ (nodesOf pl).length < 1000 ∧
  ∀ H', But x H H' → SfAt K C CS H' x b pl → Q .non H'
theorem ok_sInit {C CE CS fI fL fS f : Addr} {fdS fd : FuncData} (F : Fun K "__init__" "Surface.__init__" s_Surface___init__ f fd) (SC : SurC K mg CS f)
    (GS : FnOk P w K mg base (L2.CX P w) 4 fS fdS ["promise"] (spSurface K C CE)) (mS : mg "surface" = some (.ref fS)) (kS : PySem.W.keepIn K (.ref fS) = true) (bS : Binds K fdS ["promise"] []) :
    FnOk P w K mg base (L2.CX P w) 5 f fd ["self", "promise"] (spSInit K C CS) := by
  refine F.okX sc_Surface___init__ (fun vs H Q E h => ?_) (fun cdv A outer s H vs Q E hr h => ?_)
  · obtain ⟨x, dx, b, pl, rfl, _⟩ := h
    rfl
  · obtain ⟨x, dx, b, pl, rfl, ex, pr, hok, hl, q⟩ := h
    refine ⟨_, (pss_cons (ps_fld (pv 0) (pe_callS GS hr (by rfl) mS kS bS (fun σ => passAt (takes_of rfl rfl rfl rfl) σ) (pa_cons (pv 1) pa_nil)) rfl)
      (pss_one (ps_fld (pv 0) (pv 1) rfl))), ?_⟩
    refine ⟨_, rfl, .ref b, rfl, .inl ⟨b, pl, rfl, pr, hok, hl, fun r us H1 s1 nr e1 hP => ?_⟩⟩
    have ex1 := s1 _ _ ex
    have pr1 := pr.sm s1
    have bt1 : But x H H1 := fun c o _ e => s1 c o e
    have nrx : r ≠ x := ne_of_none (o := .ins CS dx []) ex nr |>.symm
    refine ⟨_, rfl, x, CS, dx, [], rfl, ex1, SC.cl, SC.np, by decide, ?_⟩
    refine ⟨_, rfl, _, rfl, x, CS, dx, [(("_places" : Str), .ref r)], rfl, upd_same, SC.cl, SC.nq, (show (1 : Nat) < 1000 by decide), ?_⟩
    have kp : ∀ c o, c ≠ x → H1 c = some o → (upd (upd H1 x (.ins CS dx [(("_places" : Str), .ref r)])) x (.ins CS dx [(("_places" : Str), .ref r), (("_promise" : Str), .ref b)])) c = some o := fun c o n e => by
      rw [upd_ne n, upd_ne n]
      exact e
    have tk : Tk H1 (upd (upd H1 x (.ins CS dx [(("_places" : Str), .ref r)])) x (.ins CS dx [(("_places" : Str), .ref r), (("_promise" : Str), .ref b)])) := fun c ys h => by
      have n : c ≠ x := fun z => by
        rw [z] at h
        rcases h with h | ⟨o, h⟩
        · rw [ex1] at h; cases h
        · rw [ex1] at h; cases h
      rcases h with h | ⟨o, h⟩
      · exact .inl (kp c _ n h)
      · exact .inr ⟨o, kp c _ n h⟩
    refine q (upd (upd H1 x (.ins CS dx [(("_places" : Str), .ref r)])) x (.ins CS dx [(("_places" : Str), .ref r), (("_promise" : Str), .ref b)])) (fun c o n e => kp c o n (s1 _ _ e)) ⟨dx, r, us, upd_same, tk.seq (SqT.of e1), hP.tk tk, ?_⟩
    obtain ⟨dy, p, xs, eb, hs, hN, g⟩ := pr1
    have nbx : b ≠ x := fun z => by
      rw [z, ex1] at eb
      cases eb
    exact ⟨dy, p, xs, kp _ _ nbx eb, tk.seq hs, hN.tk tk, g⟩
/-- a surface == a surface, or an instance of another class -/
def spSEq (K : PySem.W.Frag) (C CS : Addr) : Sp := fun vs H Q _ => (∃ a b a2 b2 pl pl2, vs = [.ref a, .ref a2] ∧ SfAt K C CS H a b pl ∧ SfAt K C CS H a2 b2 pl2 ∧ Q (.bl (decide (nodesOf pl = nodesOf pl2))) H) ∨
  ∃ a c b pl, vs = [.ref a, .ref c] ∧ SfAt K C CS H a b pl ∧ (∃ dx fs, H c = some (.ins C dx fs)) ∧ Q (.bl false) H
theorem ok_sEq {C CS fI2 fE f : Addr} {fdE fd : FuncData} (F : Fun K "__eq__" "Surface.__eq__" s_Surface___eq__ f fd) (T : Txt mg) (SC : SurC K mg CS fI2) (cl : Cls K C) (IC : IsC K CS) (IP : IsC K C) (no : PySem.W.kitOne K (.ref C) (.ref CS) = some false)
    (GE : FnOk P w K mg base CX0 1 fE fdE ["self", "value"] (spEqG K C)) (sE : PySem.W.findIn K (.ref C) "__eq__" = some (some (.ref fE))) (iE : PySem.W.isFn K (.ref fE) = true) (bE : Binds K fdE ["self", "value"] []) :
    FnOk P w K mg base CX0 3 f fd ["self", "value"] (spSEq K C CS) := by
  refine F.ok sc_Surface___eq__ (fun vs H Q E h => ?_) (fun cdv A outer s H vs Q E hr h => ?_)
  · rcases h with ⟨a, b, a2, b2, pl, pl2, rfl, _⟩ | ⟨a, c, b, pl, rfl, _⟩ <;> rfl
  · have hr1 := hr.mono (j := 1) (by omega)
    refine ⟨_, (pss_one (ps_ret (pe_and (pe_callB (isiQ (K := K) rfl) (by rfl) T.isinstance_ (by decide +kernel) (pa_cons (pv 1) (pa_cons (pe_glob (v := .ref CS) rfl SC.g rfl) pa_nil))) (pe_one (pe_cmpR (eqOwn GE hr1 sE iE bE pass0) (pe_fld (pv 0) rfl) (pe_fld (pv 1) rfl) (nomark _)))))), ?_⟩
    rcases h with ⟨a, b, a2, b2, pl, pl2, rfl, ⟨dx, t, us, ea, hs, hP, pr⟩, ⟨dx2, t2, us2, ea2, hs2, hP2, pr2⟩, q⟩ | ⟨a, c, b, pl, rfl, ⟨dx, t, us, ea, hs, hP, pr⟩, ⟨dc, fs, ec⟩, q⟩
    · refine ⟨_, rfl, .ref a2, .ref CS, .ref CS, .ref CS, true, rfl, .own _, .base (.ins ea2 SC.cl IC.cls IC.sp IC.tk IC.mro), IC.self, true, rfl, iteT ?_⟩
      obtain ⟨dy, p, xs, eb, hs3, hN, g⟩ := id pr
      obtain ⟨dy2, p2, xs2, eb2, hs4, hN2, g2⟩ := id pr2
      refine ⟨_, rfl, a, CS, dx, _, .ref b, rfl, ea, SC.cl, SC.nq, rfl, _, rfl, a2, CS, dx2, _, .ref b2, rfl, ea2, SC.cl, SC.nq, rfl, ?_⟩
      exact ⟨b, b2, dy, dy2, _, _, rfl, rfl, eb, eb2, b, b2, _, _, rfl, pr, pr2, _, rfl, q⟩
    · refine ⟨_, rfl, .ref c, .ref CS, .ref C, .ref CS, false, rfl, .own _, .base (.ins ec cl IP.cls IP.sp IP.tk IP.mro), no, false, rfl, iteF q⟩
end
end Eh
set_option Elab.async false
set_option linter.all false
set_option maxRecDepth 100000
set_option maxHeartbeats 4000000
namespace Eh
open PySem PySem.Spec PyProof.Rows L2
def hands2 : List Str := ["caller", "keeper"]
/-- the kind of the choices of a hand -/
def choiceOf (h : Str) : Str := if h = "caller" then "yours" else "mine"
structure CalledAt (K : PySem.W.Frag) (w : World) (mg : Str → Option Value) (p : Addr) : Prop where
  g : mg "CALLED" = some (.ref p)
  c : KDct K w p "caller" (.str "yours")
  k : KDct K w p "keeper" (.str "mine")
/-- what a value is as a call -/
inductive CallV (K : PySem.W.Frag) (H : Hp) : V → Option (Option (List V) × V) → Prop
  | other {v : V} : NoT H v → CallV K H v none
  | len {t : Addr} {zs : List V} : SqT K H t zs → zs.length ≠ 2 → CallV K H (.ref t) none
  | pair {t : Addr} {p i : V} {ws : Option (List V)} : SqT K H t [p, i] → PathV K H p ws → KindI K H i → CallV K H (.ref t) (some (ws, i))
def handAt : Pl → V → V
  | .leaf _ _, _ => .non
  | .node k ps, i => if idxV i (ps.length : Int) = true then (if k = "yours" then .str "caller" else if k = "mine" then .str "keeper" else .non) else .non
/-- the hand that can make a call, or None -/
def handPl (pl : Pl) : Option (Option (List V) × V) → V
  | some (some zs, i) => match walkV open2 pl zs with
    | some y => handAt y.2 i
    | none => .non
  | _ => .non
theorem handAt_node {k : Str} {ps : List Pl} {i : V} : handAt (.node k ps) i = if idxV i (ps.length : Int) = true then (if k = "yours" then .str "caller" else if k = "mine" then .str "keeper" else .non) else .non := rfl
theorem handPl_none {pl : Pl} {zs : List V} {i : V} (h : walkV open2 pl zs = none) : handPl pl (some (some zs, i)) = .non := by
  show (match walkV open2 pl zs with | some y => handAt y.2 i | none => V.non) = _
  rw [h]
theorem handPl_some {pl q : Pl} {zs : List V} {i : V} {o : Nat} (h : walkV open2 pl zs = some (o, q)) : handPl pl (some (some zs, i)) = handAt q i := by
  show (match walkV open2 pl zs with | some y => handAt y.2 i | none => V.non) = _
  rw [h]
theorem handPl_non {pl : Pl} {ws : Option (List V)} {i : V} (h : startV open2 pl ws = .non) : handPl pl (some (ws, i)) = .non := by
  cases ws with
  | none => rfl
  | some zs =>
    cases hw : walkV open2 pl zs with
    | none => exact handPl_none hw
    | some y =>
      obtain ⟨o, q⟩ := y
      rw [startV_some hw] at h
      cases h
theorem leaf_no {k : Str} {u : V} (h : plOk (.leaf k u) = true) : k ≠ "yours" ∧ k ≠ "mine" := by
  rw [plOk] at h
  constructor <;> (intro e; subst e; revert h; simp only [Bool.not_eq_true'] ; decide +kernel)
section
variable {P : Program} {w : World} {K : PySem.W.Frag} {mg : Str → Option Value} {base : Heap}
def spHandIn (K : PySem.W.Frag) : Sp := fun vs H Q _ => ∃ p xs pl v c, vs = [.ref p, v] ∧ SqT K H p xs ∧ NdsAt K H xs (nodesOf pl) ∧ plOk pl = true ∧ xs.length < 1000 ∧ CallV K H v c ∧ Q (handPl pl c) H
theorem ok_hand_in {pH pC fA fI f : Addr} {fdA fdI fd : FuncData} (F : Fun K "hand_in" "hand_in" s_hand_in f fd) (T : Txt mg) (HA : TupAt K mg "HANDS" pH hands2) (CA : CalledAt K w mg pC)
    (C_start_at : Cal P w K mg base 4 "start_at" fA fdA ["nodes", "place"] (spStartAt K)) (C_is_index : Cal P w K mg base 2 "is_index" fI fdI ["value", "many"] (spIndex K)) :
    FnOk P w K mg base CX0 5 f fd ["nodes", "value"] (spHandIn K) := by
  refine F.ok sc_hand_in (fun vs H Q E h => ?_) (fun cdv A outer s H vs Q E hr h => ?_)
  · obtain ⟨p, xs, pl, v, c, rfl, _⟩ := h
    rfl
  · obtain ⟨p, xs, pl, v, c, rfl, hS, hN, hok, hl, hV, q⟩ := h
    have hr2 := hr.mono (j := 2) (by omega)
    refine ⟨_, (pss_cons (ps_if (PW.pt (pw_or (pt_not (pt_val (pe_callB (isiQ (K := K) rfl) (by rfl) T.isinstance_ (by decide +kernel) (pa_cons (pv 1) (pa_cons (pe_bltn (v := .ty "tuple") (by rfl) T.tuple_ (by decide +kernel) rfl) pa_nil))))) (pw_or1 (pt_cmpR op_ne (pe_callB (lenQ (K := K) rfl) (by rfl) T.len_ (by decide +kernel) (pa_cons (pv 1) pa_nil)) pe_int (nomark _)))))
  (pss_one (ps_ret pe_non))
  pss_nil)
  (pss_cons (ps_asg (pv 1) (pg_tup (by rfl) (pgs_cons (pg_name (i := 2) sc_hand_in.nd rfl (.inl rfl)) (pgs_cons (pg_name (i := 3) sc_hand_in.nd rfl (.inl rfl)) pgs_nil))))
  (pss_cons (ps_set (i := 4) sc_hand_in.nd rfl (.inl rfl) (pe_call C_start_at.G hr (by rfl) C_start_at.m C_start_at.k C_start_at.b .nil pass0 (pa_cons (pv 0) (pa_cons (pv 2) pa_nil))))
  (pss_cons (ps_if (pt_cmpR op_isN (pv 4) pe_non (nomark _))
  (pss_one (ps_ret pe_non))
  pss_nil)
  (pss_cons (ps_asg (pe_ix (ixT (K := K) rfl) (pv 0) (pv 4) (fun _ _ => rfl)) (pg_tup (by rfl) (pgs_cons (pg_name (i := 5) sc_hand_in.nd rfl (.inl rfl)) (pgs_cons (pg_name (i := 6) sc_hand_in.nd rfl (.inl rfl)) pgs_nil))))
  (pss_cons (ps_for PassesOwn.never (by rfl) (pi_tup (pe_glob (v := .ref pH) rfl HA.1 rfl)) (pg_name (i := 7) sc_hand_in.nd rfl (.inl rfl))
  (pss_one (ps_if (PW.pt (pw_and (pt_cmpR op_eq (pv 5) (pe_ix (ixKd (K := K) (w := w) rfl rfl) (pe_glob (v := .ref pC) rfl CA.g rfl) (pv 7) (fun _ _ => rfl)) (nomark _)) (pw_and1 (pt_val (pe_call C_is_index.G hr2 (by rfl) C_is_index.m C_is_index.k C_is_index.b .nil pass0 (pa_cons (pv 3) (pa_cons (pv 6) pa_nil)))))))
  (pss_one (ps_ret (pv 7)))
  pss_nil)))
  (pss_one (ps_ret pe_non)))))))), ?_⟩
    cases hV with
    | other hno =>
      obtain ⟨u, ty, hk⟩ := hno.ty (K := K)
      exact ⟨_, rfl, v, .ty "tuple", _, .type "tuple", false, rfl, .ty _, ty, hk, _, rfl, iteT (iteT q)⟩
    | len hs hne =>
      rename_i t zs
      refine ⟨_, rfl, .ref t, .ty "tuple", _, .type "tuple", true, rfl, .ty _, ty_tup hs, kitTT, _, rfl, iteF ?_⟩
      refine ⟨_, rfl, .inl ⟨t, zs, rfl, .inr hs, ?_⟩⟩
      exact ⟨rfl, _, rfl, iteT' (by rw [show decide (V.int (zs.length : Int) = V.int 2) = false from decide_eq_false fun z => hne (by injection z with z; omega)]; rfl) q⟩
    | pair hs hp hi =>
      rename_i t pp i ws
      refine ⟨_, rfl, .ref t, .ty "tuple", _, .type "tuple", true, rfl, .ty _, ty_tup hs, kitTT, _, rfl, iteF ?_⟩
      refine ⟨_, rfl, .inl ⟨t, _, rfl, .inr hs, rfl, _, rfl, iteF' rfl ?_⟩⟩
      refine ⟨_, rfl, t, _, rfl, hs, rfl, _, _, rfl, _, _, rfl, rfl, ?_⟩
      refine ⟨_, rfl, _, rfl, p, xs, pl, pp, ws, rfl, hS, hN, hok, hl, hp, ?_⟩
      refine ⟨_, rfl, rfl, _, rfl, ?_⟩
      rcases startV_cases open2 pl ws with h | ⟨zs, o, t1, rfl, hw, h⟩
      · rw [h]
        refine iteT' (decide_eq_true rfl) ?_
        have := handPl_non (i := i) h
        rw [this] at q
        exact q
      · rw [h]
        refine iteF' (decide_eq_false (fun z => nomatch z)) ?_
        obtain ⟨rest, hd, hokt⟩ := walk_drop hok hw
        obtain ⟨a, k, u, hxa, hna, ha, more, hmore⟩ := head_at hN hd
        have e0 := handPl_some (i := i) hw
        rw [e0] at q
        refine ⟨_, rfl, _, rfl, p, xs, _, .ref a, rfl, rfl, hS, atI_nat hxa, ?_⟩
        refine ⟨a, _, rfl, ha, rfl, _, _, rfl, _, _, rfl, rfl, ?_⟩
        refine ⟨_, rfl, ⟨_, HA.2 H⟩, for_tup (xs := hands2.map V.str) (fun j σ H2 => H2 = H ∧ (∃ x7, σ = [some (.ref p), some (.ref t), some pp, some i, some (.int (o : Int)), some (.str k), some u, x7]) ∧ (1 ≤ j → k = "yours" → handAt t1 i = .non) ∧ (2 ≤ j → k = "mine" → handAt t1 i = .non)) ?_ (fun j σ H2 _ h => HA.2 H2) ?_ ?_⟩
        · exact ⟨rfl, ⟨_, rfl⟩, fun z => absurd z (by decide), fun z => absurd z (by decide)⟩
        · rintro j x σ H2 hx ⟨rfl, ⟨x7, rfl⟩, f1, f2⟩
          obtain ⟨hd, kd, ex, hk, hkd, hyes, hn1, hn2⟩ : ∃ (hd kd : Str), x = .str hd ∧ KDct K w pC hd (.str kd) ∧ (kd = "yours" ∨ kd = "mine") ∧ (∀ (kk : Str) (qs : List Pl), t1 = .node kk qs → kk = kd → idxV i (qs.length : Int) = true → handAt t1 i = .str hd) ∧
              (k = kd → handAt t1 i = .non → (1 ≤ j + 1 → k = "yours" → handAt t1 i = .non) ∧ (2 ≤ j + 1 → k = "mine" → handAt t1 i = .non)) ∧
              (k ≠ kd → (1 ≤ j + 1 → k = "yours" → handAt t1 i = .non) ∧ (2 ≤ j + 1 → k = "mine" → handAt t1 i = .non)) := by
            match j, hx with
            | 0, hx =>
              refine ⟨"caller", "yours", ?_, CA.c, .inl rfl, (fun kk qs e ek ei => ?_), (fun ek hno => ⟨fun _ _ => hno, fun z => absurd z (by decide)⟩), (fun ek => ⟨fun _ z => absurd z ek, fun z => absurd z (by decide)⟩)⟩
              · exact (Option.some.inj hx).symm
              · rw [e, handAt_node, if_pos ei, if_pos ek]
            | 1, hx =>
              refine ⟨"keeper", "mine", ?_, CA.k, .inr rfl, (fun kk qs e ek ei => ?_), (fun ek hno => ⟨fun _ _ => hno, fun _ _ => hno⟩), (fun ek => ⟨fun _ => f1 (by decide), fun _ z => absurd z ek⟩)⟩
              · exact (Option.some.inj hx).symm
              · rw [e, handAt_node, if_pos ei, ek, if_neg (by decide +kernel), if_pos rfl]
            | j + 2, hx => exact absurd hx (by unfold hands2; simp)
          subst ex
          refine ⟨_, rfl, _, rfl, pC, hd, _, rfl, rfl, hk, rfl, _, rfl, ?_⟩
          by_cases ek : k = kd
          · refine iteT' (decide_eq_true (by rw [ek])) ?_
            cases t1 with
            | leaf k1 u1 =>
              rw [nodesOf] at hmore
              cases hmore
              obtain ⟨n1, n2⟩ := leaf_no hokt
              rcases hkd with e | e
              · exact absurd (ek.trans e) n1
              · exact absurd (ek.trans e) n2
            | node k1 ps =>
              rw [nodesOf] at hmore
              cases hmore
              refine ⟨_, rfl, _, rfl, i, _, rfl, hi, _, rfl, ?_⟩
              cases ei : idxV i (ps.length : Int) with
              | true =>
                refine iteT ⟨_, rfl, ?_⟩
                rw [hyes _ _ rfl ek ei] at q
                exact q
              | false =>
                have hno : handAt (.node k ps) i = .non := by
                  rw [handAt_node, ei, if_neg (by decide)]
                exact iteF ⟨rfl, ⟨_, rfl⟩, hn1 ek hno⟩
          · exact iteF' (decide_eq_false fun z => ek (by injection z)) ⟨rfl, ⟨_, rfl⟩, hn2 ek⟩
        · rintro σ H2 ⟨rfl, ⟨x7, rfl⟩, f1, f2⟩
          have hno : handAt t1 i = .non := by
            by_cases e1 : k = "yours"
            · exact f1 (by decide) e1
            · by_cases e2 : k = "mine"
              · exact f2 (by decide) e2
              · cases t1 with
                | leaf k1 u1 => rfl
                | node k1 ps =>
                  rw [nodesOf] at hmore
                  cases hmore
                  rw [handAt_node, if_neg e1, if_neg e2, ite_self]
          rw [hno] at q
          exact q
/-- what comes of a call -/
def spCalledIn (K : PySem.W.Frag) : Sp := fun vs H Q _ => ∃ p xs pl t pp i zs o k ps rest, vs = [.ref p, .ref t] ∧ SqT K H p xs ∧ NdsAt K H xs (nodesOf pl) ∧ plOk pl = true ∧ xs.length < 1000 ∧ SqT K H t [pp, .int (i : Nat)] ∧ PathV K H pp (some zs) ∧ walkV open2 pl zs = some (o, .node k ps) ∧ (nodesOf pl).drop o = nodesOf (.node k ps) ++ rest ∧ ∃ q, ps[i]? = some q ∧
  ∀ r us H', Same H H' → SqT K H' r us → NdsAt K H' us ((nodesOf pl).take o ++ (nodesOf q ++ rest)) → Q (.ref r) H'
theorem ok_called_in {fA fP fF fX f : Addr} {fdA fdP fdF fdX fd : FuncData} (F : Fun K "called_in" "called_in" s_called_in f fd)
    (C_start_at : Cal P w K mg base 4 "start_at" fA fdA ["nodes", "place"] (spStartAt K)) (C_parts_of : Cal P w K mg base 2 "parts_of" fP fdP ["nodes"] (spPartsOf K)) (C_part_from : Cal P w K mg base 2 "part_from" fF fdF ["nodes", "start"] (spPartFrom K)) (C_exchanged_from : Cal P w K mg base 2 "exchanged_from" fX fdX ["nodes", "start", "other"] (spExFrom K)) :
    FnOk P w K mg base CX0 5 f fd ["nodes", "call"] (spCalledIn K) := by
  refine F.ok sc_called_in (fun vs H Q E h => ?_) (fun cdv A outer s H vs Q E hr h => ?_)
  · obtain ⟨p, xs, pl, t, pp, i, zs, o, k, ps, rest, rfl, _⟩ := h
    rfl
  · obtain ⟨p, xs, pl, t, pp, i, zs, o, k, ps, rest, rfl, hS, hN, hok, hl, hs, hp, hw, hd, q0, hq, q⟩ := h
    have hr2 := hr.mono (j := 2) (by omega)
    refine ⟨_, (pss_cons (ps_asg (pv 1) (pg_tup (by rfl) (pgs_cons (pg_name (i := 2) sc_called_in.nd rfl (.inl rfl)) (pgs_cons (pg_name (i := 3) sc_called_in.nd rfl (.inl rfl)) pgs_nil))))
  (pss_cons (ps_set (i := 4) sc_called_in.nd rfl (.inl rfl) (pe_call C_start_at.G hr (by rfl) C_start_at.m C_start_at.k C_start_at.b .nil pass0 (pa_cons (pv 0) (pa_cons (pv 2) pa_nil))))
  (pss_cons (ps_set (i := 5) sc_called_in.nd rfl (.inl rfl) (pe_call C_parts_of.G hr2 (by rfl) C_parts_of.m C_parts_of.k C_parts_of.b .nil pass0 (pa_cons (pe_call C_part_from.G hr2 (by rfl) C_part_from.m C_part_from.k C_part_from.b .nil pass0 (pa_cons (pv 0) (pa_cons (pv 4) pa_nil))) pa_nil)))
  (pss_one (ps_ret (pe_call C_exchanged_from.G hr2 (by rfl) C_exchanged_from.m C_exchanged_from.k C_exchanged_from.b .nil pass0 (pa_cons (pv 0) (pa_cons (pv 4) (pa_cons (pe_ix (ixL (K := K) rfl) (pv 5) (pv 3) (fun _ _ => rfl)) pa_nil))))))))), ?_⟩
    obtain ⟨_, _, hokt⟩ := walk_drop hok hw
    refine ⟨_, rfl, t, _, rfl, hs, rfl, _, _, rfl, _, _, rfl, rfl, ?_⟩
    refine ⟨_, rfl, _, rfl, p, xs, pl, pp, _, rfl, hS, hN, hok, hl, hp, ?_⟩
    rw [startV_some hw]
    refine ⟨_, rfl, _, rfl, p, xs, nodesOf pl, o, .node k ps, rest, rfl, hS, hN, hl, hd, hokt, fun r ys H1 s1 hr1 N1 => ?_⟩
    have hl1 : ys.length < 1000 := by
      have h1 := congrArg List.length hd
      rw [List.length_drop, List.length_append] at h1
      have := hN.length
      have := N1.length
      omega
    refine ⟨r, ys, .node k ps, rfl, hr1, N1, hokt, hl1, fun l us H2 s2 nl el PA => ?_⟩
    have hix := (List.getElem?_eq_some_iff.mp hq).1
    have hlen := PA.length
    obtain ⟨v, hv⟩ : ∃ v, us[i]? = some v := ⟨_, List.getElem?_eq_getElem (by rw [hlen]; exact hix)⟩
    obtain ⟨b, zs2, q2, rfl, hq2, hb, hNb⟩ := PA.get hv
    cases (show ps[i]? = some q2 from hq2).symm.trans hq
    have s02 := s1.trans s2
    refine ⟨_, rfl, _, rfl, _, rfl, _, rfl, l, us, _, .ref b, rfl, rfl, SqL.of el, atI_nat hv, ?_⟩
    have hl2 : zs2.length < 1000 := by
      have h1 := nodesOf_get hq
      have := hNb.length
      have := N1.length
      rw [nodesOf, List.length_cons] at this
      omega
    refine ⟨p, b, xs, zs2, nodesOf pl, nodesOf q0, o, .node k ps, rest, rfl, (stk s02).seq hS, hN.tk (stk s02), hl, hb, hNb, hl2, hd, hokt, fun r2 us2 H3 s3 h3 N3 => ?_⟩
    exact q r2 us2 H3 (s02.trans s3) h3 N3
end
end Eh
set_option Elab.async false
set_option linter.all false
set_option maxRecDepth 100000
set_option maxHeartbeats 4000000
namespace Eh
open PySem PySem.Spec PyProof.Rows L2
/-- what is made stands at D, and R -/
def NxP (R : Nat → List V → Hp → Prop) (D : Addr) (j : Nat) : Hp → Prop := fun H => ∃ acc, H D = some (.lst acc) ∧ R j acc H
/-- behind an element of the inner for -/
def NxK (S : Nat → List V → Hp → Prop) (D : Addr) (j : Nat) : VK := fun y H7 => ∃ acc, H7 D = some (.lst acc) ∧ acc.length < sizeLine ∧ NxP S D (j + 1) (upd H7 D (.lst (acc ++ [y])))
theorem NxK.mk {S : Nat → List V → Hp → Prop} {D : Addr} {j : Nat} {acc : List V} {y : V} {H : Hp} (hl : acc.length < sizeLine) (e : H D = some (.lst acc)) (r : S (j + 1) (acc ++ [y]) (upd H D (.lst (acc ++ [y])))) : NxK S D j y H := ⟨acc, e, hl, _, upd_same, r⟩
/-- the inner for -/
def Lc2In (J1 : It) (g1 : TG) (tt1 : TT) (te : TE) (vs1 : List Nat) (σ2 : L2.St) (H4 : Hp) (D : Addr) (Nx : Hp → Prop) : Prop :=
  ∃ W1 : Nat → Nat → Hp → Prop, (∃ m, W1 0 m H4) ∧ ∀ j k H, W1 j k H → (J1.stop j H ∧ Nx H) ∨ (J1.go j H ∧ ∃ Nx1 : Hp → Prop, (∀ H', Nx1 H' → ∃ k', k' < k ∧ W1 (j + 1) k' H') ∧
    ∀ x H', J1.yld j H x H' → g1 x (wipe σ2 vs1) H' fun σ3 H5 => wipe σ3 vs1 = wipe σ2 vs1 ∧ tt1 σ3 H5 fun b H6 => if b = true then te σ3 H6 fun y H7 => ∃ acc, H7 D = some (.lst acc) ∧ acc.length < sizeLine ∧ Nx1 (upd H7 D (.lst (acc ++ [y]))) else Nx1 H6)
/-- both -/
def Lc2Goal (J : It) (g : TG) (tt : TT) (wi1 : TI) (g1 : TG) (tt1 : TT) (te : TE) (vs vs1 : List Nat) (σ : L2.St) (H1 : Hp) (D : Addr) (Qd : Hp → Prop) : Prop :=
  ∃ W : Nat → Nat → Hp → Prop, (∃ m, W 0 m (upd H1 D (.lst []))) ∧ ∀ i m H, W i m H → (J.stop i H ∧ Qd H) ∨ (J.go i H ∧ ∃ Nx : Hp → Prop, (∀ H', Nx H' → ∃ m', m' < m ∧ W (i + 1) m' H') ∧
    ∀ x H', J.yld i H x H' → g x (wipe σ vs) H' fun σ2 H2 => wipe σ2 vs = wipe σ vs ∧ tt σ2 H2 fun b H3 => if b = true then wi1 σ2 H3 (fun J1 H4 => Lc2In J1 g1 tt1 te vs1 σ2 H4 D Nx) else Nx H3)
section
variable {K : PySem.W.Frag} {J : It} {n : Nat} {g g1 : TG} {tt tt1 : TT} {wi1 : TI} {te : TE} {vs vs1 : List Nat} {σ σ2 : L2.St} {H1 H4 : Hp} {D : Addr} {Qd Nx : Hp → Prop}
/-- the outer for, whatever it goes over -/
theorem lc2_any (R : Nat → List V → Hp → Prop) (h0 : R 0 [] (upd H1 D (.lst [])))
    (hgo : ∀ j acc H, j < n → H D = some (.lst acc) → R j acc H → J.go j H ∧ ∀ x H', J.yld j H x H' →
      g x (wipe σ vs) H' fun σ2 H2 => wipe σ2 vs = wipe σ vs ∧ tt σ2 H2 fun b H3 => if b = true then wi1 σ2 H3 (fun J1 H4 => Lc2In J1 g1 tt1 te vs1 σ2 H4 D (NxP R D (j + 1))) else NxP R D (j + 1) H3)
    (hstop : ∀ acc H, H D = some (.lst acc) → R n acc H → J.stop n H ∧ Qd H) : Lc2Goal J g tt wi1 g1 tt1 te vs vs1 σ H1 D Qd := by
  refine ⟨fun j m H => m = n - j ∧ j ≤ n ∧ NxP R D j H, ⟨n, rfl, Nat.zero_le _, [], upd_same, h0⟩, ?_⟩
  rintro j m H ⟨rfl, hj, acc, e, r⟩
  by_cases hlt : j < n
  · obtain ⟨a, b⟩ := hgo j acc H hlt e r
    exact .inr ⟨a, NxP R D (j + 1), fun H' p => ⟨n - (j + 1), by omega, rfl, hlt, p⟩, b⟩
  · obtain rfl : j = n := by omega
    exact .inl (hstop acc H e r)
theorem lc2_in (S : Nat → List V → Hp → Prop) (h0 : NxP S D 0 H4)
    (hgo : ∀ j acc H, j < n → H D = some (.lst acc) → S j acc H → J.go j H ∧ ∀ x H', J.yld j H x H' →
      g1 x (wipe σ2 vs1) H' fun σ3 H5 => wipe σ3 vs1 = wipe σ2 vs1 ∧ tt1 σ3 H5 fun b H6 => if b = true then te σ3 H6 (NxK S D j) else NxP S D (j + 1) H6)
    (hstop : ∀ acc H, H D = some (.lst acc) → S n acc H → J.stop n H ∧ Nx H) : Lc2In J g1 tt1 te vs1 σ2 H4 D Nx := by
  refine ⟨fun j m H => m = n - j ∧ j ≤ n ∧ NxP S D j H, ⟨n, rfl, Nat.zero_le _, h0⟩, ?_⟩
  rintro j m H ⟨rfl, hj, acc, e, r⟩
  by_cases hlt : j < n
  · obtain ⟨a, b⟩ := hgo j acc H hlt e r
    exact .inr ⟨a, NxP S D (j + 1), fun H' p => ⟨n - (j + 1), by omega, rfl, hlt, p⟩, b⟩
  · obtain rfl : j = n := by omega
    exact .inl (hstop acc H e r)
/-- the outer for over a list -/
theorem lc2L {a : Addr} {xs : List V} (R : Nat → List V → Hp → Prop) (h0 : R 0 [] (upd H1 D (.lst []))) (hl : ∀ j acc H, R j acc H → SqL K H a xs)
    (hs : ∀ j x acc H, xs[j]? = some x → H D = some (.lst acc) → R j acc H →
      g x (wipe σ vs) H fun σ2 H2 => wipe σ2 vs = wipe σ vs ∧ tt σ2 H2 fun b H3 => if b = true then wi1 σ2 H3 (fun J1 H4 => Lc2In J1 g1 tt1 te vs1 σ2 H4 D (NxP R D (j + 1))) else NxP R D (j + 1) H3)
    (hd : ∀ acc H, H D = some (.lst acc) → R xs.length acc H → Qd H) : Lc2Goal (Itl K a) g tt wi1 g1 tt1 te vs vs1 σ H1 D Qd := by
  refine lc2_any (n := xs.length) R h0 (fun j acc H hj e r => ⟨⟨xs, xs[j], hl _ _ _ r, List.getElem?_eq_getElem hj⟩, fun x H' y => ?_⟩) fun acc H e r => ⟨⟨xs, hl _ _ _ r, Nat.le_refl _⟩, hd acc H e r⟩
  obtain ⟨rfl, y⟩ := y
  exact hs j x acc _ (y xs (hl _ _ _ r)) e r
/-- the inner for over a range -/
theorem lc2_inR {lo : Int} {i : Nat} (S : Nat → List V → Hp → Prop) (h0 : NxP S D 0 H4)
    (hs : ∀ j acc H, j < n → H D = some (.lst acc) → S j acc H → tt1 ((wipe σ2 [i]).set i (some (.int (lo + j)))) H fun b H6 => if b = true then te ((wipe σ2 [i]).set i (some (.int (lo + j)))) H6 (NxK S D j) else NxP S D (j + 1) H6)
    (hd : ∀ acc H, H D = some (.lst acc) → S n acc H → Nx H) : Lc2In (Itr lo n) (gName i) tt1 te [i] σ2 H4 D Nx := by
  refine lc2_in (n := n) S h0 (fun j acc H hj e r => ⟨hj, fun x H' y => ?_⟩) fun acc H e r => ⟨Nat.le_refl _, hd acc H e r⟩
  obtain ⟨rfl, rfl⟩ := y
  exact ⟨wipe1, hs j acc _ hj e r⟩
end
def manyPl : Pl → Nat
  | .leaf _ _ => 0
  | .node _ ps => ps.length
def callsOf (hd : Str) (y : List Nat × Pl) : List (List Nat × Nat) := if kindPl y.2 = choiceOf hd then (List.range (manyPl y.2)).map fun i => (y.1, i) else []
/-- the calls of a hand, in order -/
def callsPl (pl : Pl) (hd : Str) : List (List Nat × Nat) := (subsP pl).flatMap (callsOf hd)
def CallAt (K : PySem.W.Frag) (H : Hp) (v : V) (c : List Nat × Nat) : Prop := ∃ a b, v = .ref a ∧ SqT K H a [.ref b, .int (c.2 : Nat)] ∧ SqT K H b (c.1.map natV)
theorem CallAt.tk {K : PySem.W.Frag} {H H' : Hp} {v : V} {c : List Nat × Nat} (h : CallAt K H v c) (t : Tk H H') : CallAt K H' v c := by
  obtain ⟨a, b, e, h1, h2⟩ := h
  exact ⟨a, b, e, t.seq h1, t.seq h2⟩
def CallsAt (K : PySem.W.Frag) (H : Hp) (us : List V) (cs : List (List Nat × Nat)) : Prop := Paired (CallAt K H) us cs
theorem CallsAt.tk {K : PySem.W.Frag} {H H' : Hp} (t : Tk H H') : ∀ {us : List V} {cs : List (List Nat × Nat)}, CallsAt K H us cs → CallsAt K H' us cs
  | _, _, .nil => .nil
  | _, _, .cons a r => .cons (a.tk t) (CallsAt.tk t r)
theorem CallsAt.snoc {K : PySem.W.Frag} {H : Hp} {v : V} {c : List Nat × Nat} (h : CallAt K H v c) : ∀ {us : List V} {cs : List (List Nat × Nat)}, CallsAt K H us cs → CallsAt K H (us ++ [v]) (cs ++ [c])
  | _, _, .nil => .cons h .nil
  | _, _, .cons a r => .cons a (CallsAt.snoc h r)
theorem CallsAt.app {K : PySem.W.Frag} {H : Hp} : ∀ {us vs : List V} {cs ds : List (List Nat × Nat)}, CallsAt K H us cs → CallsAt K H vs ds → CallsAt K H (us ++ vs) (cs ++ ds)
  | _, _, _, _, .nil, h => h
  | _, _, _, _, .cons a r, h => .cons a (CallsAt.app r h)
def isHand (hd : Str) : Prop := hd = "caller" ∨ hd = "keeper"
theorem CalledAt.at {K : PySem.W.Frag} {w : World} {mg : Str → Option Value} {p : Addr} (C : CalledAt K w mg p) {hd : Str} (h : isHand hd) : KDct K w p hd (.str (choiceOf hd)) := by
  rcases h with rfl | rfl
  · exact C.c
  · have : choiceOf "keeper" = "mine" := if_neg (by decide +kernel)
    rw [this]
    exact C.k
theorem choice_two {hd : Str} (h : isHand hd) : choiceOf hd = "yours" ∨ choiceOf hd = "mine" := by
  rcases h with rfl | rfl
  · exact .inl (if_pos rfl)
  · exact .inr (if_neg (by decide +kernel))
/-- a node of a choice is no leaf -/
theorem choice_isnode {z : Pl} {hd : Str} (hok : plOk z = true) (h : isHand hd) (e : kindPl z = choiceOf hd) : ∃ ps, z = .node (choiceOf hd) ps := by
  cases z with
  | leaf k t =>
    obtain ⟨n1, n2⟩ := leaf_no hok
    have e' : k = choiceOf hd := e
    rcases choice_two h with h | h
    · exact absurd (e'.trans h) n1
    · exact absurd (e'.trans h) n2
  | node k ps => exact ⟨ps, by rw [← show k = choiceOf hd from e]⟩
section
variable {P : Program} {w : World} {K : PySem.W.Frag} {mg : Str → Option Value} {base : Heap}
def spCallsIn (K : PySem.W.Frag) : Sp := fun vs H Q _ => ∃ p xs pl hd, vs = [.ref p, .str hd] ∧ SqT K H p xs ∧ NdsAt K H xs (nodesOf pl) ∧ plOk pl = true ∧ xs.length < 1000 ∧ isHand hd ∧
  ∀ r us H', Same H H' → H r = none → H' r = some (.tup us) → CallsAt K H' us (callsPl pl hd) → Q (.ref r) H'
theorem ok_calls_in {pC fA f : Addr} {fdA fd : FuncData} (F : Fun K "calls_in" "calls_in" s_calls_in f fd) (T : Txt mg) (CA : CalledAt K w mg pC) (C_surface_of : Cal P w K mg base 3 "surface_of" fA fdA ["nodes"] (spSurfOf K)) :
    FnOk P w K mg base CX0 4 f fd ["nodes", "hand"] (spCallsIn K) := by
  refine F.ok sc_calls_in (fun vs H Q E h => ?_) (fun cdv A outer s H vs Q E hr h => ?_)
  · obtain ⟨p, xs, pl, hd, rfl, _⟩ := h
    rfl
  · obtain ⟨p, xs, pl, hd, rfl, hS, hN, hok, hl, hh, q⟩ := h
    refine ⟨_, (pss_one (ps_ret (pe_callTy call_tuple_of (by rfl) T.tuple_ (by decide +kernel) (pa_cons (pe_lc2 (own := [("place", 2), ("start", 3), ("index", 4)]) (vs1 := [4]) (g := gTup K 2 (gCons (gName 2) (gCons (gName 3) gNil))) (g1 := gName 4) (by rfl) sc_calls_in.nd (piL (K := K) rfl (pe_call C_surface_of.G hr (by rfl) C_surface_of.m C_surface_of.k C_surface_of.b .nil pass0 (pa_cons (pv 0) pa_nil))) (blkOk_by (by kernel_rfl)) (by decide)
      (fun _ _ _ _ _ => (pgT (K := K) rfl (by rfl) (pgs_cons (pg_name (i := 2) sc_calls_in.nd rfl (.inl rfl)) (pgs_cons (pg_name (i := 3) sc_calls_in.nd rfl (.inl rfl)) pgs_nil))))
      (fun _ _ _ _ _ => (pts_one (pt_cmpR op_eq (pe_ix (ixT (K := K) rfl) (pe_ix (ixT (K := K) rfl) (pv 0) (pv 3) (fun _ _ => rfl)) pe_int (fun _ _ => rfl)) (pe_ix (ixKd (K := K) (w := w) rfl rfl) (pe_glob (v := .ref pC) rfl CA.g rfl) (pv 1) (fun _ _ => rfl)) (nomark _))))
      (fun _ _ _ _ _ => (pi_range1 (by rfl) T.range_ (pa_cons (pe_ix (ixT (K := K) rfl) (pe_ix (ixT (K := K) rfl) (pv 0) (pv 3) (fun _ _ => rfl)) pe_int (fun _ _ => rfl)) pa_nil)))
      (fun _ _ _ _ _ => (pg_name (i := 4) sc_calls_in.nd rfl (.inl rfl))) (fun _ _ _ _ _ => pts_nil) (fun _ _ _ _ _ => (pe_tup (pa_cons (pv 2) (pa_cons (pv 4) pa_nil))))) pa_nil)))), ?_⟩
    refine ⟨_, rfl, p, xs, pl, rfl, hS, hN, hok, hl, fun l us H1 s1 n1 e1 F1 => ?_⟩
    refine ⟨l, rfl, ⟨us, SqL.of e1⟩, fun D nD => ?_⟩
    have nDH : H D = none := s1.free nD
    have hul := F1.length
    have hpl := pathsK_len (ks := open2) pl
    have hx := hN.length
    have nlD : l ≠ D := ne_of_none e1 nD
    have hps := paths_subs hok
    have hlen := Paired.length hps
    refine lc2L (K := K) (a := l) (xs := us) (fun j acc H2 => Tk H1 H2 ∧ H2 l = some (.lst us) ∧ Same H H2 ∧ acc.length ≤ j * 1000 ∧ CallsAt K H2 acc (((subsP pl).take j).flatMap (callsOf hd))) ⟨Tk.new nD, by rw [upd_ne nlD]; exact e1, s1.trans (same_new nD), Nat.zero_le _, .nil⟩ (fun j acc H2 h => SqL.of h.2.1) ?_ ?_
    · rintro j x acc H2 hx2 e ⟨t2, el, s2, hal, hP⟩
      obtain ⟨a, b, ns, o, rfl, hk, ha, hb⟩ := F1.get hx2
      have hj := (List.getElem?_eq_some_iff.mp hx2).1
      obtain ⟨⟨pa, z⟩, hz, e1', e2', rest, e3'⟩ := paired_at hps hk
      obtain ⟨c, k, u, hxa, hna, hc, more, hmore⟩ := head_at hN e3'
      have hS2 := (stk s2).seq hS
      have hc2 := (stk s2).seq hc
      have hkk : k = kindPl z := kind_head hmore
      refine ⟨a, _, rfl, t2.seq ha, rfl, _, _, rfl, _, _, rfl, rfl, rfl, ?_⟩
      have stp : ((subsP pl).take (j + 1)).flatMap (callsOf hd) = ((subsP pl).take j).flatMap (callsOf hd) ++ callsOf hd (pa, z) := by
        rw [List.take_add_one, hz, List.flatMap_append]
        congr 1
        show [(pa, z)].flatMap (callsOf hd) = _
        rw [List.flatMap_cons, List.flatMap_nil, List.append_nil]
      refine ⟨_, rfl, _, rfl, p, xs, _, .ref c, rfl, rfl, hS2, atI_nat hxa, c, _, 0, .str k, rfl, rfl, hc2, rfl, _, rfl, pC, hd, _, rfl, rfl, CA.at hh, rfl, _, rfl, ?_⟩
      by_cases ek : k = choiceOf hd
      · refine iteT' (decide_eq_true (by rw [ek])) ?_
        obtain ⟨ps, rfl⟩ := choice_isnode e2' hh (hkk.symm.trans ek)
        rw [nodesOf] at hmore
        cases hmore
        have hps3 : ps.length < 1000 := by
          have h1 := congrArg List.length e3'
          rw [List.length_drop, List.length_append, nodesOf, List.length_cons] at h1
          have := nodes_ge ps
          omega
        have e4 : ns = pa := e1'
        subst e4
        have hco : callsOf hd (ns, .node (choiceOf hd) ps) = (List.range ps.length).map fun i => (ns, i) := if_pos rfl
        refine ⟨_, rfl, _, rfl, p, xs, _, .ref c, rfl, rfl, hS2, atI_nat hxa, c, _, 1, .int (ps.length : Int), rfl, rfl, hc2, rfl, ?_⟩
        refine ⟨_, rfl, by omega, by omega, ?_⟩
        refine lc2_inR (lo := 0) (n := ps.length) (i := 4) (fun i acc3 H3 => Tk H1 H3 ∧ H3 l = some (.lst us) ∧ Same H H3 ∧ acc3.length ≤ j * 1000 + i ∧ CallsAt K H3 acc3 (((subsP pl).take j).flatMap (callsOf hd) ++ (List.range i).map fun i => (ns, i))) ⟨acc, e, t2, el, s2, by omega, by rw [List.range_zero, List.map_nil, List.append_nil]; exact hP⟩ ?_ ?_
        · rintro i acc3 H3 hi e3 ⟨t3, el3, s3, hal3, hP3⟩
          refine yesT ⟨_, rfl, _, rfl, lenOk 2, fun t nt => ?_⟩
          have kn := Tk.new (o := .tup [.ref b, .int (0 + (i : Int))]) nt
          have nlt : l ≠ t := ne_of_none el3 nt
          have e4 : (upd H3 t (.tup [.ref b, .int (0 + (i : Int))])) D = some (.lst acc3) := by
            rw [upd_ne (ne_of_none e3 nt)]
            exact e3
          have kp := Tk.put (ys := acc3 ++ [V.ref t]) e4
          have hb4 := kp.seq (kn.seq (t3.seq hb))
          refine NxK.mk (small (by omega)) e4 ⟨(t3.trans kn).trans kp, ?_, fun b' o' eb => ?_, by rw [List.length_append]; show acc3.length + 1 ≤ _; omega, ?_⟩
          · rw [upd_ne nlD, upd_ne nlt]
            exact el3
          · rw [upd_ne (ne_of_none eb nDH), upd_ne (ne_of_none (s3 _ _ eb) nt)]
            exact s3 b' o' eb
          · rw [List.range_succ, List.map_append, ← List.append_assoc]
            refine CallsAt.snoc ⟨t, b, rfl, kp.seq (SqT.of (by rw [upd_same, Int.zero_add])), hb4⟩ ((hP3.tk kn).tk kp)
        · rintro acc3 H3 e3 ⟨t3, el3, s3, hal3, hP3⟩
          refine ⟨acc3, e3, t3, el3, s3, by omega, ?_⟩
          rw [stp, hco]
          exact hP3
      · refine iteF' (decide_eq_false fun z => ek (by injection z)) ⟨acc, e, t2, el, s2, by omega, ?_⟩
        rw [stp, show callsOf hd (pa, z) = [] from if_neg (by rw [← hkk]; exact ek), List.append_nil]
        exact hP
    · rintro acc H2 e ⟨t2, el, s2, hal, hP⟩
      rw [List.take_of_length_le (by omega)] at hP
      refine ⟨D, acc, rfl, .inl ⟨SqL.of e, fun r nr => ?_⟩⟩
      exact q r acc _ (s2.trans (same_new nr)) (s2.free nr) upd_same (hP.tk (Tk.new nr))
end
end Eh
set_option Elab.async false
set_option linter.all false
set_option maxRecDepth 100000
set_option maxHeartbeats 4000000
namespace Eh
open PySem PySem.Spec PyProof.Rows L2
theorem hands2_has {hd : Str} (h : isHand hd) : inV (.str hd) (hands2.map V.str) = true := by
  rcases h with rfl | rfl <;> decide +kernel
/-- a value as a call: none of a hand's, or one at a place of a choice -/
theorem handPl_cases (pl : Pl) (c : Option (Option (List V) × V)) : handPl pl c = .non ∨ ∃ (pa : List Nat) (i : Nat) (k : Str) (ps : List Pl) (q : Pl), c = some (some (pa.map natV), .int (i : Nat)) ∧ (pa, .node k ps) ∈ subsP pl ∧ ps[i]? = some q ∧ ((k = "yours" ∧ handPl pl c = .str "caller") ∨ (k = "mine" ∧ handPl pl c = .str "keeper")) := by
  match c with
  | none => exact .inl rfl
  | some (none, i) => exact .inl rfl
  | some (some zs, i) =>
    cases hw : walkV open2 pl zs with
    | none => exact .inl (handPl_none hw)
    | some y =>
      obtain ⟨o, t⟩ := y
      rw [handPl_some hw]
      cases t with
      | leaf k u => exact .inl rfl
      | node k ps =>
        rw [handAt_node]
        by_cases hi : idxV i (ps.length : Int) = true
        · rw [if_pos hi]
          obtain ⟨j, rfl, hj⟩ := idxV_nat hi
          obtain ⟨pa, rfl, hm⟩ := place_walk hw
          by_cases k1 : k = "yours"
          · rw [if_pos k1]
            exact .inr ⟨pa, j, k, ps, ps[j], rfl, hm, List.getElem?_eq_getElem hj, .inl ⟨k1, rfl⟩⟩
          · rw [if_neg k1]
            by_cases k2 : k = "mine"
            · rw [if_pos k2]
              exact .inr ⟨pa, j, k, ps, ps[j], rfl, hm, List.getElem?_eq_getElem hj, .inr ⟨k2, rfl⟩⟩
            · rw [if_neg k2]
              exact .inl rfl
        · rw [if_neg hi]
          exact .inl rfl
theorem handPl_call {pl : Pl} {pa : List Nat} {ps : List Pl} {i : Nat} {hd : Str} (hk : plOk pl = true) (hl : (nodesOf pl).length < 1000) (hh : isHand hd) (hm : (pa, .node (choiceOf hd) ps) ∈ subsP pl) (hi : i < ps.length) :
    handPl pl (some (some (pa.map natV), .int (i : Nat))) = .str hd := by
  obtain ⟨o, rest, e, e2, _⟩ := walk_place hk hl hm
  rw [handPl_some e, handAt_node]
  have h2 : ps.length < 1000 := by
    have h1 := congrArg List.length e2
    rw [List.length_drop, List.length_append, nodesOf, List.length_cons] at h1
    have := nodes_ge ps
    omega
  rw [if_pos (idxV_small hi (by omega))]
  rcases hh with rfl | rfl
  · rw [show choiceOf "caller" = "yours" from if_pos rfl, if_pos rfl]
  · rw [show choiceOf "keeper" = "mine" from if_neg (by decide +kernel), if_neg (by decide +kernel), if_pos rfl]
section
variable {P : Program} {w : World} {K : PySem.W.Frag} {mg : Str → Option Value} {base : Heap}
def spHand : Sp := fun vs H Q _ => ∃ v, vs = [v] ∧ Sorted5 H v ∧ Q (.bl (inV v (hands2.map V.str))) H
theorem ok_is_hand {f p : Addr} {fd : FuncData} (F : Fun K "is_hand" "is_hand" s_is_hand f fd) (T : Txt mg) (hh : TupAt K mg "HANDS" p hands2) : FnOk P w K mg base CX0 1 f fd ["value"] spHand := by
  obtain ⟨h1, h2⟩ := hh
  refine F.ok sc_is_hand (fun vs H Q E h => ?_) (fun cdv A outer s H vs Q E hr h => ?_)
  · obtain ⟨v, rfl, _⟩ := h
    rfl
  · obtain ⟨v, rfl, hk, q⟩ := h
    refine ⟨_, (pss_one (ps_ret (pe_cmpR (inS (K := K) rfl (hu_of hr)) (pv 0) (pe_glob (v := .ref p) rfl h1 rfl) (by rfl)))), ?_⟩
    exact ⟨_, rfl, p, hands2, rfl, h2 H, hk, q⟩
def spCheckHand (CO : Addr) : Sp := fun vs H Q E => ∃ v, vs = [v] ∧ Sorted5 H v ∧ (inV v (hands2.map V.str) = true → Q .non H) ∧ (inV v (hands2.map V.str) = false → E (.ref CO) none H)
theorem ok_check_hand {CO fH f : Addr} {fdH fd : FuncData} (F : Fun K "check_hand" "check_hand" s_check_hand f fd) (RO : ErrC K mg "InvalidOperation" CO) (C_is_hand : Cal P w K mg base 1 "is_hand" fH fdH ["value"] spHand) :
    FnOk P w K mg base (L2.CX P w) 2 f fd ["value"] (spCheckHand CO) := by
  refine F.okX sc_check_hand (fun vs H Q E h => ?_) (fun cdv A outer s H vs Q E hr h => ?_)
  · obtain ⟨v, rfl, _⟩ := h
    rfl
  · obtain ⟨v, rfl, hk, q1, q2⟩ := h
    refine ⟨_, (pss_one (ps_if (pt_not (pt_val (pe_call C_is_hand.G hr (by rfl) C_is_hand.m C_is_hand.k C_is_hand.b .nil pass0 (pa_cons (pv 0) pa_nil))))
      (pss_one (ps_raise rfl (takes_of rfl rfl rfl rfl) (pmk_own PySem.F.excBase_ValueError RO.q RO.g RO.k (raises_own RO.b RO.t) rfl))) pss_nil)), ?_⟩
    refine ⟨_, rfl, v, rfl, hk, _, rfl, ?_⟩
    cases e : inV v (hands2.map V.str) with
    | false => exact iteT (q2 e)
    | true => exact iteF (q1 e)
def spHandCan (K : PySem.W.Frag) (CC : Addr) : Sp := fun vs H Q E => ∃ p xs pl v c, vs = [.ref p, v] ∧ SqT K H p xs ∧ NdsAt K H xs (nodesOf pl) ∧ plOk pl = true ∧ xs.length < 1000 ∧ CallV K H v c ∧ (handPl pl c ≠ .non → Q (handPl pl c) H) ∧ (handPl pl c = .non → E (.ref CC) none H)
theorem ok_hand_can {CC fA f : Addr} {fdA fd : FuncData} (F : Fun K "_hand_that_can" "_hand_that_can" s__hand_that_can f fd) (RC : ErrC K mg "InvalidCall" CC) (C_hand_in : Cal P w K mg base 5 "hand_in" fA fdA ["nodes", "value"] (spHandIn K)) :
    FnOk P w K mg base (L2.CX P w) 6 f fd ["nodes", "call"] (spHandCan K CC) := by
  refine F.okX sc__hand_that_can (fun vs H Q E h => ?_) (fun cdv A outer s H vs Q E hr h => ?_)
  · obtain ⟨p, xs, pl, v, c, rfl, _⟩ := h
    rfl
  · obtain ⟨p, xs, pl, v, c, rfl, hS, hN, hok, hl, hV, q1, q2⟩ := h
    refine ⟨_, (pss_cons (ps_set (i := 2) sc__hand_that_can.nd rfl (.inl rfl) (pe_call C_hand_in.G hr (by rfl) C_hand_in.m C_hand_in.k C_hand_in.b .nil pass0 (pa_cons (pv 0) (pa_cons (pv 1) pa_nil))))
      (pss_cons (ps_if (pt_cmpR op_isN (pv 2) pe_non (nomark _))
        (pss_one (ps_raise rfl (takes_of rfl rfl rfl rfl) (pmk_own PySem.F.excBase_ValueError RC.q RC.g RC.k (raises_own RC.b RC.t) rfl))) pss_nil)
      (pss_one (ps_ret (pv 2))))), ?_⟩
    refine ⟨_, rfl, _, rfl, p, xs, pl, v, c, rfl, hS, hN, hok, hl, hV, ?_⟩
    refine ⟨_, rfl, rfl, _, rfl, ?_⟩
    by_cases e : handPl pl c = .non
    · exact iteT' (decide_eq_true e) (q2 e)
    · exact iteF' (decide_eq_false e) ⟨_, rfl, q1 e⟩
def spCalls (K : PySem.W.Frag) (C : Addr) : Sp := fun vs H Q _ => ∃ a pl hd, vs = [.ref a, .str hd] ∧ PrG K C H a (nodesOf pl) ∧ plOk pl = true ∧ (nodesOf pl).length < 1000 ∧ isHand hd ∧ ∀ r us H', Same H H' → H r = none → H' r = some (.tup us) → CallsAt K H' us (callsPl pl hd) → Q (.ref r) H'
theorem ok_calls {C CE CO fI fL fK fH fS pN fN f : Addr} {fdK fdH fdS fdN fd : FuncData} (F : Fun K "calls" "calls" s_calls f fd) (PC : PromC K mg C fI fL)
    (GK : FnOk P w K mg base (L2.CX P w) 1 fK fdK ["value"] (spCheckP K C CE)) (mK : mg "check_promise" = some (.ref fK)) (kK : PySem.W.keepIn K (.ref fK) = true) (bK : Binds K fdK ["value"] [])
    (GH : FnOk P w K mg base (L2.CX P w) 2 fH fdH ["value"] (spCheckHand CO)) (mH : mg "check_hand" = some (.ref fH)) (kH : PySem.W.keepIn K (.ref fH) = true) (bH : Binds K fdH ["value"] [])
    (C_calls_in : Cal P w K mg base 4 "calls_in" fS fdS ["nodes", "hand"] (spCallsIn K)) (PN : PropC P w K mg base C "nodes" 1 (spNodesP K C) pN fN fdN) :
    FnOk P w K mg base (L2.CX P w) 5 f fd ["promise", "hand"] (spCalls K C) := by
  refine F.okX sc_calls (fun vs H Q E h => ?_) (fun cdv A outer s H vs Q E hr h => ?_)
  · obtain ⟨a, pl, hd, rfl, _⟩ := h
    rfl
  · obtain ⟨a, pl, hd, rfl, pr, hok, hl, hh, q⟩ := h
    obtain ⟨dx, p, xs, ea, hs, hN, g⟩ := id pr
    have hr2 := hr.mono (j := 2) (by omega)
    have hr1 := hr.mono (j := 1) (by omega)
    refine ⟨_, (pss_cons (ps_expr (pe_callS GK hr1 (by rfl) mK kK bK (fun σ => passAt (takes_of rfl rfl rfl rfl) σ) (pa_cons (pv 0) pa_nil)))
      (pss_cons (ps_expr (pe_callS GH hr2 (by rfl) mH kH bH (fun σ => passAt (takes_of rfl rfl rfl rfl) σ) (pa_cons (pv 1) pa_nil)))
      (pss_one (ps_ret (pe_call C_calls_in.G hr (by rfl) C_calls_in.m C_calls_in.k C_calls_in.b .nil pass0 (pa_cons (pe_prop (pv 0) PC.cl PN.p PN.ok hr2 PN.b .nil pass0 rfl) (pa_cons (pv 1) pa_nil))))))), ?_⟩
    refine ⟨_, rfl, .ref a, rfl, .inl ⟨a, dx, _, rfl, ea, ?_⟩⟩
    refine ⟨_, rfl, .str hd, rfl, .inl rfl, fun _ => ?_, fun z => by rw [hands2_has hh] at z; cases z⟩
    refine ⟨_, rfl, a, dx, _, rfl, ea, a, dx, _, p, rfl, ea, rfl, _, rfl, ?_⟩
    exact ⟨p, xs, pl, hd, rfl, hs, hN, hok, by rw [hN.length]; exact hl, hh, q⟩
def spIsCall (K : PySem.W.Frag) (C : Addr) : Sp := fun vs H Q _ => ∃ a pl v c, vs = [.ref a, v] ∧ PrG K C H a (nodesOf pl) ∧ plOk pl = true ∧ (nodesOf pl).length < 1000 ∧ CallV K H v c ∧ Q (.bl (!decide (handPl pl c = .non))) H
theorem ok_is_call {C CE fI fL fK fS pN fN f : Addr} {fdK fdS fdN fd : FuncData} (F : Fun K "is_call" "is_call" s_is_call f fd) (PC : PromC K mg C fI fL)
    (GK : FnOk P w K mg base (L2.CX P w) 1 fK fdK ["value"] (spCheckP K C CE)) (mK : mg "check_promise" = some (.ref fK)) (kK : PySem.W.keepIn K (.ref fK) = true) (bK : Binds K fdK ["value"] [])
    (C_hand_in : Cal P w K mg base 5 "hand_in" fS fdS ["nodes", "value"] (spHandIn K)) (PN : PropC P w K mg base C "nodes" 1 (spNodesP K C) pN fN fdN) :
    FnOk P w K mg base (L2.CX P w) 6 f fd ["promise", "value"] (spIsCall K C) := by
  refine F.okX sc_is_call (fun vs H Q E h => ?_) (fun cdv A outer s H vs Q E hr h => ?_)
  · obtain ⟨a, pl, v, c, rfl, _⟩ := h
    rfl
  · obtain ⟨a, pl, v, c, rfl, pr, hok, hl, hV, q⟩ := h
    obtain ⟨dx, p, xs, ea, hs, hN, g⟩ := id pr
    have hr2 := hr.mono (j := 2) (by omega)
    have hr1 := hr.mono (j := 1) (by omega)
    refine ⟨_, (pss_cons (ps_expr (pe_callS GK hr1 (by rfl) mK kK bK (fun σ => passAt (takes_of rfl rfl rfl rfl) σ) (pa_cons (pv 0) pa_nil)))
      (pss_one (ps_ret (pe_cmpR op_notN (pe_call C_hand_in.G hr (by rfl) C_hand_in.m C_hand_in.k C_hand_in.b .nil pass0 (pa_cons (pe_prop (pv 0) PC.cl PN.p PN.ok hr2 PN.b .nil pass0 rfl) (pa_cons (pv 1) pa_nil))) pe_non (nomark _))))), ?_⟩
    refine ⟨_, rfl, .ref a, rfl, .inl ⟨a, dx, _, rfl, ea, ?_⟩⟩
    refine ⟨_, rfl, a, dx, _, rfl, ea, a, dx, _, p, rfl, ea, rfl, _, rfl, ?_⟩
    exact ⟨p, xs, pl, v, c, rfl, hs, hN, hok, by rw [hN.length]; exact hl, hV, rfl, q⟩
def spHandOf (K : PySem.W.Frag) (C CC : Addr) : Sp := fun vs H Q E => ∃ a pl v c, vs = [.ref a, v] ∧ PrG K C H a (nodesOf pl) ∧ plOk pl = true ∧ (nodesOf pl).length < 1000 ∧ CallV K H v c ∧ (handPl pl c ≠ .non → Q (handPl pl c) H) ∧ (handPl pl c = .non → E (.ref CC) none H)
theorem ok_hand_of {C CE CC fI fL fK fS pN fN f : Addr} {fdK fdS fdN fd : FuncData} (F : Fun K "hand_of" "hand_of" s_hand_of f fd) (PC : PromC K mg C fI fL)
    (GK : FnOk P w K mg base (L2.CX P w) 1 fK fdK ["value"] (spCheckP K C CE)) (mK : mg "check_promise" = some (.ref fK)) (kK : PySem.W.keepIn K (.ref fK) = true) (bK : Binds K fdK ["value"] [])
    (GS : FnOk P w K mg base (L2.CX P w) 6 fS fdS ["nodes", "call"] (spHandCan K CC)) (mS : mg "_hand_that_can" = some (.ref fS)) (kS : PySem.W.keepIn K (.ref fS) = true) (bS : Binds K fdS ["nodes", "call"] []) (PN : PropC P w K mg base C "nodes" 1 (spNodesP K C) pN fN fdN) :
    FnOk P w K mg base (L2.CX P w) 7 f fd ["promise", "call"] (spHandOf K C CC) := by
  refine F.okX sc_hand_of (fun vs H Q E h => ?_) (fun cdv A outer s H vs Q E hr h => ?_)
  · obtain ⟨a, pl, v, c, rfl, _⟩ := h
    rfl
  · obtain ⟨a, pl, v, c, rfl, pr, hok, hl, hV, q1, q2⟩ := h
    obtain ⟨dx, p, xs, ea, hs, hN, g⟩ := id pr
    have hr2 := hr.mono (j := 2) (by omega)
    have hr1 := hr.mono (j := 1) (by omega)
    refine ⟨_, (pss_cons (ps_expr (pe_callS GK hr1 (by rfl) mK kK bK (fun σ => passAt (takes_of rfl rfl rfl rfl) σ) (pa_cons (pv 0) pa_nil)))
      (pss_one (ps_ret (pe_callS GS hr (by rfl) mS kS bS (fun σ => passAt (takes_of rfl rfl rfl rfl) σ) (pa_cons (pe_prop (pv 0) PC.cl PN.p PN.ok hr2 PN.b .nil pass0 rfl) (pa_cons (pv 1) pa_nil)))))), ?_⟩
    refine ⟨_, rfl, .ref a, rfl, .inl ⟨a, dx, _, rfl, ea, ?_⟩⟩
    refine ⟨_, rfl, a, dx, _, rfl, ea, a, dx, _, p, rfl, ea, rfl, _, rfl, ?_⟩
    exact ⟨p, xs, pl, v, c, rfl, hs, hN, hok, by rw [hN.length]; exact hl, hV, q1, q2⟩
/-- the promise that comes of a call -/
def spCalled (K : PySem.W.Frag) (C CC : Addr) : Sp := fun vs H Q E => ∃ a pl v c, vs = [.ref a, v] ∧ PrG K C H a (nodesOf pl) ∧ plOk pl = true ∧ (nodesOf pl).length < 1000 ∧ CallV K H v c ∧
  (∀ (pa : List Nat) (i : Nat) (k : Str) (ps : List Pl) (q : Pl), c = some (some (pa.map natV), .int (i : Nat)) → (pa, .node k ps) ∈ subsP pl → ps[i]? = some q → (k = "yours" ∨ k = "mine") → okB (nodesOf (putP pl pa q)) = true ∧ ∀ x H', Same H H' → H x = none → PrG K C H' x (nodesOf (putP pl pa q)) → Q (.ref x) H') ∧
  (handPl pl c = .non → E (.ref CC) none H)
theorem ok_called {C CE CC fI fL fK fS fA pN fN f : Addr} {fdK fdI fdS fdA fdN fd : FuncData} (F : Fun K "called" "called" s_called f fd) (PC : PromC K mg C fI fL)
    (GK : FnOk P w K mg base (L2.CX P w) 1 fK fdK ["value"] (spCheckP K C CE)) (mK : mg "check_promise" = some (.ref fK)) (kK : PySem.W.keepIn K (.ref fK) = true) (bK : Binds K fdK ["value"] [])
    (GS : FnOk P w K mg base (L2.CX P w) 6 fS fdS ["nodes", "call"] (spHandCan K CC)) (mS : mg "_hand_that_can" = some (.ref fS)) (kS : PySem.W.keepIn K (.ref fS) = true) (bS : Binds K fdS ["nodes", "call"] [])
    (C_called_in : Cal P w K mg base 5 "called_in" fA fdA ["nodes", "call"] (spCalledIn K)) (PN : PropC P w K mg base C "nodes" 1 (spNodesP K C) pN fN fdN)
    (GI : FnOk P w K mg base (L2.CX P w) 4 fI fdI ["self", "nodes"] (spInitE K C CE)) (bI : Binds K fdI ["self", "nodes"] []) :
    FnOk P w K mg base (L2.CX P w) 7 f fd ["promise", "call"] (spCalled K C CC) := by
  refine F.okX sc_called (fun vs H Q E h => ?_) (fun cdv A outer s H vs Q E hr h => ?_)
  · obtain ⟨a, pl, v, c, rfl, _⟩ := h
    rfl
  · obtain ⟨a, pl, v, c, rfl, pr, hok, hl, hV, q1, q2⟩ := h
    obtain ⟨dx, p, xs, ea, hs, hN, g⟩ := id pr
    have hr5 := hr.mono (j := 5) (by omega)
    have hr4 := hr.mono (j := 4) (by omega)
    have hr2 := hr.mono (j := 2) (by omega)
    have hr1 := hr.mono (j := 1) (by omega)
    refine ⟨_, (pss_cons (ps_expr (pe_callS GK hr1 (by rfl) mK kK bK (fun σ => passAt (takes_of rfl rfl rfl rfl) σ) (pa_cons (pv 0) pa_nil)))
      (pss_cons (ps_expr (pe_callS GS hr (by rfl) mS kS bS (fun σ => passAt (takes_of rfl rfl rfl rfl) σ) (pa_cons (pe_prop (pv 0) PC.cl PN.p PN.ok hr2 PN.b .nil pass0 rfl) (pa_cons (pv 1) pa_nil))))
      (pss_one (ps_ret (pe_makeS PC.mkC GI hr5 (by rfl) PC.g bI (fun σ => passAt (takes_of rfl rfl rfl rfl) σ) (pa_cons (pe_call C_called_in.G hr5 (by rfl) C_called_in.m C_called_in.k C_called_in.b .nil pass0 (pa_cons (pe_prop (pv 0) PC.cl PN.p PN.ok hr2 PN.b .nil pass0 rfl) (pa_cons (pv 1) pa_nil))) pa_nil)))))), ?_⟩
    refine ⟨_, rfl, .ref a, rfl, .inl ⟨a, dx, _, rfl, ea, ?_⟩⟩
    refine ⟨_, rfl, a, dx, _, rfl, ea, a, dx, _, p, rfl, ea, rfl, _, rfl, ?_⟩
    refine ⟨p, xs, pl, v, c, rfl, hs, hN, hok, by rw [hN.length]; exact hl, hV, fun hne => ?_, q2⟩
    rcases handPl_cases pl c with h | ⟨pa, i, k, ps, q0, rfl, hm, hq, hk⟩
    · exact absurd h hne
    obtain ⟨o, rest, ew, e2, e3⟩ := walk_place hok hl hm
    obtain ⟨ob, qm⟩ := q1 pa i k ps q0 rfl hm hq (hk.imp (·.1) (·.1))
    cases hV with
    | pair ht hp hi =>
      rename_i t pp
      refine ⟨_, rfl, a, dx, _, rfl, ea, a, dx, _, p, rfl, ea, rfl, _, rfl, ?_⟩
      refine ⟨p, xs, pl, t, pp, i, _, o, k, ps, rest, rfl, hs, hN, hok, by rw [hN.length]; exact hl, ht, hp, ew, e2, q0, hq, fun r us H1 s1 hr1 N1 => ?_⟩
      rw [← e3 q0] at N1
      refine fun x dx nx nd ne => ?_
      refine makeS_steps nx nd hr1 N1 (fun n hn => ?_) (fun _ H4 s4 pr4 => qm x H4 (s1.trans s4) (s1.free nx) pr4) fun z => by rw [ob] at z; cases z
      rw [e3 q0, List.mem_append, List.mem_append] at hn
      have hd : ∀ n ∈ nodesOf (.node k ps) ++ rest, n ∈ nodesOf pl := fun n hn => List.mem_of_mem_drop (i := o) (by rw [e2]; exact hn)
      rcases hn with hn | hn | hn
      · exact g n (List.mem_of_mem_take hn)
      · refine g n (hd n (List.mem_append_left _ ?_))
        rw [nodesOf, nodesAll_split hq]
        exact List.mem_cons_of_mem _ (List.mem_append_right _ (List.mem_append_left _ hn))
      · exact g n (hd n (List.mem_append_right _ hn))
end
end Eh
set_option Elab.async false
set_option linter.all false
set_option maxRecDepth 100000
set_option maxHeartbeats 4000000
namespace Eh
open PySem PySem.Spec PyProof.Rows L2
abbrev CKey := List Nat × Nat
def ckN (c : CKey) : NestedKey := .tup [.tup (c.1.map fun (n : Nat) => NestedKey.num (n : Int)), .num (c.2 : Int)]
theorem nums_inj : ∀ {a b : List Nat}, (a.map fun (n : Nat) => NestedKey.num (n : Int)) = (b.map fun (n : Nat) => NestedKey.num (n : Int)) → a = b
  | [], [], _ => rfl
  | [], _ :: _, h => by cases h
  | _ :: _, [], h => by cases h
  | x :: a, y :: b, h => by
    injection h with h1 h2
    injection h1 with h1
    rw [nums_inj h2, Int.ofNat.inj h1]
theorem ckN_inj {a b : CKey} (h : ckN a = ckN b) : a = b := by
  unfold ckN at h
  injection h with h
  injection h with h1 h2
  injection h1 with h1
  injection h2 with h2
  injection h2 with h2
  obtain ⟨a1, a2⟩ := a
  obtain ⟨b1, b2⟩ := b
  have e2 : a2 = b2 := Int.ofNat.inj h2
  have e1 : a1 = b1 := nums_inj h1
  rw [e1, e2]
theorem depthAll_nums : ∀ ns : List Nat, NestedKey.depthAll (ns.map fun (n : Nat) => NestedKey.num (n : Int)) = 0
  | [] => by simp [NestedKey.depthAll]
  | n :: ns => by
    rw [List.map_cons, NestedKey.depthAll, depthAll_nums ns]
    simp [NestedKey.depth]
theorem ckN_depth (c : CKey) : (ckN c).depth ≤ 8 := by
  unfold ckN
  simp [NestedKey.depth, NestedKey.depthAll, depthAll_nums]
/-- an entry: the key, where its tuple stands, the value -/
abbrev CEnt := CKey × Addr × V
def CRel (p : CEnt) (q : NestedKey × Addr × Value) : Prop := ckN p.1 = q.1 ∧ p.2.1 = q.2.1 ∧ RelV p.2.2 q.2.2
def DcAt (P : Program) (w : World) (d : Addr) (L : List CEnt) (h : Heap) : Prop := L.length ≤ sizeLine ∧ (d == sysModules) = false ∧ (L.map (·.1)).Nodup ∧ ∃ xs, Paired CRel L xs ∧ ∃ o es ep, h.get? d = some o ∧ o.ExactDict ∧ o.data = .dict es ep ∧ es.toList = xs.map (entryOfKey (nestedKind P w))
/-- the dict stands at d -/
def DcO (P : Program) (w : World) (d : Addr) (L : List CEnt) : HO := .ext (DcAt P w d L)
theorem dc_ok {P : Program} {w : World} {H : Hp} {h : Heap} {d : Addr} {L : List CEnt} (a : DcAt P w d L h) : ObjOk P w H h d (DcO P w d L) := by
  have ⟨_, _, _, _, _, o, _, _, ho, _⟩ := a
  refine ⟨a, ⟨o, ho⟩, fun h1 h2 p k => ?_⟩
  obtain ⟨z, hs, nd, xs, r, o, es, ep, ho, hx, hd, he⟩ := p
  exact ⟨z, hs, nd, xs, r, o, es, ep, k _ ho, hx, hd, he⟩
/-- where the keys' tuples stand -/
def KeysAt (K : PySem.W.Frag) (H : Hp) (L : List CEnt) : Prop := ∀ e ∈ L, CallAt K H (.ref e.2.1) e.1
theorem KeysAt.tk {K : PySem.W.Frag} {H H' : Hp} {L : List CEnt} (h : KeysAt K H L) (t : Tk H H') : KeysAt K H' L := fun e he => (h e he).tk t
/-- the value at a key -/
def valC (L : List CEnt) (c : CKey) : Option V := (L.find? fun e => decide (e.1 = c)).map (·.2.2)
section
variable {X : Cx} {pins : List (Addr × Obj)} {σ : L2.St} {H : Hp} {s : Shared}
theorem nested_nums {h : Heap} : ∀ {ns : List Nat} {us : List Value}, Vals (ns.map natV) us → NestedAll h (ns.map fun (n : Nat) => NestedKey.num (n : Int)) us
  | [], us, r => by
    cases r
    exact .nil
  | n :: ns, us, r => by
    cases r with
    | cons a t =>
      obtain ⟨tk, rfl⟩ := a
      exact .cons (.int _ _) (nested_nums t)
theorem ck_is (I : Inv X pins σ H s) {a : Addr} {c : CKey} (h : CallAt X.K H (.ref a) c) : (nestedKind X.prog X.w).is s.heap (ckN c) a := by
  obtain ⟨a', b, e, h1, h2⟩ := h
  cases e
  obtain ⟨its, rv, ⟨o, ho, hc, n, hd⟩, _⟩ := I.tuple h1
  obtain ⟨its2, rv2, ⟨o2, ho2, hc2, n2, hd2⟩, _⟩ := I.tuple h2
  obtain ⟨u, y, rfl, ru, ry⟩ := vals2 rv
  obtain rfl : u = Value.ref b := ru
  obtain ⟨tk, rfl⟩ := ry
  exact ⟨.tup ho hc hd (.cons (.tup ho2 hc2 hd2 (nested_nums (by simpa using rv2))) (.cons (.int _ _) .nil)), ckN_depth c⟩
theorem crel_len {L : List CEnt} {xs : List (NestedKey × Addr × Value)} (r : Paired CRel L xs) : L.length = xs.length := Paired.length r
theorem crel_keys {L : List CEnt} {xs : List (NestedKey × Addr × Value)} (r : Paired CRel L xs) : xs.map (·.1) = L.map fun e => ckN e.1 := by
  induction r with
  | nil => rfl
  | cons a t ih => rw [List.map_cons, List.map_cons, ih, a.1]
theorem crel_nodup {L : List CEnt} {xs : List (NestedKey × Addr × Value)} (r : Paired CRel L xs) (nd : (L.map (·.1)).Nodup) : (xs.map (·.1)).Nodup := by
  rw [crel_keys r, show (L.map fun e => ckN e.1) = (L.map (·.1)).map ckN from by rw [List.map_map]; rfl]
  exact List.Pairwise.map ckN (fun a b h e => h (ckN_inj e)) nd
/-- the dict, as the library has it -/
theorem dc_full (I : Inv X pins σ H s) {d : Addr} {L : List CEnt} (h : Rd H d (DcO X.prog X.w d L)) (kk : KeysAt X.K H L) :
    L.length ≤ sizeLine ∧ (d == sysModules) = false ∧ (L.map (·.1)).Nodup ∧ ∃ xs, Paired CRel L xs ∧ s.heap.DictOfH (nestedKind X.prog X.w) d xs := by
  obtain ⟨⟨z, hs, nd, xs, r, o, es, ep, ho, hx, hd, he⟩, _⟩ := (show ObjOk X.prog X.w H s.heap d (DcO X.prog X.w d L) from h.ok I.hok)
  refine ⟨z, hs, nd, xs, r, o, es, ep, ho, hx, hd, he, fun x hm => ?_, crel_nodup r nd⟩
  have all : ∀ {l : List CEnt} {m : List (NestedKey × Addr × Value)}, Paired CRel l m → KeysAt X.K H l → ∀ x ∈ m, (nestedKind X.prog X.w).is s.heap x.1 x.2.1 := by
    intro l m q
    induction q with
    | nil => intro _ x hx; cases hx
    | cons a t ih =>
      intro k x hx
      rcases List.mem_cons.mp hx with rfl | hx
      · rw [← a.1, ← a.2.1]
        exact ck_is I (k _ List.mem_cons_self)
      · exact ih (fun e he => k e (List.mem_cons_of_mem _ he)) x hx
  exact all r kk x hm
theorem dc_at {P : Program} {w : World} {h : Heap} {d : Addr} {L : List CEnt} {xs : List (NestedKey × Addr × Value)} (z : L.length ≤ sizeLine) (hs : (d == sysModules) = false) (nd : (L.map (·.1)).Nodup) (r : Paired CRel L xs) (dd : h.DictOfH (nestedKind P w) d xs) : DcAt P w d L h := by
  obtain ⟨o, es, ep, ho, hx, hd, he, _⟩ := dd
  exact ⟨z, hs, nd, xs, r, o, es, ep, ho, hx, hd, he⟩
theorem crel_atKey {L : List CEnt} {xs : List (NestedKey × Addr × Value)} (r : Paired CRel L xs) (c : CKey) : (valC L c = none ∧ atKey xs (ckN c) = none) ∨ ∃ v q, valC L c = some v ∧ atKey xs (ckN c) = some q ∧ RelV v q.2 := by
  induction r with
  | nil => exact .inl ⟨rfl, rfl⟩
  | @cons a b as bs h t ih =>
    obtain ⟨h1, h2, h3⟩ := h
    by_cases e : a.1 = c
    · refine .inr ⟨a.2.2, b.2, ?_, ?_, h3⟩
      · unfold valC
        rw [List.find?_cons_of_pos (by simpa using e)]
        rfl
      · simp [atKey, ← h1, e]
    · have e' : ¬ b.1 = ckN c := fun z => e (ckN_inj (h1.trans z))
      have v1 : valC (a :: as) c = valC as c := by
        unfold valC
        rw [List.find?_cons_of_neg (by simpa using e)]
      have v2 : atKey (b :: bs) (ckN c) = atKey bs (ckN c) := by simp [atKey, e']
      rw [v1, v2]
      exact ih
theorem valC_none {L : List CEnt} {c : CKey} : valC L c = none ↔ c ∉ L.map (·.1) := by
  unfold valC
  rw [Option.map_eq_none_iff, List.find?_eq_none]
  constructor
  · intro h hm
    obtain ⟨e, he, ec⟩ := List.mem_map.mp hm
    exact h e he (by simpa using ec)
  · intro h e he hd
    exact h (List.mem_map.mpr ⟨e, he, by simpa using hd⟩)
theorem room9 {P : Program} {w : World} {A : Around} (hu : A.units + 9 < cLine) : (nestedKind P w).room A.in1 := by
  show A.units + 1 + 8 < cLine
  omega
def tDNewC (P : Program) (w : World) : TE := fun _ H Q => ∀ p, H p = none → Q (.ref p) (upd H p (DcO P w p []))
theorem pe_dnewC {pos : Pos} : PE X (.Dict [] [] pos) (tDNewC X.prog X.w) := ⟨fun pins s σ H Q I h => by
  refine wpAny_Dict_empty ⟨.ref s.heap.objs.size, _, I.laid (a := s.heap.objs.size) (o := DcO X.prog X.w s.heap.objs.size []) (t' := s.toks) (fun _ _ q => Heap.get?_push_of_some _ q) (Nat.le_refl _) (dc_ok ?_), rfl, h _ (I.hok.fresh (Nat.le_refl _))⟩
  exact ⟨Nat.zero_le _, beq_eq_false_iff_ne.mpr (Ne.symm (Nat.ne_of_lt I.big)), List.nodup_nil, [], .nil, _, #[], 0, Heap.get?_push_size _ rfl, ⟨rfl, rfl, rfl⟩, rfl, rfl⟩⟩
/-- a new key put in -/
def rSetC (K : PySem.W.Frag) (P : Program) (w : World) : TSet := fun o i v H Q => ∃ (a b : Addr) (L : List CEnt) (c : CKey), o = .ref a ∧ i = .ref b ∧ H a = some (DcO P w a L) ∧ KeysAt K H L ∧ CallAt K H (.ref b) c ∧ c ∉ L.map (·.1) ∧ L.length < sizeLine ∧ Q (upd H a (DcO P w a (L ++ [(c, b, v)])))
theorem crel_snoc {L : List CEnt} {xs : List (NestedKey × Addr × Value)} (r : Paired CRel L xs) {c : CKey} {b : Addr} {v : V} {u : Value} (rv : RelV v u) : Paired CRel (L ++ [(c, b, v)]) (xs ++ [(ckN c, b, u)]) := Paired.snoc r ⟨rfl, rfl, rv⟩
theorem stored_new {xs : List (NestedKey × Addr × Value)} {k : NestedKey} {a : Addr} {v : Value} (h : atKey xs k = none) : storedH xs k a v = xs ++ [(k, a, v)] := by
  unfold storedH
  rw [h]
  rfl
theorem dc_store {P : Program} {w : World} {h' : Heap} {a b : Addr} {L : List CEnt} {xs : List (NestedKey × Addr × Value)} {c : CKey} {v : V} {u : Value} (hz : L.length < sizeLine) (hs : (a == sysModules) = false) (nd : (L.map (·.1)).Nodup) (r : Paired CRel L xs) (hc : c ∉ L.map (·.1)) (rv : RelV v u)
    (dd : h'.DictOfH (nestedKind P w) a (storedH xs (ckN c) b u)) : DcAt P w a (L ++ [(c, b, v)]) h' := by
  have hno : atKey xs (ckN c) = none := by
    rcases crel_atKey r c with ⟨_, h⟩ | ⟨x, _, h, _⟩
    · exact h
    · rw [valC_none.mpr hc] at h
      cases h
  rw [stored_new hno] at dd
  refine dc_at (by rw [List.length_append]; exact hz) hs ?_ (crel_snoc r rv) dd
  rw [List.map_append]
  refine List.nodup_append.mpr ⟨nd, (List.nodup_cons.mpr ⟨List.not_mem_nil, List.nodup_nil⟩), fun x hx y hy e => ?_⟩
  have e : x = c := e.trans (by rw [List.mem_singleton.mp hy])
  exact hc (e ▸ hx)
theorem set_dictC (hu : X.A.units + 9 < cLine) : PSet X (rSetC X.K X.prog X.w) := by
  intro pins s σ H o i v ov iv u Q I ro ri rv h
  obtain ⟨a, b, L, c, rfl, rfl, ea, kk, hb, hc, hz, q⟩ := h
  obtain rfl : ov = Value.ref a := ro
  obtain rfl : iv = Value.ref b := ri
  obtain ⟨z, hs, nd, xs, r, dd⟩ := dc_full I (.inl ea) kk
  refine wpAny_setItem_heap (knd := nestedKind X.prog X.w) (room9 hu) (ck_is I hb) dd (fun h' dd' sb => ?_) (by rw [← crel_len r]; exact z)
  have he : ∃ q, h'.get? a = some q := let ⟨q, _, _, hq, _⟩ := dd'; ⟨q, hq⟩
  exact ⟨_, d_write (t' := _) I (by rw [ea]; exact True.intro) sb he (dc_ok (dc_store hz hs nd r hc rv dd')), q⟩
def rIxC (K : PySem.W.Frag) (P : Program) (w : World) : R2 := fun x y H Q => ∃ (a b : Addr) (L : List CEnt) (c : CKey) (v : V), x = .ref a ∧ y = .ref b ∧ Rd H a (DcO P w a L) ∧ KeysAt K H L ∧ CallAt K H (.ref b) c ∧ valC L c = some v ∧ Q v H
def tGetC (K : PySem.W.Frag) (P : Program) (w : World) (td ty : TE) : TE := fun σ H Q => td σ H fun x H1 => ty σ H1 fun y H2 => rIxC K P w x y H2 Q
theorem pe_dgetC {o i : Expr} {td ty : TE} {pos : Pos} (hu : X.A.units + 9 < cLine) (ho : PE X o td) (hi : PE X i ty) (hs : NoSl i) : PE X (.Subscript o i pos) (tGetC X.K X.prog X.w td ty) := by
  refine ⟨fun pins s σ H Q I h => ?_⟩
  refine subD_of PySem.F.slot_dict_getitem.lookup hs (thn (ho.run pins s σ H _ I h) fun u s1 ⟨x, H1, I1, rx, q1⟩ => ?_)
  refine thn (hi.run pins s1 σ H1 _ I1 q1) fun iv s2 ⟨y, H2, I2, ry, a, b, L, c, z, ex, ey, ea, kk, hb, hv, q⟩ => ?_
  subst ex ey
  obtain rfl : u = Value.ref a := rx
  obtain rfl : iv = Value.ref b := ry
  obtain ⟨_, _, _, xs, r, dd⟩ := dc_full I2 ea kk
  rcases crel_atKey r c with ⟨e, _⟩ | ⟨z', p, e1, e2, rz⟩
  · rw [hv] at e; cases e
  · rw [hv] at e1
    cases e1
    exact ⟨dd.typeIs, wpAny_getItem_heap (room9 hu) (ck_is I2 hb) dd e2 ⟨z, H2, I2.tok _, rz, q⟩⟩
def Itkc (P : Program) (w : World) (d : Addr) (o : Obj) (L : List CEnt) : It :=
  ⟨fun i H => H d = some (.frz o (DcO P w d L)) ∧ i < L.length, fun i H x H' => H' = H ∧ ∃ e, L[i]? = some e ∧ x = .ref e.2.1, fun i H => H d = some (.frz o (DcO P w d L)) ∧ L.length ≤ i⟩
theorem frzC {d : Addr} {o : Obj} {L : List CEnt} (I : Inv X pins σ H s) (h : H d = some (.frz o (DcO X.prog X.w d L))) :
    (d == sysModules) = false ∧ s.heap.get? d = some o ∧ o.ExactDict ∧ ∃ es ep, o.data = .dict es ep ∧ es.size = L.length ∧ ∀ (i : Nat) e, L[i]? = some e → ∃ en, es[i]? = some en ∧ en.key = .ref e.2.1 := by
  obtain ⟨hd, ⟨z, hs, nd, xs, r, o', es, ep, ho, hx, hdt, he⟩, _⟩ := I.hok d _ h
  rw [hd] at ho
  cases ho
  refine ⟨hs, hd, hx, es, ep, hdt, ?_, fun i e h1 => ?_⟩
  · rw [size_of_entries he, crel_len r]
  · obtain ⟨q, hq, h2⟩ := paired_at r h1
    refine ⟨_, by rw [entry_at he, hq]; rfl, ?_⟩
    show Value.ref q.2.1 = _
    rw [← h2.2.1]
theorem turn_keysC {tg : Expr} {d it : Addr} {o : Obj} {es : Array DictEntry} {ep : Nat} {L : List CEnt} (hod : o.data = .dict es ep) : Turn X.prog X.w X.K tg (Itkc X.prog X.w d o L) [it] it (fun i h => h.IsKeyIter it d i L.length ep) where
  mem := by simp
  obj := fun i h st b hb => by
    obtain rfl : b = it := by simpa using hb
    obtain ⟨oi, e, _, dd⟩ := st
    exact ⟨oi, e, fun v z => nomatch dd.symm.trans z⟩
  keep := fun i h h' st k => st.at fun oi e => k it (by simp) oi e
  item := by
    intro Y hP hw hK hc i pins s σ H E I hf st hg
    obtain ⟨hd, hi⟩ := hg
    rw [← hP, ← hw] at hd
    obtain ⟨f0, f1, _, f3, f4, f5⟩ := hf it (by simp)
    obtain ⟨hs, hgd, hx, es', ep', hdt, hsz, ent⟩ := frzC I hd
    obtain ⟨rfl, rfl⟩ := dict_ep hod hdt
    have hkv := List.getElem?_eq_getElem hi
    obtain ⟨en, hen, hkey⟩ := ent i _ hkv
    refine next_key_item st hgd hdt hsz hen fun h' st' sb => ?_
    obtain ⟨oi, e, c, dd⟩ := id st'
    exact ⟨en.key, rfl, go_of (s := { s with heap := h' }) e c dd (by decide) ⟨.ref L[i].2.1, H, I.turned (t' := s.toks) (fun b ob hb e => (sb.2 b hb).trans e) f0 f1 f3 f4 f5, hkey, ⟨rfl, _, hkv, rfl⟩, st', fun b hb => (hf b hb).1⟩⟩
  done := by
    intro Y hP hw hK hc i pins s σ H E I hf st hg
    obtain ⟨hd, hi⟩ := hg
    rw [← hP, ← hw] at hd
    obtain ⟨f0, f1, _, f3, f4, f5⟩ := hf it (by simp)
    obtain ⟨_, hgd, _, _, _, hdt, hsz, _⟩ := frzC I hd
    obtain ⟨rfl, rfl⟩ := dict_ep hod hdt
    exact next_key_end (I.ok.hd hc) st hgd hdt hsz hi fun h' eb => ⟨rfl, I.turned (t' := s.toks) (fun b ob hb e => eb b ob hb e) f0 f1 f3 f4 f5⟩
  self := fun A i s Q E st h => wpAny_pyIter_keyiter st h
def iKeysC (P : Program) (w : World) (td : TE) : TI := fun σ H R => td σ H fun x H1 => ∃ d o L, x = .ref d ∧ H1 d = some (.frz o (DcO P w d L)) ∧ R (Itkc P w d o L) H1
theorem pi_keysC {tg e : Expr} {td : TE} (he : PE X e td) : PI X tg e (iKeysC X.prog X.w td) := by
  refine ⟨fun pins s σ H R I h => ?_⟩
  refine thn (he.run pins s σ H _ I h) fun u s1 ⟨x, H1, I1, rx, d, o, L, ex, hd, q⟩ => ?_
  subst ex
  obtain rfl : u = Value.ref d := rx
  obtain ⟨hs, hgd, hx, es, ep, hdt, hsz, _⟩ := frzC I1 hd
  refine iter_keys hs hgd hx hdt (pi_one (tk := s1.toks) I1 _ (turn_keysC hdt) ⟨_, Heap.get?_push_size _ rfl, rfl, ?_⟩ q)
  rw [hsz] <;> rfl
/-- a loop over the keys of a dict that is locked -/
theorem for_keysC {P : Program} {w : World} {d : Addr} {o : Obj} {L : List CEnt} {g : TG} {tb : TS} {D : Ends} {σ : L2.St} {H : Hp} (Pv : Nat → L2.St → Hp → Prop) (h0 : Pv 0 σ H) (hl : ∀ i σ H, Pv i σ H → H d = some (.frz o (DcO P w d L)))
    (hs : ∀ i e σ H, L[i]? = some e → Pv i σ H → g (.ref e.2.1) σ H fun σ2 H2 => tb { D with nx := Pv (i + 1), ct := Pv (i + 1), bk := D.nx } σ2 H2) (hd : ∀ σ H, Pv L.length σ H → D.nx σ H) :
    ∃ W : Nat → Nat → L2.St → Hp → Prop, (∃ m, W 0 m σ H) ∧ ∀ i m σ H, W i m σ H →
      ((Itkc P w d o L).stop i H ∧ D.nx σ H) ∨ ((Itkc P w d o L).go i H ∧ ∃ N : L2.St → Hp → Prop, (∀ σ' H', N σ' H' → ∃ m', m' < m ∧ W (i + 1) m' σ' H') ∧ ∀ x H', (Itkc P w d o L).yld i H x H' → g x σ H' fun σ2 H2 => tb { D with nx := N, ct := N, bk := D.nx } σ2 H2) := by
  refine ⟨fun i m σ H => m = L.length - i ∧ i ≤ L.length ∧ Pv i σ H, ⟨L.length, rfl, Nat.zero_le _, h0⟩, ?_⟩
  rintro i m σ H ⟨rfl, hi, p⟩
  by_cases hlt : i < L.length
  · refine .inr ⟨⟨hl _ _ _ p, hlt⟩, Pv (i + 1), fun σ' H' p' => ⟨L.length - (i + 1), by omega, rfl, hlt, p'⟩, fun x H' y => ?_⟩
    obtain ⟨rfl, e, he, rfl⟩ := y
    exact hs i e σ _ he p
  · obtain rfl : i = L.length := by omega
    exact .inl ⟨⟨hl _ _ _ p, Nat.le_refl _⟩, hd σ H p⟩
theorem lcKyC {P : Program} {w : World} {te : TE} {tt : TT} {σ : L2.St} {H1 : Hp} {D : Addr} {Qd : Hp → Prop} {i : Nat} {d : Addr} {o : Obj} {L : List CEnt} (R : Nat → List V → Hp → Prop) (h0 : R 0 [] (upd H1 D (.lst []))) (hl : ∀ j acc H, R j acc H → H d = some (.frz o (DcO P w d L)))
    (hs : ∀ j e acc H, L[j]? = some e → acc.length ≤ j → H D = some (.lst acc) → R j acc H →
      tt ((wipe σ [i]).set i (some (.ref e.2.1))) H fun b H3 => if b = true then te ((wipe σ [i]).set i (some (.ref e.2.1))) H3 (LcK R D j) else LcP R D (j + 1) H3)
    (hd : ∀ acc H, acc.length ≤ L.length → H D = some (.lst acc) → R L.length acc H → Qd H) : LcGoal (Itkc P w d o L) (gName i) tt te [i] σ H1 D Qd :=
  lc_any R h0 (fun j acc H hj hl' e r => ⟨⟨hl _ _ _ r, hj⟩, fun x H' y => by
    obtain ⟨rfl, e2, he, rfl⟩ := y
    exact ⟨rfl, hs j e2 acc _ he hl' e r⟩⟩)
    fun acc H hl' e r => ⟨⟨hl _ _ _ r, Nat.le_refl _⟩, hd acc H hl' e r⟩
end
end Eh
set_option Elab.async false
set_option linter.all false
set_option maxRecDepth 100000
set_option maxHeartbeats 4000000
namespace Eh
open PySem PySem.Spec PyProof.Rows L2
theorem At.len {K : PySem.W.Frag} {H : Hp} {v : V} {k : Str} {ps : List Pl} (h : At K H v (.node k ps)) : 2 ≤ ps.length ∧ ps.length ≤ 4 := by
  cases h with
  | node h1 h2 o a1 a2 r => exact ⟨a1, a2⟩
section
variable {P : Program} {w : World} {K : PySem.W.Frag} {mg : Str → Option Value} {base : Heap}
theorem dpl_nats {K : PySem.W.Frag} {H : Hp} : ∀ zs : List Nat, DpAll K H (zs.map natV) (zs.map fun (i : Nat) => PyData.int (i : Int))
  | [] => .nil
  | z :: zs => .cons (.int _) (dpl_nats zs)
theorem At.set {K : PySem.W.Frag} {H : Hp} {u : V} {x : Pl} (hx : At K H u x) : ∀ {us : List V} {ps : List Pl} {i : Nat}, AtAll K H us ps → i < us.length → AtAll K H (us.set i u) (ps.set i x)
  | _, _, 0, .cons h r, _ => .cons hx r
  | _, _, i + 1, .cons h r, hi => .cons h (At.set hx r (Nat.lt_of_succ_lt_succ hi))
  | _, _, i, .nil, hi => absurd hi (Nat.not_lt_zero _)
end
end Eh
set_option Elab.async false
set_option linter.all false
set_option maxRecDepth 100000
set_option maxHeartbeats 4000000
set_option Elab.async false
set_option linter.all false
set_option maxRecDepth 100000
set_option maxHeartbeats 4000000
namespace Eh
open PySem PySem.Spec PyProof.Rows L2
theorem natsD_lay : ∀ ns : List Nat, PyData.canLayAll0 (ns.map fun (i : Nat) => PyData.int (i : Int)) = true ∧ PyData.depthAll (ns.map fun (i : Nat) => PyData.int (i : Int)) = 0
  | [] => ⟨rfl, rfl⟩
  | n :: ns => by
    obtain ⟨h1, h2⟩ := natsD_lay ns
    rw [List.map_cons]
    refine ⟨?_, ?_⟩
    · show (PyData.canLay0 (.int (n : Int)) && PyData.canLayAll0 _) = true
      rw [h1]
      rfl
    · show max (PyData.depth (.int (n : Int))) (PyData.depthAll _) = 0
      rw [h2]
      rfl
end Eh
set_option Elab.async false
set_option linter.all false
set_option maxRecDepth 100000
set_option maxHeartbeats 4000000
namespace Eh
open PySem PySem.Spec PyProof.Rows L2
open PySem.W (EachIs alike alikeAll dataLt dataLe rowLt)
def natsD (ns : List Nat) : List PyData := ns.map fun (n : Nat) => PyData.int (n : Int)
/-- a call as data -/
def ckD (c : CKey) : PyData := .tuple [.tuple (natsD c.1), .int (c.2 : Int)]
theorem natsD_map (ns : List Nat) : natsD ns = (ns.map fun (n : Nat) => (n : Int)).map PyData.int := by
  unfold natsD
  rw [List.map_map]
  rfl
theorem lexN_lt : ∀ a b : List Nat, HSP.lexN a b = decide ((a.map fun (n : Nat) => (n : Int)) < (b.map fun (n : Nat) => (n : Int)))
  | [], [] => by simp [HSP.lexN]
  | [], _ :: _ => by simp [HSP.lexN]
  | _ :: _, [] => by simp [HSP.lexN]
  | x :: a, y :: b => by
    rw [HSP.lexN, lexN_lt a b, List.map_cons, List.map_cons]
    by_cases h : x = y
    · simp [h, List.cons_lt_cons_iff]
    · have h' : ¬ (x : Int) = (y : Int) := by omega
      simp [h, h', List.cons_lt_cons_iff]
theorem natsD_eqv : ∀ a b : List Nat, PyData.eqvAll (natsD a) (natsD b) = decide (a = b)
  | [], [] => by simp [natsD, PyData.eqvAll]
  | [], _ :: _ => by simp [natsD, PyData.eqvAll]
  | _ :: _, [] => by simp [natsD, PyData.eqvAll]
  | x :: a, y :: b => by
    have ih := natsD_eqv a b
    show PyData.eqvAll (.int (x : Int) :: natsD a) (.int (y : Int) :: natsD b) = _
    rw [PyData.eqvAll, ih]
    by_cases h : x = y
    · simp [PyData.eqv, h]
    · have h' : ¬ (x : Int) = (y : Int) := by omega
      simp [PyData.eqv, h, h']
theorem natsD_alike : ∀ a b : List Nat, alikeAll (natsD a) (natsD b) = true := fun a b => by
  rw [natsD_map, natsD_map]
  exact PySem.W.alike_ints _ _
theorem ckD_alike (a b : CKey) : alike (ckD a) (ckD b) = true := by
  unfold ckD
  simp [alike, alikeAll, natsD_alike]
/-- a call ahead of another one -/
def ltC (a b : CKey) : Prop := HSP.lexN a.1 b.1 = true ∨ (a.1 = b.1 ∧ a.2 < b.2)
theorem ltC_ne {a b : CKey} (h : ltC a b) : a ≠ b := fun e => by
  subst e
  rcases h with h | h
  · rw [HSP.lexN_irr] at h; cases h
  · omega
theorem ckD_lt (a b : CKey) (h : ltC a b) : dataLt (ckD b) (ckD a) = false := by
  unfold ckD
  rw [PySem.W.dataLt_pair (by simp [alike, natsD_alike]) (by simp [alike]), PySem.W.dataLt_int]
  show (if PyData.eqvAll (natsD b.1) (natsD a.1) = true then _ else _) = false
  rw [natsD_eqv]
  rcases h with h | ⟨h1, h2⟩
  · have ne : ¬ b.1 = a.1 := fun e => by rw [e, HSP.lexN_irr] at h; cases h
    rw [decide_eq_false ne, if_neg (by decide), PySem.W.dataLt_tuple, natsD_map, natsD_map]
    have := PySem.W.dataLt_ints (b.1.map fun (n : Nat) => (n : Int)) (a.1.map fun (n : Nat) => (n : Int))
    unfold PySem.W.rowLt at this
    rw [this, ← lexN_lt]
    exact HSP.lexN_asym _ _ h
  · rw [h1, decide_eq_true rfl, if_pos rfl, decide_eq_false (show ¬ (b.2 : Int) < (a.2 : Int) by omega)]
    simp
theorem natsD_depth (ns : List Nat) : PyData.depthAll (natsD ns) = 0 := (natsD_lay ns).2
theorem ckD_depth (c : CKey) : (ckD c).depth ≤ 2 := by
  unfold ckD
  simp [PyData.depth, PyData.depthAll, natsD_depth]
theorem dp_call {K : PySem.W.Frag} {H : Hp} {v : V} {c : CKey} (h : CallAt K H v c) : Dp K H v (ckD c) := by
  obtain ⟨a, b, rfl, h1, h2⟩ := h
  exact .tup h1 (.cons (.tup h2 (dpl_nats _)) (.cons (.int _) .nil))
theorem dp_calls {K : PySem.W.Frag} {H : Hp} : ∀ {us : List V} {cs : List CKey}, CallsAt K H us cs → DpAll K H us (cs.map ckD)
  | _, _, .nil => .nil
  | _, _, .cons h r => .cons (dp_call h) (dp_calls r)
section
variable {X : Cx}
theorem each_calls {pins : List (Addr × Obj)} {σ : L2.St} {H : Hp} {s : Shared} (I : Inv X pins σ H s) : ∀ {us : List V} {cs : List CKey} {vs : List Value}, CallsAt X.K H us cs → Vals us vs → EachIs (fun (v : Value) (p : V × CKey) => RelV p.1 v ∧ ∃ as, Reads s.heap v (ckD p.2) as) vs (us.zip cs)
  | _, _, _, .nil, r => by
    cases r
    exact .nil
  | _, _, _, .cons h t, r => by
    cases r with
    | cons ru rr =>
      obtain ⟨as, hr⟩ := Dp.reads I _ _ _ (dp_call h) ru
      exact .cons ⟨ru, as, hr⟩ (each_calls I t rr)
theorem reads_nats {h : Heap} : ∀ {ns : List Nat} {vs : List Value} {as : List Addr}, ReadsAll h vs (natsD ns) as → as = []
  | [], _, _, r => by
    have r' : ReadsAll h _ [] _ := r
    cases r'
    rfl
  | n :: ns, _, _, r => by
    have r' : ReadsAll h _ (.int (n : Int) :: natsD ns) _ := r
    cases r' with
    | cons h1 h2 =>
      cases h1
      rw [reads_nats h2]
      rfl
theorem reads_two {h : Heap} {ns : List Nat} {i : Int} {l : List Value} {as : List Addr} (r : ReadsAll h l [.tuple (natsD ns), .int i] as) : as = [] := by
  cases r with
  | cons r1 r2 =>
    cases r2 with
    | cons r3 r4 =>
      cases r3
      cases r4
      cases r1 with
      | tuple _ _ _ r5 =>
        rw [reads_nats r5]
        rfl
theorem reads_call {h : Heap} {v : Value} {c : CKey} {as : List Addr} (r : Reads h v (ckD c) as) : as = [] := by
  unfold ckD at r
  cases r with
  | tuple _ _ _ r => exact reads_two r
theorem each_vals {us : List V} {cs : List CKey} {vs : List Value} (hl : us.length = cs.length) (h : EachIs (fun (v : Value) (p : V × CKey) => RelV p.1 v) vs (us.zip cs)) : Vals us vs := by
  have go : ∀ {us : List V} {cs : List CKey} {vs : List Value}, us.length = cs.length → EachIs (fun (v : Value) (p : V × CKey) => RelV p.1 v) vs (us.zip cs) → Vals us vs := by
    intro us
    induction us with
    | nil =>
      intro cs vs e h
      cases h
      exact .nil
    | cons u us ih =>
      intro cs vs e h
      cases cs with
      | nil => cases e
      | cons c cs =>
        cases h with
        | cons a t => exact .cons a (ih (by simpa using e) t)
  exact go hl h
/-- calls in order stay in order -/
theorem sort_calls {us : List V} {cs : List CKey} (hl : us.length = cs.length) (hs : cs.Pairwise ltC) : (us.zip cs).mergeSort (dataLe false fun (p : V × CKey) => ckD p.2) = us.zip cs := by
  refine List.mergeSort_of_pairwise ?_
  have z : ((us.zip cs).map (·.2)).Pairwise ltC := by
    rw [List.map_snd_zip (by omega)]
    exact hs
  rw [List.pairwise_map] at z
  refine z.imp fun {a b} h => ?_
  show (!dataLt (ckD b.2) (ckD a.2)) = true
  rw [ckD_lt _ _ h]
  rfl
/-- sorted(d): the keys stand in order already -/
def rSortC (K : PySem.W.Frag) (P : Program) (w : World) : List V → Hp → VK → Prop := fun vs H Q => ∃ (d : Addr) (L : List CEnt), vs = [.ref d] ∧ Rd H d (DcO P w d L) ∧ KeysAt K H L ∧ (L.map (·.1)).Pairwise ltC ∧ L.length < 1000000 ∧ ∀ p, H p = none → Q (.ref p) (upd H p (.lst (L.map fun e => .ref e.2.1)))
theorem keys_calls {K : PySem.W.Frag} {H : Hp} : ∀ {L : List CEnt}, KeysAt K H L → CallsAt K H (L.map fun e => .ref e.2.1) (L.map (·.1))
  | [], _ => .nil
  | e :: L, h => .cons (h e List.mem_cons_self) (keys_calls fun e he => h e (List.mem_cons_of_mem _ he))
theorem sortC (hc : X.calm = true) (hu : X.A.units + 64 < cLine) : CallR X (.builtin "sorted") (rSortC X.K X.prog X.w) := by
  intro pins s σ H vs us0 Q I r h
  obtain ⟨d, L, rfl, hd, kk, hsrt, hlen, q⟩ := h
  obtain ⟨u, rfl, ru⟩ := vals1 r
  obtain rfl : u = Value.ref d := ru
  obtain ⟨⟨z, hs, nd, xs, pr, o, es, ep, ho, hx, hdt, he⟩, _⟩ := (show ObjOk X.prog X.w H s.heap d (DcO X.prog X.w d L) from hd.ok I.hok)
  have l1 := size_of_entries he
  have l2 := crel_len pr
  refine Calls.call_function_entry PyProof.Rows.kind_sorted PyProof.Rows.plain_sorted PyProof.Rows.entry_sorted (PyProof.Rows.args_sorted1 _) ?_
  unfold Builtin.«sorted»
  refine wpAny_bind (m := checkCount "sorted" 1 1 _) (wpAny_pure (wpAny_bind (PySem.W.kdu_collect (A := X.A.in1) (kdl_raw hs hx hdt) (I.ok.hd hc) ho (by rw [l1, ← l2]; exact z) fun h' tk acc hk hacc => ?_)))
  have ea : acc.toList = L.map fun e => Value.ref e.2.1 := by
    apply List.ext_getElem?
    intro j
    rw [List.getElem?_map]
    have hl : acc.toList.length = L.length := by rw [Array.length_toList, hacc.1, l1, ← l2]
    cases hj : acc.toList[j]? with
    | none =>
      have h1 := List.getElem?_eq_none_iff.mp hj
      rw [List.getElem?_eq_none (show L.length ≤ j by omega)]
      all_goals rfl
    | some v =>
      obtain ⟨en, hen, hv⟩ := hacc.2 j v (by rw [← Array.getElem?_toList]; exact hj)
      obtain ⟨e, hej⟩ : ∃ e, L[j]? = some e := ⟨_, List.getElem?_eq_getElem (by have := (List.getElem?_eq_some_iff.mp hj).1; omega)⟩
      obtain ⟨b, hb, h2⟩ := paired_at pr hej
      have qe := entry_at he j
      rw [hen, hb] at qe
      have e2 : en = entryOfKey (nestedKind X.prog X.w) b := Option.some.inj qe
      rw [hej, hv, e2]
      show some (Value.ref b.2.1) = some (Value.ref e.2.1)
      rw [h2.2.1]
      all_goals rfl
  have I1 : Inv X pins σ H { s with heap := h', toks := tk } := I.kept hk
  have hcs := keys_calls kk
  have rv : Vals (L.map fun e => V.ref e.2.1) acc.toList := by
    rw [ea, show (L.map fun e => Value.ref e.2.1) = (L.map fun e => e.2.1).map Value.ref from by rw [List.map_map]; rfl, show (L.map fun e => V.ref e.2.1) = (L.map fun e => e.2.1).map V.ref from by rw [List.map_map]; rfl]
    exact L2.vals_refs _
  have hf := each_calls I1 hcs rv
  have hal : acc.toList.length = L.length := by rw [ea, List.length_map]
  generalize hits : acc.toList = its at hf rv hal ea ⊢
  have hitz : its.length ≤ sizeLine := by omega
  refine wpAny_bind (wpAny_newList ?_ hitz)
  have hoL : (h'.push (seqObj "list" its.toArray 0)).get? h'.objs.size = some (seqObj "list" its.toArray 0) := Heap.get?_push_size _ rfl
  show wpAny _ _ _ _ _ { s with heap := h'.push (seqObj "list" its.toArray 0), toks := tk }
  have lz : (L.map fun e => V.ref e.2.1).length = (L.map (·.1)).length := by rw [List.length_map, List.length_map]
  have keep : ∀ b o, h'.get? b = some o → (h'.push (seqObj "list" its.toArray 0)).get? b = some o := fun b o e => Heap.get?_push_of_some _ e
  have each1 : EachIs (fun (v : Value) (p : V × CKey) => RelV p.1 v) its ((L.map fun e => V.ref e.2.1).zip (L.map (·.1))) := hf.mono fun _ _ h => h.1
  have each2 : EachIs (fun (v : Value) (p : V × CKey) => ∃ as, Reads (h'.push (seqObj "list" its.toArray 0)) v (ckD p.2) as ∧ h'.objs.size ∉ as) its ((L.map fun e => V.ref e.2.1).zip (L.map (·.1))) := hf.mono fun _ _ h => by
    obtain ⟨_, as, hr⟩ := h
    have e0 := reads_call hr
    subst e0
    exact ⟨[], PyProof.Rows.Reads.keeps keep hr, List.not_mem_nil⟩
  have zl : ((L.map fun e => V.ref e.2.1).zip (L.map (·.1))).length = L.length := by rw [List.length_zip, List.length_map, List.length_map, Nat.min_self]
  refine wpAny_bind (wpAny_holding (PySem.W.list_sort_data (R := fun (v : Value) (p : V × CKey) => RelV p.1 v) (enc := fun p => ckD p.2) hoL each1 each2 (PySem.W.AllAlike.of fun b b' => ckD_alike _ _) (PySem.W.Sortable.tuples fun b => ⟨_, _, rfl⟩) (by rw [zl]; exact z) (fun b _ => ?_) fun out h1 h2 => ?_))
  · have := ckD_depth b.2
    show X.A.units + 1 + 1 + (ckD b.2).depth < cLine
    omega
  · rw [sort_calls lz hsrt] at h2
    have rv2 := each_vals lz h2
    obtain ⟨e', he'⟩ := PyProof.Rows.sortedHeap_at (vs := its) (out := out.toArray) hoL
    refine wpAny_pure ⟨_, rfl, .ref h'.objs.size, upd H h'.objs.size (.lst (L.map fun e => V.ref e.2.1)), I1.laid (t' := tk) (fun b u e => ?_) (Nat.le_refl _) (show ObjOk X.prog X.w _ _ _ (.lst (L.map fun e => V.ref e.2.1)) from ⟨by rw [List.length_map]; exact z, out, e', rv2, he'⟩), rfl, q _ (I1.hok.fresh (Nat.le_refl _))⟩
    have hb : b < h'.objs.size := Heap.lt_size e
    rw [PyProof.Rows.sortedHeap_old (Nat.ne_of_lt hb) (by rw [size_push']; exact Nat.lt_succ_of_lt hb)]
    exact Heap.get?_push_of_some _ e
end
end Eh
set_option Elab.async false
set_option linter.all false
set_option maxRecDepth 100000
set_option maxHeartbeats 4000000
namespace Eh
open PySem PySem.Spec PyProof.Rows L2
theorem back_at {α β : Type} {F : α → β → Prop} : ∀ {xs : List α} {ys : List β}, Paired F xs ys → ∀ {i : Nat} {y : β}, ys[i]? = some y → ∃ x, xs[i]? = some x ∧ F x y
  | _, _, .nil, i, y, h => by simp at h
  | _, _, .cons r t, 0, y, h => by
    cases (show some _ = some y from h)
    exact ⟨_, rfl, r⟩
  | _, _, .cons r t, i + 1, y, h => back_at t (i := i) (by simpa using h)
section
variable {X : Cx}
/-- the pairs, as they stand -/
def rDictPC (K : PySem.W.Frag) (P : Program) (w : World) : List V → Hp → VK → Prop := fun xs H Q => ∃ (a : Addr) (ts : List Addr) (L : List CEnt), xs = [.ref a] ∧ SqL K H a (ts.map V.ref) ∧ Paired (fun t (x : CEnt) => SqT K H t [.ref x.2.1, x.2.2]) ts L ∧ KeysAt K H L ∧ (L.map (·.1)).Nodup ∧
  ∀ p, H p = none → Q (.ref p) (upd H p (DcO P w p L))
theorem pairs_ofC {pins : List (Addr × Obj)} {σ : L2.St} {H : Hp} {s : Shared} (I : Inv X pins σ H s) : ∀ {ts : List Addr} {L : List CEnt}, Paired (fun t (x : CEnt) => SqT X.K H t [.ref x.2.1, x.2.2]) ts L →
    ∃ rs : List (NestedKey × Addr × Value), Paired CRel L rs ∧ ∀ (j : Nat) (r : NestedKey × Addr × Value), rs[j]? = some r → ∃ t : Addr, ts[j]? = some t ∧ IsTup s.heap t #[.ref r.2.1, r.2.2]
  | _, _, .nil => ⟨[], .nil, fun j r e => by simp at e⟩
  | _, _, .cons (a := t) (b := x) h tl => by
    obtain ⟨rs, r, hp⟩ := pairs_ofC I tl
    obtain ⟨its, rv, ht, _⟩ := I.tuple h
    obtain ⟨u, y, ei, ru, ry⟩ := vals2 rv
    obtain rfl : u = Value.ref x.2.1 := ru
    subst ei
    refine ⟨(ckN x.1, x.2.1, y) :: rs, .cons ⟨rfl, rfl, ry⟩ r, fun j q e => ?_⟩
    cases j with
    | zero => exact ⟨t, rfl, by cases Option.some.inj e; exact ht⟩
    | succ j =>
      obtain ⟨b, e1, e2⟩ := hp j q (by simpa using e)
      exact ⟨b, by simpa using e1, e2⟩
theorem stored_nodup : ∀ {rs acc : List (NestedKey × Addr × Value)}, ((acc ++ rs).map (·.1)).Nodup → storedAllH acc rs = acc ++ rs
  | [], acc, _ => by
    rw [List.append_nil]
    rfl
  | r :: rs, acc, h => by
    have hno : atKey acc r.1 = none := by
      cases ha : atKey acc r.1 with
      | none => rfl
      | some q =>
        have hm : r.1 ∈ acc.map (·.1) := by
          clear h
          induction acc with
          | nil => simp [atKey] at ha
          | cons a acc ih =>
            by_cases e : a.1 = r.1
            · rw [List.map_cons, e]; exact List.mem_cons_self
            · exact List.mem_cons_of_mem _ (ih (by simpa [atKey, e] using ha))
        rw [List.map_append, List.map_cons] at h
        exact absurd rfl ((List.nodup_append.mp h).2.2 r.1 hm r.1 List.mem_cons_self)
    show storedAllH (storedH acc r.1 r.2.1 r.2.2) rs = _
    rw [stored_new hno]
    have e : acc ++ r :: rs = (acc ++ [(r.1, r.2.1, r.2.2)]) ++ rs := by rw [List.append_assoc]; rfl
    rw [e] at h ⊢
    exact stored_nodup h
theorem dict_pairsC (hcalm : X.calm = true) (hu : X.A.units + 12 < cLine) : CallR X (.type "dict") (rDictPC X.K X.prog X.w) := by
  intro pins s σ H xs us Q I r q
  obtain ⟨a, ts, L, rfl, hq, hp, kk, nd, q⟩ := q
  obtain ⟨u, rfl, rx⟩ := vals1 r
  obtain rfl : u = Value.ref a := rx
  obtain ⟨its, rv, pl, hz⟩ := I.list hq
  have ei := refs_at rv
  subst ei
  rw [List.length_map] at hz
  obtain ⟨rs, rel, hpr⟩ := pairs_ofC I hp
  have hl : rs.length = ts.length := by rw [← crel_len rel, Paired.length hp]
  obtain ⟨o, n, ho, hc, hd, hdat⟩ := pl
  let Ts : Nat → Addr := fun j => ts.getD j 0
  let ps : List (Value × Value) := rs.map fun r => (Value.ref r.2.1, r.2.2)
  have hps : ps.length = ts.length := by show (rs.map _).length = _; rw [List.length_map, hl]
  have at_ : ∀ {j : Nat} {k v : Value}, ps[j]? = some (k, v) → ∃ r, rs[j]? = some r ∧ k = .ref r.2.1 ∧ v = r.2.2 := fun {j k v} e => by
    have e' : rs[j]?.map (fun r => (Value.ref r.2.1, r.2.2)) = some (k, v) := by rw [← List.getElem?_map]; exact e
    obtain ⟨r, er, e2⟩ := Option.map_eq_some_iff.mp e'
    cases e2
    exact ⟨r, er, rfl, rfl⟩
  have key : ∀ {s' : Shared}, Inv X pins σ H s' → ∀ y ∈ rs, (nestedKind X.prog X.w).is s'.heap y.1 y.2.1 := fun {s'} I' y hy => by
    obtain ⟨j, hj⟩ := List.getElem?_of_mem hy
    obtain ⟨x, hx, h1, h2, _⟩ := back_at rel hj
    rw [← h1, ← h2]
    exact ck_is I' (kk x (List.mem_of_getElem? hx))
  refine call_dict_pairsH (knd := nestedKind X.prog X.w) (ps := rs) (PairArg.list (prog := X.prog) (w := X.w) a (ts.map Value.ref).toArray Ts ps) (I.ok.hd hcalm) ?_ ⟨⟨o, n, ho, hc, hd, hdat⟩, ?_, fun j k v e => ?_⟩ ⟨?_, fun i k v e => ?_⟩ (fun h' hk x hxm => ?_) (by rw [hps]; exact hz) fun h' tk hd' k => ?_
  · show X.A.units + 1 + 1 + 8 < cLine
    omega
  · rw [hps]; simp
  · obtain ⟨r, er, rfl, rfl⟩ := at_ e
    obtain ⟨t, et, ht⟩ := hpr j r er
    have eT : Ts j = t := by show ts.getD j 0 = t; rw [List.getD_eq_getElem?_getD, et]; rfl
    rw [eT]
    exact ⟨by simp [et], .inl ht⟩
  · rw [hps, hl]
  · obtain ⟨r, er, rfl, rfl⟩ := at_ e
    exact ⟨r.1, r.2.1, er, rfl⟩
  · exact (nestedKind_stays.stays (fun b o vs n e _ => hk b o (Nat.ne_of_lt (Heap.lt_size e)) (by simp) e) (key I x hxm))
  · have new := I.hok.fresh (Nat.le_refl s.heap.objs.size)
    have en := stored_nodup (acc := []) (rs := rs) (by rw [List.nil_append]; exact crel_nodup rel nd)
    rw [en, List.nil_append] at hd'
    exact ⟨.ref s.heap.objs.size, upd H s.heap.objs.size (DcO X.prog X.w s.heap.objs.size L), I.laid (t' := tk) (fun b o e => k b o (by simp) e) (Nat.le_refl _) (dc_ok (dc_at (by rw [crel_len rel, hl]; exact hz) (beq_eq_false_iff_ne.mpr (Nat.ne_of_gt I.big)) nd rel hd')), rfl, q _ new⟩
/-- list(d) -/
def rListC (P : Program) (w : World) : List V → Hp → VK → Prop := fun vs H Q => ∃ (d : Addr) (L : List CEnt), vs = [.ref d] ∧ Rd H d (DcO P w d L) ∧ ∀ p, H p = none → Q (.ref p) (upd H p (.lst (L.map fun e => .ref e.2.1)))
theorem list_dictC (hc : X.calm = true) : CallR X (.type "list") (rListC X.prog X.w) := by
  intro pins s σ H vs us0 Q I r h
  obtain ⟨d, L, rfl, hd, q⟩ := h
  obtain ⟨u, rfl, ru⟩ := vals1 r
  obtain rfl : u = Value.ref d := ru
  obtain ⟨⟨z, hs, nd, xs, pr, o, es, ep, ho, hx, hdt, he⟩, _⟩ := (show ObjOk X.prog X.w H s.heap d (DcO X.prog X.w d L) from hd.ok I.hok)
  have l1 := size_of_entries he
  have l2 := crel_len pr
  refine PySem.W.kdl_call (kdl_raw hs hx hdt) (I.ok.hd hc) ho (by rw [l1, ← l2]; exact z) fun h' tk acc c' hk hD hacc => ?_
  have ea : acc.toList = L.map fun e => Value.ref e.2.1 := by
    apply List.ext_getElem?
    intro j
    rw [List.getElem?_map]
    have hl : acc.toList.length = L.length := by rw [Array.length_toList, hacc.1, l1, ← l2]
    cases hj : acc.toList[j]? with
    | none =>
      have h1 := List.getElem?_eq_none_iff.mp hj
      rw [List.getElem?_eq_none (show L.length ≤ j by omega)]
      all_goals rfl
    | some v =>
      obtain ⟨en, hen, hv⟩ := hacc.2 j v (by rw [← Array.getElem?_toList]; exact hj)
      obtain ⟨e, hej⟩ : ∃ e, L[j]? = some e := ⟨_, List.getElem?_eq_getElem (by have := (List.getElem?_eq_some_iff.mp hj).1; omega)⟩
      obtain ⟨b, hb, h2⟩ := paired_at pr hej
      have qe := entry_at he j
      rw [hen, hb] at qe
      have e2 : en = entryOfKey (nestedKind X.prog X.w) b := Option.some.inj qe
      rw [hej, hv, e2]
      show some (Value.ref b.2.1) = some (Value.ref e.2.1)
      rw [h2.2.1]
      all_goals rfl
  have rv : Vals (L.map fun e => V.ref e.2.1) acc.toList := by
    rw [ea, show (L.map fun e => Value.ref e.2.1) = (L.map fun e => e.2.1).map Value.ref from by rw [List.map_map]; rfl, show (L.map fun e => V.ref e.2.1) = (L.map fun e => e.2.1).map V.ref from by rw [List.map_map]; rfl]
    exact L2.vals_refs _
  exact ⟨.ref s.heap.objs.size, upd H s.heap.objs.size (.lst (L.map fun e => V.ref e.2.1)), I.laid (t' := tk) hk (Nat.le_refl _) (show ObjOk X.prog X.w _ _ _ (.lst (L.map fun e => V.ref e.2.1)) from ⟨by rw [List.length_map]; exact z, acc.toList, c', rv, by rw [Array.toArray_toList]; exact hD⟩), rfl, q _ (I.hok.fresh (Nat.le_refl _))⟩
end
end Eh
set_option Elab.async false
set_option linter.all false
set_option maxRecDepth 100000
set_option maxHeartbeats 4000000
namespace Eh
open PySem PySem.Spec PyProof.Rows L2
section
variable {X : Cx}
/-- behind a turn's key and value -/
def DcK (K : PySem.W.Frag) (P : Program) (w : World) (D : Addr) (Nx : Hp → Prop) (y z : V) (H5 : Hp) : Prop := ∃ (L : List CEnt) (c : CKey) (b : Addr), y = .ref b ∧ H5 D = some (DcO P w D L) ∧ KeysAt K H5 L ∧ CallAt K H5 (.ref b) c ∧ c ∉ L.map (·.1) ∧ L.length < sizeLine ∧ Nx (upd H5 D (DcO P w D (L ++ [(c, b, z)])))
/-- what one turn asks -/
def DcTurn (K : PySem.W.Frag) (P : Program) (w : World) (g : TG) (tt : TT) (tk tv : TE) (vs : List Nat) (σ : L2.St) (D : Addr) (Nx : Hp → Prop) (x : V) (H' : Hp) : Prop :=
  g x (wipe σ vs) H' fun σ2 H2 => wipe σ2 vs = wipe σ vs ∧ tt σ2 H2 fun b H3 => if b = true then tk σ2 H3 fun y H4 => tv σ2 H4 fun z H5 => DcK K P w D Nx y z H5 else Nx H3
def DcGoal (K : PySem.W.Frag) (P : Program) (w : World) (J : It) (g : TG) (tt : TT) (tk tv : TE) (vs : List Nat) (σ : L2.St) (H1 : Hp) (D : Addr) (Qd : Hp → Prop) : Prop :=
  ∃ W : Nat → Nat → Hp → Prop, (∃ m, W 0 m (upd H1 D (DcO P w D []))) ∧ ∀ i m H, W i m H → (J.stop i H ∧ Qd H) ∨ (J.go i H ∧ ∃ Nx : Hp → Prop, (∀ H', Nx H' → ∃ m', m' < m ∧ W (i + 1) m' H') ∧ ∀ x H', J.yld i H x H' → DcTurn K P w g tt tk tv vs σ D Nx x H')
def tDcC (K : PySem.W.Frag) (P : Program) (w : World) (wi : TI) (g : TG) (tt : TT) (tk tv : TE) (vs : List Nat) : TE := fun σ H Q => wi σ H fun J H1 => ∀ D, H1 D = none → DcGoal K P w J g tt tk tv vs σ H1 D (Q (.ref D))
theorem dictSetC {Y : Cx} {pins : List (Addr × Obj)} {σ : L2.St} {H : Hp} {s : Shared} {E : Value → Shared → Prop} {D b : Addr} {L : List CEnt} {c : CKey} {z : V} {u r : Value} {Q : Unit → Shared → Prop} (hu : Y.A.units + 9 < cLine) (I : Inv Y pins σ H s) (hD : H D = some (DcO Y.prog Y.w D L)) (kk : KeysAt Y.K H L)
    (hb : CallAt Y.K H (.ref b) c) (hc : c ∉ L.map (·.1)) (hz : L.length < sizeLine) (ry : RelV (.ref b) u) (rv : RelV z r) (q : ∀ s', Inv Y pins σ (upd H D (DcO Y.prog Y.w D (L ++ [(c, b, z)]))) s' → Q () s') : wpAny (model Y.prog Y.w) Y.A (dictSet D u r) Q E s := by
  obtain rfl : u = Value.ref b := ry
  obtain ⟨_, hs, nd, xs, rel, dd⟩ := dc_full I (.inl hD) kk
  refine wpAny_dictSet_heap (knd := nestedKind Y.prog Y.w) (by show Y.A.units + 8 < cLine; omega) (ck_is I hb) dd (fun h' dd' sb => q _ ?_) (by rw [← crel_len rel]; omega)
  have he : ∃ q, h'.get? D = some q := let ⟨q, _, _, hq, _⟩ := dd'; ⟨q, hq⟩
  exact d_write (t' := _) I (by rw [hD]; exact True.intro) sb he (dc_ok (dc_store hz hs nd rel hc rv dd'))
theorem dc_emptyC {P : Program} {w : World} {h : Heap} (hb : sysModules < h.objs.size) : DcAt P w h.objs.size [] (h.push { cls := .type "dict", data := .dict #[] }) :=
  ⟨Nat.zero_le _, beq_eq_false_iff_ne.mpr (Ne.symm (Nat.ne_of_lt hb)), List.nodup_nil, [], .nil, _, #[], 0, Heap.get?_push_size _ rfl, ⟨rfl, rfl, rfl⟩, rfl, rfl⟩
theorem pe_dcC {kx vx tg iter : Expr} {ifs : List Expr} {scope : Scope} {own : List (Str × Nat)} {pos : Pos} {wi : TI} {g : TG} {tt : TT} {tk tv : TE} (hcalm : X.calm = true) (hnd : X.N.Nodup) (hu : X.A.units + 9 < cLine)
    (src : PI X tg iter wi) (blk : BlkOk X.N X.env.scope scope own)
    (pgs : ∀ (s : Shared) (H : Hp) (C : Addr) (cl : List (Str × Addr)) (its : List Addr), PG (X.blk s H scope (compEnvC scope cl C X.env) its) tg g)
    (pts : ∀ (s : Shared) (H : Hp) (C : Addr) (cl : List (Str × Addr)) (its : List Addr), PTs (X.blk s H scope (compEnvC scope cl C X.env) its) ifs tt)
    (pks : ∀ (s : Shared) (H : Hp) (C : Addr) (cl : List (Str × Addr)) (its : List Addr), PE (X.blk s H scope (compEnvC scope cl C X.env) its) kx tk)
    (pvs : ∀ (s : Shared) (H : Hp) (C : Addr) (cl : List (Str × Addr)) (its : List Addr), PE (X.blk s H scope (compEnvC scope cl C X.env) its) vx tv)
    (fold : ∀ x, foldedSetIterable iter X.env x = pure x := by intro _; rfl) :
    PE X (.DictComp kx vx [⟨tg, iter, ifs, 0⟩] scope pos) (tDcC X.K X.prog X.w wi g tt tk tv (own.map (·.2))) := by
  refine ⟨fun pins s₀ σ H₀ Q I₀ ask => ?_⟩
  rw [arm_eval_DictComp]
  have frees : ∀ y ∈ scope.names, y.2 = .free → ∃ c, X.env.cells.lookup y.1 = some c := by
    intro y hy e
    exact (blk.free y hy e).elim (fun k => I₀.ok.has _ (.inl k)) fun k => I₀.ok.has _ (.inr k)
  refine wpAny_comprehension_free rfl fold (closure_ok frees) blk.kind (fun y hy e => by rw [blk.uniq y hy, e]) ?_
  refine thn (src.run pins s₀ σ H₀ _ I₀ ask) fun _ _ got => thn got fun _ s₁ ⟨it, its, tn, J, H₁, eit, I₁, T, at₁, fr₁, rest⟩ => ?_
  subst eit
  refine wpAny_newObj_type (newEnv_comp ?_)
  generalize eD : s₁.heap.objs.size = D
  have newD : H₁ D = none := I₁.hok.fresh (Nat.le_of_eq eD)
  obtain ⟨W, ⟨m₀, start⟩, turns⟩ := rest D newD
  generalize es2 : ({ s₁ with heap := s₁.heap.push { cls := .type "dict", data := .dict #[] } } : Shared) = s₂
  have heap2 : s₂.heap = s₁.heap.push { cls := .type "dict", data := .dict #[] } := by rw [← es2]
  generalize eH : upd H₁ D (DcO X.prog X.w D []) = H₂ at start
  have I₂ : Inv X pins σ H₂ s₂ := by
    rw [← eH, ← es2]
    refine I₁.laid (t' := s₁.toks) (fun b o e => Heap.get?_push_of_some _ e) (Nat.le_of_eq eD) (dc_ok ?_)
    rw [← eD]
    exact dc_emptyC I₁.big
  have older : ∀ b ∈ its, b < s₁.heap.objs.size := fun b hb => let ⟨o, e, _⟩ := T.obj _ _ at₁ b hb; Heap.lt_size e
  have fr₂ : ∀ b ∈ its, FpOk X pins H₂ b ∧ b < s₂.heap.objs.size := by
    intro b hb
    have lt := older b hb
    constructor
    · refine ⟨?_, (fr₁ b hb).2⟩
      rw [← eH, upd_ne (by rw [← eD]; exact Nat.ne_of_lt lt)]
      exact (fr₁ b hb).1
    · rw [heap2, Heap.size_push]
      exact Nat.lt_succ_of_lt lt
  have none2 : ∀ b ∈ its, H₂ b = none := fun b hb => (fr₂ b hb).1.1
  have at₂ : tn 0 s₂.heap := T.keep _ _ _ at₁ fun b _ o e => by
    rw [heap2]
    exact Heap.get?_push_of_some _ e
  have I₃ := block_start I₂ blk hnd fr₂
  generalize ecl : cellsFrom (s₂.heap.objs.size + 1) scope.names (cloFrom X.env.cells scope.names []) = cl at I₃
  have pg := pgs s₂ H₂ s₂.heap.objs.size cl its
  have pt := pts s₂ H₂ s₂.heap.objs.size cl its
  have pk := pks s₂ H₂ s₂.heap.objs.size cl its
  have pv := pvs s₂ H₂ s₂.heap.objs.size cl its
  generalize ece : compEnvC scope cl s₂.heap.objs.size X.env = ce at I₃ pg pt pk pv
  have loc : ce.locals = s₂.heap.objs.size := by rw [← ece]; rfl
  show codeAny _ _ (.compStart (.DictComp kx vx [⟨tg, iter, ifs, 0⟩] scope pos) 0 (.ref it) (.ref D) (compEnvC scope cl s₂.heap.objs.size X.env))
    (compPost (model X.prog X.w) X.A X.xe none (EP X pins σ Q) (.ref D) s₂.heap.objs.size) { s₂ with heap := pushCells (s₂.heap.push { cls := .type "dict", data := .dict #[] }) scope.names }
  rw [ece]
  generalize es3 : ({ s₂ with heap := pushCells (s₂.heap.push { cls := .type "dict", data := .dict #[] }) scope.names } : Shared) = s₃ at I₃ ⊢
  have at₃ : tn 0 s₃.heap := T.keep _ _ _ at₂ fun b _ o e => by
    rw [← es3]
    exact pushCells_keeps _ _ _ _ (Heap.get?_push_of_some _ e)
  -- the iterator's objects, within the block
  have within : ∀ {τ : L2.St} {G : Hp} {t : Shared}, Inv (X.blk s₂ H₂ scope ce its) [] τ G t → (∀ b ∈ its, G b = none) → ∀ b ∈ its, FpOk (X.blk s₂ H₂ scope ce its) [] G b := by
    intro τ G t J' hn b hb
    obtain ⟨z1, z2⟩ := J'.ok.exf b hb
    exact ⟨hn b hb, z1, J'.ok.exfs b hb, .inl hb, fun x c e => z2 x c e, fun p hp => by simp [Cx.blk] at hp⟩
  -- a state between two turns
  have walk : codeAny (model X.prog X.w) X.A (.compLoop (.DictComp kx vx [⟨tg, iter, ifs, 0⟩] scope pos) 0 (.ref it) (.ref D) ce)
      (compPost (model X.prog X.w) X.A X.xe none (EP X pins σ Q) (.ref D) s₂.heap.objs.size) s₃ := by
    refine compLoop_anyD (fun n t => ∃ i G, Inv (X.blk s₂ H₂ scope ce its) [] (wipe σ (own.map (·.2))) G t ∧ tn i t.heap ∧ (∀ b ∈ its, G b = none) ∧ W i n G) ?_ m₀ ⟨0, H₂, I₃, at₃, none2, start⟩
    rintro n t ⟨i, G, It, att, nt, wt⟩
    rcases turns i n G wt with ⟨over, fin⟩ | ⟨more, Nx, less, turn⟩
    · refine thnF (T.done (X.blk s₂ H₂ scope ce its) rfl rfl rfl hcalm i [] t _ G (fun _ _ => False) It (within It nt) att over) fun r t' ⟨er, It'⟩ => ?_
      subst er
      have Iout : Inv X pins σ G t' := I₂.call' (ch := its) It'.os It'.base It'.hok It'.bare fun b hb => ⟨(fr₂ b hb).1.2.2.2.1, (fr₂ b hb).1.2.1, (fr₂ b hb).1.2.2.2.2.1, (fr₂ b hb).1.2.2.2.2.2⟩
      obtain ⟨m, ns, _⟩ := It'.loc
      have ns' : t'.heap.Ns s₂.heap.objs.size m := by rw [← loc]; exact ns
      have freeC : G s₂.heap.objs.size = none := by rw [← loc]; exact It'.free
      refine ⟨m, ns', fun h'' sb => ?_⟩
      obtain ⟨f0, f1, f2, f3, f4, f5⟩ := I₂.fpOk (Nat.le_refl _) freeC
      exact ⟨.ref D, G, Iout.turned (t' := t'.toks) (fun b o hb e => (sb.2 b hb).trans e) f0 f1 f3 f4 f5, rfl, fin⟩
    · have nxt := T.item (X.blk s₂ H₂ scope ce its) rfl rfl rfl hcalm i [] t _ G (fun _ _ => False) It (within It nt) att more
      refine thnF nxt fun r t₁ ⟨u, er, got⟩ => ?_
      subst er
      refine thnF got fun _ t₂ ⟨x, G₂, Ix, rx, yx, atx, nx⟩ => ?_
      have Ip := Ix.pinned (within Ix nx) (T.obj _ _ atx)
      refine thnF (pg.run _ t₂ _ G₂ x u _ Ip rx (turn x G₂ yx)) fun _ t₃ ⟨τ, G₃, Ig, same, qg⟩ => ?_
      refine thnF (pt.run _ t₃ τ G₃ _ Ig qg) fun ok t₄ ⟨G₄, If, qf⟩ => ?_
      have back : ∀ {t' : Shared} {G' : Hp}, Inv (X.blk s₂ H₂ scope ce its) ([] ++ pinsAt its t₂.heap) τ G' t' → Nx G' →
          ∃ m, m < n ∧ ∃ i G, Inv (X.blk s₂ H₂ scope ce its) [] (wipe σ (own.map (·.2))) G t' ∧ tn i t'.heap ∧ (∀ b ∈ its, G b = none) ∧ W i m G := by
        intro t' G' I' done
        obtain ⟨m, lt, wm⟩ := less G' done
        have pin : ∀ b ∈ its, ∀ o, t₂.heap.get? b = some o → t'.heap.get? b = some o ∧ G' b = none := by
          intro b hb o e
          obtain ⟨z1, z2, _⟩ := I'.pin (b, o) (List.mem_append_right _ (List.mem_append_right _ (mem_pinsAt hb e)))
          exact ⟨z1, z2⟩
        have len : (wipe σ (own.map (·.2))).length = τ.length := by rw [← same, wipe_length]
        refine ⟨m, lt, i + 1, G', (I'.unpinned (pins := [])).weak len (fun j v e => ?_), T.keep _ _ _ atx fun b hb o e => (pin b hb o e).1, fun b hb => ?_, wm⟩
        · rw [← same] at e
          exact (wipe_some e).1
        · obtain ⟨o, e, _⟩ := T.obj _ _ atx b hb
          exact (pin b hb o e).2
      cases ok with
      | false =>
        simp only [Bool.false_eq_true, if_false] at qf ⊢
        exact back If qf
      | true =>
        simp only [if_true] at qf ⊢
        refine thnF (pk.run _ t₄ τ G₄ _ If qf) fun ku t₅ ⟨y, G₅, Ik, ry, qk⟩ => ?_
        refine thnF (pv.run _ t₅ τ G₅ _ Ik qk) fun vu t₆ ⟨z, G₆, Iv, rz, L, c, b, ey, hD, kk, hb, hc, hz, done⟩ => ?_
        subst ey
        exact dictSetC (Y := X.blk s₂ H₂ scope ce its) hu Iv hD kk hb hc hz ry rz fun t₇ I₇ => back I₇ done
  exact codeAny_compStart_dict walk (T.self X.A 0 _ _ _ at₃ walk)
/-- over a tuple that stays -/
theorem dcC_tup {K : PySem.W.Frag} {P : Program} {w : World} {a : Addr} {xs : List V} {g : TG} {tt : TT} {tk tv : TE} {vs : List Nat} {σ : L2.St} {H1 : Hp} {D : Addr} {Qd : Hp → Prop} (R : Nat → Hp → Prop) (h0 : R 0 (upd H1 D (DcO P w D []))) (hl : ∀ i H, i ≤ xs.length → R i H → SqT K H a xs)
    (hs : ∀ i x H, xs[i]? = some x → R i H → DcTurn K P w g tt tk tv vs σ D (R (i + 1)) x H) (hd : ∀ H, R xs.length H → Qd H) : DcGoal K P w (Itt K a) g tt tk tv vs σ H1 D Qd := by
  refine ⟨fun i m H => m = xs.length - i ∧ i ≤ xs.length ∧ R i H, ⟨xs.length, rfl, Nat.zero_le _, h0⟩, ?_⟩
  rintro i m H ⟨rfl, hi, p⟩
  have q := hl i H hi p
  by_cases hlt : i < xs.length
  · refine .inr ⟨⟨xs, xs[i], q, List.getElem?_eq_getElem hlt⟩, R (i + 1), fun H' p' => ⟨xs.length - (i + 1), by omega, rfl, hlt, p'⟩, fun x H' y => ?_⟩
    obtain ⟨rfl, y⟩ := y
    exact hs i x _ (y xs q) p
  · obtain rfl : i = xs.length := by omega
    exact .inl ⟨⟨xs, q, Nat.le_refl _⟩, hd H p⟩
end
end Eh
set_option Elab.async false
set_option linter.all false
set_option maxRecDepth 100000
set_option maxHeartbeats 4000000
namespace Eh
open PySem PySem.Spec PyProof.Rows L2
def isCh (k : Str) : Bool := decide (k = "mine") || decide (k = "yours")
def handK (k : Str) : Str := if k = "mine" then "keeper" else "caller"
/-- a call, the hand, what comes of it -/
abbrev CRow := CKey × Str × Pl
def rowsCh (hd : Str) (pa : List Nat) (f : Pl → Pl) (i : Nat) : List Pl → List CRow
  | [] => []
  | q :: qs => ((pa, i), hd, f q) :: rowsCh hd pa f (i + 1) qs
def rowsOf (pl : Pl) (y : List Nat × Pl) : List CRow := match y.2 with
  | .leaf _ _ => []
  | .node k ps => if isCh k = true then rowsCh (handK k) y.1 (putP pl y.1) 0 ps else []
def rowsPl (pl : Pl) : List CRow := (subsP pl).flatMap (rowsOf pl)
theorem rowsCh_get {hd : Str} {pa : List Nat} {f : Pl → Pl} : ∀ {qs : List Pl} {i j : Nat} {r : CRow}, (rowsCh hd pa f i qs)[j]? = some r ↔ ∃ q, qs[j]? = some q ∧ r = ((pa, i + j), hd, f q)
  | [], i, j, r => by simp [rowsCh]
  | q :: qs, i, 0, r => by
    rw [rowsCh]
    constructor
    · intro h
      cases (show some _ = some r from h)
      exact ⟨q, rfl, rfl⟩
    · rintro ⟨q', h, rfl⟩
      cases (show some q = some q' from h)
      rfl
  | q :: qs, i, j + 1, r => by
    rw [rowsCh, List.getElem?_cons_succ, List.getElem?_cons_succ, rowsCh_get]
    constructor <;> (rintro ⟨q', h, rfl⟩; exact ⟨q', h, by rw [show i + 1 + j = i + (j + 1) by omega]⟩)
theorem rowsCh_len {hd : Str} {pa : List Nat} {f : Pl → Pl} : ∀ {qs : List Pl} {i : Nat}, (rowsCh hd pa f i qs).length = qs.length
  | [], i => rfl
  | q :: qs, i => by rw [rowsCh, List.length_cons, List.length_cons, rowsCh_len]
theorem rowsCh_map {hd : Str} {pa : List Nat} {f : Pl → Pl} (g : CRow → CRow) (pa2 : List Nat) (f2 : Pl → Pl) (hg : ∀ i q, g ((pa, i), hd, f q) = ((pa2, i), hd, f2 q)) : ∀ {qs : List Pl} {i : Nat}, (rowsCh hd pa f i qs).map g = rowsCh hd pa2 f2 i qs
  | [], i => rfl
  | q :: qs, i => by rw [rowsCh, List.map_cons, hg, rowsCh_map g pa2 f2 hg, rowsCh]
/-- a row of a part, as one of the whole -/
def liftR (k : Str) (ps : List Pl) (i : Nat) (r : CRow) : CRow := ((i :: r.1.1, r.1.2), r.2.1, .node k (ps.set i r.2.2))
theorem open_ch {k : Str} (h : open2.contains k = true) : isCh k = false := by
  have h1 := has_of h
  unfold open2 at h1
  simp only [List.mem_cons, List.not_mem_nil, or_false] at h1
  rcases h1 with rfl | rfl <;> decide +kernel
theorem ch_open {k : Str} (h : isCh k = true) : open2.contains k = false := by
  cases e : open2.contains k with
  | false => rfl
  | true => rw [open_ch e] at h; cases h
theorem rowsOf_lift {k : Str} {ps : List Pl} {i : Nat} {p : Pl} (hp : ps[i]? = some p) (y : List Nat × Pl) : rowsOf (.node k ps) (i :: y.1, y.2) = (rowsOf p y).map (liftR k ps i) := by
  obtain ⟨pa, z⟩ := y
  cases z with
  | leaf k2 t => rfl
  | node k2 qs =>
    show (if isCh k2 = true then rowsCh (handK k2) (i :: pa) (putP (.node k ps) (i :: pa)) 0 qs else []) = (if isCh k2 = true then rowsCh (handK k2) pa (putP p pa) 0 qs else []).map (liftR k ps i)
    split
    · refine (rowsCh_map _ _ _ fun j q => ?_).symm
      show ((i :: pa, j), handK k2, Pl.node k (ps.set i (putP p pa q))) = _
      rw [putP_node hp]
    · rfl
theorem flatMap_map' {α β γ : Type} (f : α → β) (g : β → List γ) : ∀ l : List α, (l.map f).flatMap g = l.flatMap fun x => g (f x)
  | [] => rfl
  | x :: l => by rw [List.map_cons, List.flatMap_cons, List.flatMap_cons, flatMap_map' f g l]
theorem map_flatMap' {α β γ : Type} (f : α → List β) (g : β → γ) : ∀ l : List α, (l.flatMap f).map g = l.flatMap fun x => (f x).map g
  | [] => rfl
  | x :: l => by rw [List.flatMap_cons, List.flatMap_cons, List.map_append, map_flatMap' f g l]
theorem all_append : ∀ (a b : List Pl) (i : Nat), subsAll i (a ++ b) = subsAll i a ++ subsAll (i + a.length) b
  | [], b, i => by rw [List.nil_append, subsAll]; rfl
  | p :: a, b, i => by
    rw [List.cons_append, subsAll, subsAll, all_append a b (i + 1), List.append_assoc, List.length_cons, show i + 1 + a.length = i + (a.length + 1) by omega]
theorem allS_take {ps : List Pl} {j : Nat} {p : Pl} (h : ps[j]? = some p) : subsAll 0 (ps.take (j + 1)) = subsAll 0 (ps.take j) ++ (subsP p).map fun y => (j :: y.1, y.2) := by
  have hj := (List.getElem?_eq_some_iff.mp h).1
  rw [take_succ' h, all_append, List.length_take, Nat.min_eq_left (by omega), subsAll, subsAll, List.append_nil, Nat.zero_add]
/-- the rows of the parts ahead of one -/
def rowsUp (k : Str) (ps : List Pl) : Nat → List CRow
  | 0 => []
  | i + 1 => rowsUp k ps i ++ (match ps[i]? with | some p => (rowsPl p).map (liftR k ps i) | none => [])
theorem rowsUp_succ {k : Str} {ps : List Pl} {i : Nat} {p : Pl} (h : ps[i]? = some p) : rowsUp k ps (i + 1) = rowsUp k ps i ++ (rowsPl p).map (liftR k ps i) := by
  rw [rowsUp, h]
theorem rowsAll_up {k : Str} {ps : List Pl} : ∀ {n : Nat}, n ≤ ps.length → (subsAll 0 (ps.take n)).flatMap (rowsOf (.node k ps)) = rowsUp k ps n
  | 0, _ => by rw [List.take_zero, subsAll]; rfl
  | n + 1, h => by
    have hn : n < ps.length := h
    have hp := List.getElem?_eq_getElem hn
    rw [rowsUp_succ hp, ← rowsAll_up (Nat.le_of_lt hn), allS_take hp, List.flatMap_append]
    congr 1
    rw [flatMap_map', rowsPl, map_flatMap']
    congr 1
    funext y
    exact rowsOf_lift hp y
theorem rows_open {k : Str} {ps : List Pl} (h : open2.contains k = true) : rowsPl (.node k ps) = rowsUp k ps ps.length := by
  have e : subsP (.node k ps) = ([], .node k ps) :: subsAll 0 ps := by rw [subsP, if_pos h]
  rw [rowsPl, e, List.flatMap_cons]
  have : rowsOf (.node k ps) ([], .node k ps) = [] := by
    show (if isCh k = true then _ else _) = _
    rw [if_neg (by rw [open_ch h]; decide)]
  rw [this, List.nil_append, ← rowsAll_up (Nat.le_refl _), List.take_length]
theorem rows_choice {k : Str} {ps : List Pl} (h : isCh k = true) : rowsPl (.node k ps) = rowsCh (handK k) [] id 0 ps := by
  have e : subsP (.node k ps) = [([], .node k ps)] := by rw [subsP, if_neg (by rw [ch_open h]; decide)]
  rw [rowsPl, e, List.flatMap_cons, List.flatMap_nil, List.append_nil]
  show (if isCh k = true then _ else _) = _
  rw [if_pos h]
  have : putP (.node k ps) [] = id := by
    funext q
    rw [putP_nil]
    rfl
  rw [this]
theorem rows_leaf {k : Str} {t : V} : rowsPl (.leaf k t) = [] := by
  rw [rowsPl, subsP, List.flatMap_cons]
  rfl
/-- where a row comes from -/
theorem row_mem {pl : Pl} {r : CRow} : r ∈ rowsPl pl ↔ ∃ k ps q, (r.1.1, Pl.node k ps) ∈ subsP pl ∧ isCh k = true ∧ ps[r.1.2]? = some q ∧ r.2.1 = handK k ∧ r.2.2 = putP pl r.1.1 q := by
  unfold rowsPl
  rw [List.mem_flatMap]
  constructor
  · rintro ⟨⟨pa, z⟩, hm, hr⟩
    cases z with
    | leaf k t => cases hr
    | node k ps =>
      have hr : r ∈ (if isCh k = true then rowsCh (handK k) pa (putP pl pa) 0 ps else []) := hr
      split at hr
      · rename_i hc
        obtain ⟨j, hj⟩ := List.getElem?_of_mem hr
        obtain ⟨q, hq, rfl⟩ := rowsCh_get.mp hj
        exact ⟨k, ps, q, hm, hc, by rw [Nat.zero_add]; exact hq, rfl, rfl⟩
      · cases hr
  · rintro ⟨k, ps, q, hm, hc, hq, e1, e2⟩
    refine ⟨_, hm, ?_⟩
    show r ∈ (if isCh k = true then rowsCh (handK k) r.1.1 (putP pl r.1.1) 0 ps else [])
    rw [if_pos hc]
    have : (rowsCh (handK k) r.1.1 (putP pl r.1.1) 0 ps)[r.1.2]? = some r := rowsCh_get.mpr ⟨q, hq, by rw [Nat.zero_add, ← e1, ← e2]⟩
    exact List.mem_of_getElem? this
/-- in order -/
theorem rowsCh_srt {hd : Str} {pa : List Nat} {f : Pl → Pl} : ∀ {qs : List Pl} {i : Nat}, ((rowsCh hd pa f i qs).map (·.1)).Pairwise ltC
  | [], i => List.Pairwise.nil
  | q :: qs, i => by
    rw [rowsCh, List.map_cons]
    refine List.pairwise_cons.mpr ⟨fun c hc => ?_, rowsCh_srt⟩
    obtain ⟨r, hr, rfl⟩ := List.mem_map.mp hc
    obtain ⟨j, hj⟩ := List.getElem?_of_mem hr
    obtain ⟨q', _, rfl⟩ := rowsCh_get.mp hj
    exact .inr ⟨rfl, by show i < i + 1 + j; omega⟩
theorem rowsOf_place {pl : Pl} {y : List Nat × Pl} {r : CRow} (h : r ∈ rowsOf pl y) : r.1.1 = y.1 := by
  obtain ⟨pa, z⟩ := y
  cases z with
  | leaf k t => cases h
  | node k ps =>
    have h : r ∈ (if isCh k = true then rowsCh (handK k) pa (putP pl pa) 0 ps else []) := h
    split at h
    · obtain ⟨j, hj⟩ := List.getElem?_of_mem h
      obtain ⟨q, _, rfl⟩ := rowsCh_get.mp hj
      rfl
    · cases h
theorem rows_srt (pl : Pl) : ((rowsPl pl).map (·.1)).Pairwise ltC := by
  have go : ∀ l : List (List Nat × Pl), (l.map (·.1)).Pairwise (fun a b => HSP.lexN a b = true) → ((l.flatMap (rowsOf pl)).map (·.1)).Pairwise ltC := by
    intro l
    induction l with
    | nil => intro _; exact List.Pairwise.nil
    | cons y l ih =>
      intro h
      rw [List.map_cons, List.pairwise_cons] at h
      rw [List.flatMap_cons, List.map_append]
      refine List.pairwise_append.mpr ⟨?_, ih h.2, fun a ha b hb => ?_⟩
      · obtain ⟨pa, z⟩ := y
        cases z with
        | leaf k t => exact List.Pairwise.nil
        | node k ps =>
          show ((if isCh k = true then rowsCh (handK k) pa (putP pl pa) 0 ps else []).map (·.1)).Pairwise ltC
          split
          · exact rowsCh_srt
          · exact List.Pairwise.nil
      · obtain ⟨r, hr, rfl⟩ := List.mem_map.mp ha
        obtain ⟨r2, hr2, rfl⟩ := List.mem_map.mp hb
        obtain ⟨y2, hy2, hr2⟩ := List.mem_flatMap.mp hr2
        rw [show ltC r.1 r2.1 = (HSP.lexN r.1.1 r2.1.1 = true ∨ (r.1.1 = r2.1.1 ∧ r.1.2 < r2.1.2)) from rfl, rowsOf_place hr, rowsOf_place hr2]
        exact .inl (h.1 _ (List.mem_map_of_mem hy2))
  exact go _ (subs_srt pl)
theorem rows_nodup (pl : Pl) : ((rowsPl pl).map (·.1)).Nodup := (rows_srt pl).imp fun h => ltC_ne h
theorem subs_okk {pl : Pl} (hk : plOk pl = true) {y : List Nat × Pl} (h : y ∈ subsP pl) : plOk y.2 = true := by
  obtain ⟨j, hj⟩ := List.getElem?_of_mem h
  obtain ⟨x, _, h2⟩ := back_at (paths_subs hk) hj
  exact h2.2.1
/-- the calls of a hand are those of its rows -/
theorem hand_choice {k : Str} {hd : Str} (hc : isCh k = true) (hh : isHand hd) : (handK k = hd) ↔ (k = choiceOf hd) := by
  have hk : k = "mine" ∨ k = "yours" := by
    unfold isCh at hc
    simpa using hc
  rcases hk with rfl | rfl <;> rcases hh with rfl | rfl <;> decide +kernel
theorem isCh_choice {hd : Str} (hh : isHand hd) : isCh (choiceOf hd) = true := by
  rcases hh with rfl | rfl <;> decide +kernel
theorem rowsCh_fst {hd : Str} {pa : List Nat} {f : Pl → Pl} : ∀ {qs : List Pl} {i : Nat}, (rowsCh hd pa f i qs).map (·.1) = (List.range' i qs.length).map fun j => (pa, j)
  | [], i => rfl
  | q :: qs, i => by
    rw [rowsCh, List.map_cons, rowsCh_fst, List.length_cons, List.range'_succ, List.map_cons]
theorem calls_rows {pl : Pl} (hk : plOk pl = true) {hd : Str} (hh : isHand hd) : callsPl pl hd = ((rowsPl pl).filter fun r => decide (r.2.1 = hd)).map (·.1) := by
  have go : ∀ l : List (List Nat × Pl), (∀ y ∈ l, plOk y.2 = true) → l.flatMap (callsOf hd) = ((l.flatMap (rowsOf pl)).filter fun r => decide (r.2.1 = hd)).map (·.1) := by
    intro l
    induction l with
    | nil => intro _; rfl
    | cons y l ih =>
      intro h
      rw [List.flatMap_cons, List.flatMap_cons, List.filter_append, List.map_append, ih fun y hy => h y (List.mem_cons_of_mem _ hy)]
      congr 1
      obtain ⟨pa, z⟩ := y
      have hz := h _ List.mem_cons_self
      cases z with
      | leaf k t =>
        obtain ⟨n1, n2⟩ := leaf_no hz
        have : ¬ k = choiceOf hd := fun e => by
          rcases choice_two hh with h2 | h2
          · exact n1 (e.trans h2)
          · exact n2 (e.trans h2)
        rw [show callsOf hd (pa, Pl.leaf k t) = [] from if_neg this]
        rfl
      | node k ps =>
        show (if k = choiceOf hd then (List.range ps.length).map (fun i => (pa, i)) else []) = ((if isCh k = true then rowsCh (handK k) pa (putP pl pa) 0 ps else []).filter fun r => decide (r.2.1 = hd)).map (·.1)
        have all : ∀ r ∈ rowsCh (handK k) pa (putP pl pa) 0 ps, r.2.1 = handK k := fun r hr => by
          obtain ⟨j, hj⟩ := List.getElem?_of_mem hr
          obtain ⟨q, _, rfl⟩ := rowsCh_get.mp hj
          rfl
        by_cases e : k = choiceOf hd
        · have hc : isCh k = true := by rw [e]; exact isCh_choice hh
          rw [if_pos e, if_pos hc, List.filter_eq_self.mpr fun r hr => decide_eq_true ((all r hr).trans ((hand_choice hc hh).mpr e)), rowsCh_fst, List.range_eq_range']
        · rw [if_neg e]
          split
          · rename_i hc
            rw [List.filter_eq_nil_iff.mpr fun r hr => by
              rw [all r hr]
              simpa using fun z => e ((hand_choice hc hh).mp z)]
            rfl
          · rfl
  exact go _ fun y hy => subs_okk hk hy
end Eh
set_option Elab.async false
set_option linter.all false
set_option maxRecDepth 100000
set_option maxHeartbeats 8000000
namespace Eh
open PySem PySem.Spec PyProof.Rows L2
section
variable {X : Cx} {K : PySem.W.Frag} {P : Program} {w : World}
theorem dnewC {pos : Pos} (hP : X.prog = P) (hw : X.w = w) : PE X (.Dict [] [] pos) (tDNewC P w) := by
  subst hP hw
  exact pe_dnewC
theorem setDC (hK : X.K = K) (hP : X.prog = P) (hw : X.w = w) (hu : X.A.units + 9 < cLine) : PSet X (rSetC K P w) := by
  subst hK hP hw
  exact set_dictC hu
theorem getDC {o i : Expr} {td ty : TE} {pos : Pos} (hK : X.K = K) (hP : X.prog = P) (hw : X.w = w) (hu : X.A.units + 9 < cLine) (ho : PE X o td) (hi : PE X i ty) (hs : NoSl i) : PE X (.Subscript o i pos) (tGetC K P w td ty) := by
  subst hK hP hw
  exact pe_dgetC hu ho hi hs
theorem keysDC {tg e : Expr} {td : TE} (hP : X.prog = P) (hw : X.w = w) (he : PE X e td) : PI X tg e (iKeysC P w td) := by
  subst hP hw
  exact pi_keysC he
theorem dictDC (hK : X.K = K) (hP : X.prog = P) (hw : X.w = w) (hcalm : X.calm = true) (hu : X.A.units + 12 < cLine) : CallR X (.type "dict") (rDictPC K P w) := by
  subst hK hP hw
  exact dict_pairsC hcalm hu
theorem sortDC (hK : X.K = K) (hP : X.prog = P) (hw : X.w = w) (hcalm : X.calm = true) (hu : X.A.units + 64 < cLine) : CallR X (.builtin "sorted") (rSortC K P w) := by
  subst hK hP hw
  exact sortC hcalm hu
theorem listDC (hP : X.prog = P) (hw : X.w = w) (hcalm : X.calm = true) : CallR X (.type "list") (rListC P w) := by
  subst hP hw
  exact list_dictC hcalm
theorem hu9e {A : Around} {k : Nat} (hr : Room k A) : A.units + 9 < cLine := by
  have := hr.un
  have := hu64e hr
  omega
theorem hu12e {A : Around} {k : Nat} (hr : Room k A) : A.units + 12 < cLine := by
  have := hu64e hr
  omega
end
/-- a row as the dict has it: the pair of the hand and of what comes of the call -/
def RowAt (K : PySem.W.Frag) (H : Hp) (e : CEnt) (r : CRow) : Prop := e.1 = r.1 ∧ ∃ t v, e.2.2 = .ref t ∧ SqT K H t [.str r.2.1, v] ∧ At K H v r.2.2
theorem RowAt.tk {K : PySem.W.Frag} {H H' : Hp} {e : CEnt} {r : CRow} (h : RowAt K H e r) (t : Tk H H') : RowAt K H' e r := by
  obtain ⟨h1, a, v, h2, h3, h4⟩ := h
  exact ⟨h1, a, v, h2, t.seq h3, h4.tk t⟩
abbrev RowsC (K : PySem.W.Frag) (H : Hp) (L : List CEnt) (rs : List CRow) : Prop := Paired (RowAt K H) L rs
theorem rowsC_tk {K : PySem.W.Frag} {H H' : Hp} {L : List CEnt} {rs : List CRow} (h : RowsC K H L rs) (t : Tk H H') : RowsC K H' L rs := Paired.mono (fun _ _ x => x.tk t) h
theorem rowsC_keys {K : PySem.W.Frag} {H : Hp} {L : List CEnt} {rs : List CRow} (h : RowsC K H L rs) : L.map (·.1) = rs.map (·.1) := by
  induction h with
  | nil => rfl
  | cons a t ih => rw [List.map_cons, List.map_cons, ih, a.1]
theorem subs_lenle : ∀ {pa : List Nat} {pl q : Pl}, (pa, q) ∈ subsP pl → (nodesOf q).length ≤ (nodesOf pl).length
  | [], .leaf k t, q, h => by
    rw [subsP] at h
    cases (List.mem_singleton.mp h)
    exact Nat.le_refl _
  | i :: r, .leaf k t, q, h => by
    rw [subsP] at h
    cases (Prod.mk.inj (List.mem_singleton.mp h)).1
  | pa, .node k ps, q, h => by
    rcases mem_node.mp h with ⟨_, rfl⟩ | ⟨_, j, r', p, _, hp, hq⟩
    · exact Nat.le_refl _
    · have := subs_lenle hq
      have := nodesOf_get hp
      rw [nodesOf, List.length_cons]
      omega
/-- how many rows there are -/
theorem rows_len (pl : Pl) : (rowsPl pl).length ≤ (nodesOf pl).length * (nodesOf pl).length := by
  have go : ∀ l : List (List Nat × Pl), (∀ y ∈ l, y ∈ subsP pl) → (l.flatMap (rowsOf pl)).length ≤ l.length * (nodesOf pl).length := by
    intro l
    induction l with
    | nil => intro _; exact Nat.zero_le _
    | cons y l ih =>
      intro h
      rw [List.flatMap_cons, List.length_append, List.length_cons, Nat.succ_mul, Nat.add_comm]
      refine Nat.add_le_add (ih fun y hy => h y (List.mem_cons_of_mem _ hy)) ?_
      obtain ⟨pa, z⟩ := y
      have hz := h _ List.mem_cons_self
      have hn : (nodesOf z).length ≤ (nodesOf pl).length := by
        have := subs_lenle hz
        exact this
      cases z with
      | leaf k t => exact Nat.zero_le _
      | node k ps =>
        show (if isCh k = true then rowsCh (handK k) pa (putP pl pa) 0 ps else []).length ≤ _
        split
        · rw [rowsCh_len]
          have := nodes_ge ps
          rw [nodesOf, List.length_cons] at hn
          omega
        · exact Nat.zero_le _
  exact Nat.le_trans (go _ fun y hy => hy) (Nat.mul_le_mul_right _ (subs_len pl))
end Eh
set_option Elab.async false
set_option linter.all false
set_option maxRecDepth 100000
set_option maxHeartbeats 8000000
namespace Eh
open PySem PySem.Spec PyProof.Rows L2
theorem iteV {c : Bool} {F : V → Prop} {x y z : V} (hz : z = if c = true then x else y) (h : F z) : if c = true then F x else F y := by
  subst hz
  cases c with
  | true => exact h
  | false => exact h
theorem leaf_noch {k : Str} {t : V} (h : leafOk k t = true) : isCh k = false := by
  cases e : isCh k with
  | false => rfl
  | true =>
    have hl : leafKinds.contains k = true := leaf_kind h
    have hk : k = "mine" ∨ k = "yours" := by
      unfold isCh at e
      simpa using e
    rcases hk with rfl | rfl
    · exact absurd hl (by decide +kernel)
    · exact absurd hl (by decide +kernel)
theorem valC_get : ∀ {L : List CEnt} {i : Nat} {e : CEnt}, (L.map (·.1)).Nodup → L[i]? = some e → valC L e.1 = some e.2.2
  | [], i, e, _, h => by simp at h
  | a :: L, 0, e, _, h => by
    cases (show some a = some e from h)
    unfold valC
    rw [List.find?_cons_of_pos (by simp)]
    rfl
  | a :: L, i + 1, e, nd, h => by
    have h' : L[i]? = some e := by simpa using h
    rw [List.map_cons] at nd
    have ne : ¬ a.1 = e.1 := fun z => (List.nodup_cons.mp nd).1 (by rw [z]; exact List.mem_map_of_mem (List.mem_of_getElem? h'))
    have ih := valC_get (List.nodup_cons.mp nd).2 h'
    unfold valC at ih ⊢
    rw [List.find?_cons_of_neg (by simpa using ne)]
    exact ih
theorem rows_none {pl : Pl} (h1 : isCh (kindPl pl) = false) (h2 : open2.contains (kindPl pl) = false) : rowsPl pl = [] := by
  cases pl with
  | leaf k t => exact rows_leaf
  | node k ps =>
    have e : subsP (.node k ps) = [([], .node k ps)] := by rw [subsP, if_neg (by rw [show open2.contains k = false from h2]; decide)]
    rw [rowsPl, e, List.flatMap_cons, List.flatMap_nil, List.append_nil]
    show (if isCh k = true then _ else _) = _
    rw [if_neg (by rw [show isCh k = false from h1]; decide)]
theorem rowsUp_pre {k : Str} {ps : List Pl} (j : Nat) : ∀ d : Nat, ∃ r, rowsUp k ps (j + d) = rowsUp k ps j ++ r
  | 0 => ⟨[], by rw [List.append_nil]; rfl⟩
  | d + 1 => by
    obtain ⟨r, e⟩ := rowsUp_pre j d
    exact ⟨_, by rw [← Nat.add_assoc, rowsUp, e, List.append_assoc]⟩
/-- the rows made so far are the first ones of the whole -/
theorem rows_pre {k : Str} {ps : List Pl} {j : Nat} {p : Pl} (ho : open2.contains k = true) (hp : ps[j]? = some p) (i : Nat) : ∃ r, rowsPl (.node k ps) = rowsUp k ps j ++ ((rowsPl p).take i).map (liftR k ps j) ++ r := by
  have hj := (List.getElem?_eq_some_iff.mp hp).1
  obtain ⟨r, e⟩ := rowsUp_pre (k := k) (ps := ps) (j + 1) (ps.length - (j + 1))
  rw [show j + 1 + (ps.length - (j + 1)) = ps.length by omega, rowsUp_succ hp] at e
  refine ⟨((rowsPl p).drop i).map (liftR k ps j) ++ r, ?_⟩
  have sp : (rowsPl p).map (liftR k ps j) = ((rowsPl p).take i).map (liftR k ps j) ++ ((rowsPl p).drop i).map (liftR k ps j) := by rw [← List.map_append, List.take_append_drop]
  rw [rows_open ho, e, sp]
  simp only [List.append_assoc]
theorem but_tk {d : Addr} {o : HO} {H H' : Hp} (b : But d H H') (h : H d = some o) (ho : ∀ ys, o ≠ .tup ys) (ho2 : ∀ z ys, o ≠ .frz z (.tup ys)) : Tk H H' := fun c ys r => by
  have n : c ≠ d := fun z => by
    subst z
    rcases r with r | ⟨z, r⟩
    · rw [h] at r; cases r; exact ho _ rfl
    · rw [h] at r; cases r; exact ho2 _ _ rfl
  rcases r with r | ⟨z, r⟩
  · exact .inl (b _ _ n r)
  · exact .inr ⟨z, b _ _ n r⟩
theorem subs_lenle3 : ∀ {pa : List Nat} {pl q : Pl}, (pa, q) ∈ subsP pl → pa.length < (nodesOf pl).length
  | [], pl, q, _ => nodesOf_pos pl
  | i :: r, .leaf k t, q, h => by
    rw [subsP] at h
    cases (Prod.mk.inj (List.mem_singleton.mp h)).1
  | i :: r, .node k ps, q, h => by
    rcases mem_node.mp h with ⟨e, _⟩ | ⟨_, j, r', p, e, hp, hq⟩
    · cases e
    · cases e
      have := subs_lenle3 hq
      have := nodesOf_get hp
      rw [nodesOf, List.length_cons, List.length_cons]
      omega
def ch2 : List Str := ["mine", "yours"]
theorem ch2_is (k : Str) : ch2.contains k = isCh k := by
  show (k == "mine" || (k == "yours" || false)) = (decide (k = "mine") || decide (k = "yours"))
  rw [Bool.or_false]
  rfl
section
variable {P : Program} {w : World} {K : PySem.W.Frag} {mg : Str → Option Value} {base : Heap}
def spLawCalls (P : Program) (w : World) (K : PySem.W.Frag) (n : Nat) : Sp := fun vs H Q _ => ∃ v pl, vs = [v] ∧ At K H v pl ∧ (nodesOf pl).length ≤ n ∧ n < 200 ∧ ∀ d L H', Same H H' → H d = none → H' d = some (DcO P w d L) → KeysAt K H' L → RowsC K H' L (rowsPl pl) → Q (.ref d) H'
theorem ok_lcalls {f : Addr} {fd : FuncData} (F : Fun K "_law_calls" "_law_calls" s__law_calls f fd) (T : Txt mg) (m : mg "_law_calls" = some (.ref f)) (kp : PySem.W.keepIn K (.ref f) = true) (b : Binds K fd ["plain"] []) : ∀ n : Nat, FnOk P w K mg base CX0 (n + 1) f fd ["plain"] (spLawCalls P w K n)
  | 0 => F.ok sc__law_calls (fun vs H Q E h => by
      obtain ⟨v, pl, rfl, _⟩ := h
      rfl) (fun cdv A outer s H vs Q E hr h => by
      obtain ⟨v, pl, rfl, _, h0, _⟩ := h
      have := nodesOf_pos pl
      omega)
  | n + 1 => by
    have G := ok_lcalls F T m kp b n
    refine F.ok sc__law_calls (fun vs H Q E h => ?_) (fun cdv A outer s H vs Q E hr h => ?_)
    · obtain ⟨v, pl, rfl, _⟩ := h
      rfl
    · obtain ⟨v, pl, rfl, hA, hn, hn1, q⟩ := h
      refine ⟨_, (pss_cons (ps_if (pt_cmpR (inQ (K := K) rfl) (pe_ix (ixT (K := K) rfl) (pv 0) pe_int (fun _ _ => rfl)) (pe_lst (pa_cons pe_str (pa_cons pe_str pa_nil))) (by rfl))
  (pss_cons (ps_set (i := 1) sc__law_calls.nd rfl (.inr rfl) (pe_ifExp (pt_cmpR op_eq (pe_ix (ixT (K := K) rfl) (pv 0) pe_int (fun _ _ => rfl)) pe_str (nomark _)) pe_str pe_str))
  (pss_one (ps_ret (pe_callTy (dictDC (K := K) (P := P) (w := w) rfl rfl rfl (by rfl) (hu12e hr)) (by rfl) T.dict_ (by decide +kernel) (pa_cons (pe_lc (own := [("at", 2)]) (g := gName 2) (by rfl) sc__law_calls.nd (pi_range1 (by rfl) T.range_ (pa_cons (pe_callB (lenQ (K := K) rfl) (by rfl) T.len_ (by decide +kernel) (pa_cons (pe_ix (ixT (K := K) rfl) (pv 0) pe_int (fun _ _ => rfl)) pa_nil)) pa_nil)) (blkOk_by (by kernel_rfl)) (fun _ _ _ _ _ => (pg_name (i := 2) sc__law_calls.nd rfl (.inl rfl))) (fun _ _ _ _ _ => pts_nil) (fun _ _ _ _ _ => (pe_tup (pa_cons (pe_tup (pa_cons (pe_tup pa_nil) (pa_cons (pv 2) pa_nil))) (pa_cons (pe_tup (pa_cons (pv 1) (pa_cons (pe_ix (ixT (K := K) rfl) (pe_ix (ixT (K := K) rfl) (pv 0) pe_int (fun _ _ => rfl)) (pv 2) (fun _ _ => rfl)) pa_nil))) pa_nil))))) pa_nil)))))
  pss_nil)
  (pss_cons (ps_set (i := 3) sc__law_calls.nd rfl (.inl rfl) (dnewC (P := P) (w := w) rfl rfl))
  (pss_cons (ps_if (pt_cmpR (inQ (K := K) rfl) (pe_ix (ixT (K := K) rfl) (pv 0) pe_int (fun _ _ => rfl)) (pe_lst (pa_cons pe_str (pa_cons pe_str pa_nil))) (by rfl))
  (pss_one (ps_for PassesOwn.never (by rfl) (pi_range1 (by rfl) T.range_ (pa_cons (pe_callB (lenQ (K := K) rfl) (by rfl) T.len_ (by decide +kernel) (pa_cons (pe_ix (ixT (K := K) rfl) (pv 0) pe_int (fun _ _ => rfl)) pa_nil)) pa_nil)) (pg_name (i := 2) sc__law_calls.nd rfl (.inl rfl))
  (pss_cons (ps_set (i := 4) sc__law_calls.nd rfl (.inl rfl) (pe_call G hr (by rfl) m kp b .nil pass0 (pa_cons (pe_ix (ixT (K := K) rfl) (pe_ix (ixT (K := K) rfl) (pv 0) pe_int (fun _ _ => rfl)) (pv 2) (fun _ _ => rfl)) pa_nil)))
  (pss_one (ps_lock (ps_for PassesOwn.never (by rfl) (keysDC (P := P) (w := w) rfl rfl (pv 4)) (pg_name (i := 5) sc__law_calls.nd rfl (.inl rfl))
  (pss_cons (ps_asg (getDC (K := K) (P := P) (w := w) rfl rfl rfl (hu9e hr) (pv 4) (pv 5) (fun _ _ => rfl)) (pg_tup (by rfl) (pgs_cons (pg_name (i := 1) sc__law_calls.nd rfl (.inr rfl)) (pgs_cons (pg_name (i := 6) sc__law_calls.nd rfl (.inl rfl)) pgs_nil))))
  (pss_cons (ps_set (i := 7) sc__law_calls.nd rfl (.inl rfl) (pe_tup (pa_cons (pe_ix (ixT (K := K) rfl) (pv 0) pe_int (fun _ _ => rfl)) (pa_cons (pe_op (catA (K := K) rfl) (pe_op (catA (K := K) rfl) (pe_slice (slA (K := K) rfl) (pe_ix (ixT (K := K) rfl) (pv 0) pe_int (fun _ _ => rfl)) po_none (po_some (pv 2))) (pe_tup (pa_cons (pv 6) pa_nil))) (pe_slice (slA (K := K) rfl) (pe_ix (ixT (K := K) rfl) (pv 0) pe_int (fun _ _ => rfl)) (po_some (pe_op op_add (pv 2) pe_int)) po_none)) pa_nil))))
  (pss_one (ps_asg (pe_tup (pa_cons (pv 1) (pa_cons (pv 7) pa_nil))) (pg_sub (pv 3) (pe_tup (pa_cons (pe_op (catA (K := K) rfl) (pe_tup (pa_cons (pv 2) pa_nil)) (pe_ix (ixT (K := K) rfl) (pv 5) pe_int (fun _ _ => rfl))) (pa_cons (pe_ix (ixT (K := K) rfl) (pv 5) pe_int (fun _ _ => rfl)) pa_nil))) (setDC (K := K) (P := P) (w := w) rfl rfl rfl (hu9e hr)))))))))))))
  pss_nil)
  (pss_one (ps_ret (pv 3)))))), ?_⟩
      have okk := hA.plOk
      obtain ⟨a, k, y, rfl, hsa, em⟩ : ∃ a k y, v = .ref a ∧ SqT K H a [.str k, y] ∧ k = kindPl pl := by
        cases hA with
        | leaf h o => exact ⟨_, _, _, rfl, h, rfl⟩
        | node h1 h2 o a1 a2 r => exact ⟨_, _, _, rfl, h1, rfl⟩
      refine ⟨_, rfl, a, _, 0, .str k, rfl, rfl, hsa, rfl, lenOk 2, fun l nl => ?_⟩
      refine ⟨l, ch2.map V.str, rfl, .inl (SqL.of upd_same), rfl, flat_strs _, _, rfl, ?_⟩
      rw [inV_strs]
      have s1 : Same H (upd H l (.lst [.str "mine", .str "yours"])) := same_new nl
      have hA1 := hA.tk (stk s1)
      have hsa1 := (stk s1).seq hsa
      generalize upd H l (.lst [.str "mine", .str "yours"]) = H1 at s1 hA1 hsa1 ⊢
      clear hsa nl
      rw [ch2_is]
      cases ec : isCh k with
      | true =>
        refine iteT ?_
        cases hA1 with
        | leaf h o =>
          rename_i k0 t0
          have z : isCh k0 = true := by rw [← show k = k0 from em]; exact ec
          rw [leaf_noch o] at z
          cases z
        | node h1 h2 o a1 a2 r =>
        rename_i c k' vs ps
        obtain rfl : k = k' := em
        have hlen := r.length
        refine ⟨_, rfl, a, _, 0, .str k, rfl, rfl, h1, rfl, rfl, _, rfl, ?_⟩
        refine iteV (x := .str "keeper") (y := .str "caller") (z := .str (handK k)) (F := fun z => tC z _ _ _) ?_ ?_
        · unfold handK
          by_cases e : k = "mine"
          · rw [if_pos e, if_pos (decide_eq_true (by rw [e]))]
          · rw [if_neg e, if_neg (by rw [decide_eq_false (fun z => e (by injection z))]; decide)]
        refine ⟨_, rfl, a, _, 1, .ref c, rfl, rfl, h1, rfl, .inl ⟨c, vs, rfl, .inr h2, ?_⟩⟩
        have hn9 : vs.length < 200 := by
          rw [nodesOf, List.length_cons] at hn
          have := nodes_ge ps
          omega
        refine ⟨(vs.length : Int), rfl, by omega, by omega, fun D nD => ?_⟩
        refine lcR (lo := 0) (n := (vs.length : Int).toNat) (fun j acc H2 => Same H1 H2 ∧ ∃ (ts : List Addr) (L : List CEnt), acc = ts.map V.ref ∧ Paired (fun t (x : CEnt) => SqT K H2 t [.ref x.2.1, x.2.2]) ts L ∧ KeysAt K H2 L ∧ RowsC K H2 L ((rowsCh (handK k) [] id 0 ps).take j)) ⟨same_new nD, [], [], rfl, .nil, fun e he => (nomatch he), by rw [List.take_zero]; exact .nil⟩ ?_ ?_
        · rintro j acc H2 hj hl e ⟨s2, ts, L, rfl, hp, kk, rr⟩
          have hj : j < vs.length := by omega
          obtain ⟨p, hpj, hAp⟩ := r.get (List.getElem?_eq_getElem hj)
          rw [Int.zero_add]
          refine ⟨lenOk 0, fun t0 n0 => ⟨_, rfl, lenOk 2, fun t1 n1 => ?_⟩⟩
          have m1 : Same H2 (upd H2 t0 (.tup [])) := same_new n0
          have e0 : upd H2 t0 (.tup []) t0 = some (.tup []) := upd_same
          generalize upd H2 t0 (.tup []) = H3 at m1 e0 n1 ⊢
          have m2 : Same H3 (upd H3 t1 (.tup [.ref t0, .int (j : Int)])) := same_new n1
          have e1 : upd H3 t1 (.tup [.ref t0, .int (j : Int)]) t1 = some (.tup [.ref t0, .int (j : Int)]) := upd_same
          have e0' := m2 _ _ e0
          generalize upd H3 t1 (.tup [.ref t0, .int (j : Int)]) = H4 at m2 e1 e0' ⊢
          have s4 := s2.trans (m1.trans m2)
          refine ⟨_, rfl, _, rfl, a, _, 1, .ref c, rfl, rfl, (stk s4).seq h1, rfl, _, rfl, c, vs, (j : Int), vs[j], rfl, rfl, (stk s4).seq h2, atI_nat (List.getElem?_eq_getElem hj), lenOk 2, fun t2 n2 => ?_⟩
          have m3 : Same H4 (upd H4 t2 (.tup [.str (handK k), vs[j]])) := same_new n2
          have e2 : upd H4 t2 (.tup [.str (handK k), vs[j]]) t2 = some (.tup [.str (handK k), vs[j]]) := upd_same
          generalize upd H4 t2 (.tup [.str (handK k), vs[j]]) = H5 at m3 e2 ⊢
          refine ⟨lenOk 2, fun t3 n3 => ?_⟩
          have m4 : Same H5 (upd H5 t3 (.tup [.ref t1, .ref t2])) := same_new n3
          have e3 : upd H5 t3 (.tup [.ref t1, .ref t2]) t3 = some (.tup [.ref t1, .ref t2]) := upd_same
          generalize upd H5 t3 (.tup [.ref t1, .ref t2]) = H6 at m4 e3 ⊢
          have m26 : Same H2 H6 := m1.trans (m2.trans (m3.trans m4))
          have e6 := m26 _ _ e
          have tk := Tk.put (ys := ts.map V.ref ++ [V.ref t3]) e6
          have t26 := (stk m26).trans tk
          refine LcK.mk hl (by omega) e6 ⟨fun b' o' eb => ?_, ts ++ [t3], L ++ [(([], j), t1, .ref t2)], by rw [List.map_append]; rfl, ?_, ?_, ?_⟩
          · rw [upd_ne (ne_of_none eb nD)]
            exact m26 _ _ (s2 _ _ eb)
          · exact Paired.snoc (Paired.mono (fun t x h => t26.seq h) hp) (tk.seq (SqT.of e3))
          · intro e' he'
            rcases List.mem_append.mp he' with h | h
            · exact (kk e' h).tk t26
            · rw [List.mem_singleton.mp h]
              exact ⟨t1, t0, rfl, tk.seq (SqT.of (m4 _ _ (m3 _ _ e1))), tk.seq (SqT.of (m4 _ _ (m3 _ _ e0')))⟩
          · have hrow : (rowsCh (handK k) [] id 0 ps)[j]? = some (([], 0 + j), handK k, p) := rowsCh_get.mpr ⟨p, hpj, rfl⟩
            rw [take_succ' hrow, Nat.zero_add]
            exact Paired.snoc (rowsC_tk rr t26) ⟨rfl, t2, vs[j], rfl, tk.seq (SqT.of (m4 _ _ e2)), hAp.tk ((stk s4).trans ((stk (m3.trans m4)).trans tk))⟩
        · rintro acc H2 hl e ⟨s2, ts, L, rfl, hp, kk, rr⟩
          rw [List.take_of_length_le (by rw [rowsCh_len]; omega), ← rows_choice ec] at rr
          refine ⟨D, ts, L, rfl, SqL.of e, hp, kk, by rw [rowsC_keys rr]; exact rows_nodup _, fun p np => ?_⟩
          have sn : Same H2 (upd H2 p (DcO P w p L)) := same_new np
          exact q p L _ (s1.trans (s2.trans sn)) ((s1.trans s2).free np) upd_same (kk.tk (stk sn)) (rowsC_tk rr (stk sn))
      | false =>
        refine iteF ?_
        refine fun d nd => ?_
        have s2 : Same H1 (upd H1 d (DcO P w d [])) := same_new nd
        have ed : upd H1 d (DcO P w d []) d = some (DcO P w d []) := upd_same
        generalize upd H1 d (DcO P w d []) = H2 at s2 ed ⊢
        refine ⟨_, rfl, a, _, 0, .str k, rfl, rfl, (stk s2).seq hsa1, rfl, lenOk 2, fun l nl => ?_⟩
        refine ⟨l, open2.map V.str, rfl, .inl (SqL.of upd_same), rfl, flat_strs _, _, rfl, ?_⟩
        rw [inV_strs]
        have s3 : Same H2 (upd H2 l (.lst [.str "all", .str "some"])) := same_new nl
        generalize upd H2 l (.lst [.str "all", .str "some"]) = H3 at s3 ⊢
        have ed3 := s3 _ _ ed
        have s13 := s2.trans s3
        have hA3 := hA1.tk (stk s13)
        have nd0 : H d = none := s1.free nd
        clear s2 s3 ed nl hsa1 hA1
        cases eo : open2.contains k with
        | false =>
          refine iteF ⟨_, rfl, q d [] H3 (s1.trans s13) nd0 ed3 (fun e he => (nomatch he)) ?_⟩
          rw [rows_none (by rw [← em]; exact ec) (by rw [← em]; exact eo)]
          exact .nil
        | true =>
          refine iteT ?_
          cases hA3 with
          | leaf h o =>
            rename_i k0 t0
            have h1 : leafKinds.contains k0 = false := node_kind (open2_node (by rw [← show k = k0 from em]; exact eo))
            rw [leaf_kind o] at h1
            cases h1
          | node h1 h2 o a1 a2 r =>
          rename_i c k' vs ps
          obtain rfl : k = k' := em
          have hlen := r.length
          have hn9 : vs.length < 200 := by
            rw [nodesOf, List.length_cons] at hn
            have := nodes_ge ps
            omega
          refine ⟨_, rfl, a, _, 1, .ref c, rfl, rfl, h1, rfl, .inl ⟨c, vs, rfl, .inr h2, ?_⟩⟩
          refine ⟨(vs.length : Int), rfl, by omega, by omega, ?_⟩
          refine for_range (lo := 0) (n := (vs.length : Int).toNat) (fun j σ H4 => ∃ L x1 x2 x4 x5 x6 x7, σ = [some (.ref a), x1, x2, some (.ref d), x4, x5, x6, x7] ∧ But d H3 H4 ∧ H4 d = some (DcO P w d L) ∧ KeysAt K H4 L ∧ RowsC K H4 L (rowsUp k ps j)) ?_ ?_ ?_
          · exact ⟨[], none, none, none, none, none, none, rfl, fun b' o' _ eb => eb, ed3, fun e he => (nomatch he), .nil⟩
          · rintro j σ H4 hj ⟨L, x1, x2, x4, x5, x6, x7, rfl, b4, ed4, kk4, rr4⟩
            have hj : j < vs.length := by omega
            obtain ⟨p, hpj, hAp⟩ := r.get (List.getElem?_eq_getElem hj)
            rw [Int.zero_add]
            have t4 : Tk H3 H4 := but_tk b4 ed3 (fun _ z => nomatch z) (fun _ _ z => nomatch z)
            have hpn := nodesOf_get hpj
            rw [nodesOf, List.length_cons] at hn
            refine ⟨_, rfl, a, _, 1, .ref c, rfl, rfl, t4.seq h1, rfl, ?_⟩
            refine ⟨_, rfl, c, _, (j : Int), vs[j], rfl, rfl, t4.seq h2, atI_nat (List.getElem?_eq_getElem hj), vs[j], p, rfl, hAp.tk t4, by omega, by omega, fun d2 L2 H5 s5 nd2 e5 kk5 rr5 => ?_⟩
            refine ⟨d2, _, e5, trivial, fun od => ?_⟩
            have eL : upd H5 d2 (.frz od (DcO P w d2 L2)) d2 = some (.frz od (DcO P w d2 L2)) := upd_same
            have n25 : d ≠ d2 := ne_of_none ed4 nd2
            have ed5 : upd H5 d2 (.frz od (DcO P w d2 L2)) d = some (DcO P w d L) := by rw [upd_ne n25]; exact s5 _ _ ed4
            have tL : Tk H5 (upd H5 d2 (.frz od (DcO P w d2 L2))) := but_tk (fun b' o' n e => by rw [upd_ne n]; exact e) e5 (fun _ z => nomatch z) (fun _ _ z => nomatch z)
            have kkL2 := kk5.tk tL
            have rrL2 := rowsC_tk rr5 tL
            have kkL := (kk4.tk (stk s5)).tk tL
            have rrL := rowsC_tk (rowsC_tk rr4 (stk s5)) tL
            have tt := t4.trans ((stk s5).trans tL)
            have bL : ∀ b' o', b' ≠ d → b' ≠ d2 → H5 b' = some o' → upd H5 d2 (.frz od (DcO P w d2 L2)) b' = some o' := fun b' o' _ n e => by rw [upd_ne n]; exact e
            have nd2H : H3 d2 = none := by
              cases hz : H3 d2 with
              | none => rfl
              | some z =>
                rw [b4 _ _ n25.symm hz] at nd2
                cases nd2
            have nk2 : (L2.map (·.1)).Nodup := by
              rw [rowsC_keys rr5]
              exact rows_nodup p
            generalize upd H5 d2 (.frz od (DcO P w d2 L2)) = HL at eL ed5 kkL2 rrL2 kkL rrL tt bL ⊢
            refine ⟨_, rfl, d2, od, L2, rfl, eL, ?_⟩
            refine for_keysC (fun i σ H6 => ∃ M x1 x5 x6 x7, σ = [some (.ref a), x1, some (.int (j : Int)), some (.ref d), some (.ref d2), x5, x6, x7] ∧ But d HL H6 ∧ H6 d = some (DcO P w d (L ++ M)) ∧ KeysAt K H6 (L ++ M) ∧ RowsC K H6 (L ++ M) (rowsUp k ps j ++ ((rowsPl p).take i).map (liftR k ps j))) ?_ (fun i σ H6 h => ?_) ?_ ?_
            · exact ⟨[], _, _, _, _, rfl, fun b' o' _ eb => eb, by rw [List.append_nil]; exact ed5, by rw [List.append_nil]; exact kkL, by rw [List.append_nil, List.take_zero, List.map_nil, List.append_nil]; exact rrL⟩
            · obtain ⟨M, y1, y5, y6, y7, rfl, b6, _⟩ := h
              exact b6 _ _ n25.symm eL
            · rintro i e σ H6 he ⟨M, y1, y5, y6, y7, rfl, b6, ed6, kk6, rr6⟩
              have t6 : Tk HL H6 := but_tk b6 ed5 (fun _ z => nomatch z) (fun _ _ z => nomatch z)
              obtain ⟨r1, hr1, er, t, v, ev, ht, hAv⟩ := paired_at rrL2 he
              have hcall : CallAt K H6 (.ref e.2.1) e.1 := (kkL2 e (List.mem_of_getElem? he)).tk t6
              have eL6 := b6 _ _ n25.symm eL
              have hv := valC_get nk2 he
              rw [ev] at hv
              refine ⟨_, rfl, _, rfl, d2, e.2.1, L2, e.1, .ref t, rfl, rfl, .inr ⟨od, eL6⟩, kkL2.tk t6, hcall, hv, ?_⟩
              refine ⟨t, _, rfl, t6.seq ht, rfl, _, _, rfl, _, _, rfl, rfl, ?_⟩
              have tt6 := tt.trans t6
              refine ⟨_, rfl, a, _, 0, .str k, rfl, rfl, tt6.seq h1, rfl, ?_⟩
              refine ⟨_, rfl, a, _, 1, .ref c, rfl, rfl, tt6.seq h1, rfl, _, rfl, ?_⟩
              refine ⟨(j : Int), rfl, sl_to (b := j) (tt6.seq h2) fun ta Ha sa ha => ?_⟩
              refine ⟨_, rfl, lenOk 1, fun tb nb => ?_⟩
              have sb : Same Ha (upd Ha tb (.tup [v])) := same_new nb
              have hb : SqT K (upd Ha tb (.tup [v])) tb [v] := SqT.of upd_same
              generalize upd Ha tb (.tup [v]) = Hb at sb hb ⊢
              refine cat_anyW ((stk sb).seq ha) hb (by rw [List.length_take, List.length_singleton]; omega) fun tc Hc sc hc => ?_
              have s6c := sa.trans (sb.trans sc)
              refine ⟨_, rfl, a, _, 1, .ref c, rfl, rfl, ((stk s6c).seq (tt6.seq h1)), rfl, ?_⟩
              refine ⟨_, rfl, _, _, rfl, rfl, _, rfl, ?_⟩
              dsimp only [tNoPart]
              refine sl_from (a := j + 1) ((stk s6c).seq (tt6.seq h2)) (by omega) fun td Hd sd hd => ?_
              refine cat_anyW ((stk sd).seq hc) hd (by rw [List.length_append, List.length_take, List.length_drop, List.length_singleton]; omega) fun te He se he2 => ?_
              rw [set_cut (by omega : j < vs.length)] at he2
              have s6e := s6c.trans (sd.trans se)
              refine ⟨lenOk 2, fun tf nf => ?_⟩
              have sf : Same He (upd He tf (.tup [.str k, .ref te])) := same_new nf
              have hf : SqT K (upd He tf (.tup [.str k, .ref te])) tf [.str k, .ref te] := SqT.of upd_same
              generalize upd He tf (.tup [.str k, .ref te]) = Hf at sf hf ⊢
              have s6f := s6e.trans sf
              refine ⟨_, rfl, _, rfl, lenOk 2, fun tg ng => ?_⟩
              have sg : Same Hf (upd Hf tg (.tup [.str r1.2.1, .ref tf])) := same_new ng
              have hg : SqT K (upd Hf tg (.tup [.str r1.2.1, .ref tf])) tg [.str r1.2.1, .ref tf] := SqT.of upd_same
              generalize upd Hf tg (.tup [.str r1.2.1, .ref tf]) = Hg at sg hg ⊢
              have s6g := s6f.trans sg
              -- the new key
              refine ⟨_, rfl, _, rfl, lenOk 1, fun th nh => ?_⟩
              have sh : Same Hg (upd Hg th (.tup [.int (j : Int)])) := same_new nh
              have hh : SqT K (upd Hg th (.tup [.int (j : Int)])) th [natV j] := SqT.of upd_same
              generalize upd Hg th (.tup [.int (j : Int)]) = Hh at sh hh ⊢
              have s6h := s6g.trans sh
              obtain ⟨q1, q2, eq1, hq1, hq2⟩ := hcall.tk (stk s6h)
              cases eq1
              refine ⟨_, rfl, e.2.1, _, 0, .ref q2, rfl, rfl, hq1, rfl, ?_⟩
              have hplen : e.1.1.length < 200 := by
                have hm : r1 ∈ rowsPl p := List.mem_of_getElem? hr1
                obtain ⟨k3, ps3, q3, hm3, _⟩ := row_mem.mp hm
                have := subs_lenle3 hm3
                rw [er]
                omega
              refine cat_anyW hh hq2 (by rw [List.length_map, List.length_singleton]; omega) fun ti Hi si hi => ?_
              have s6i := s6h.trans si
              refine ⟨_, rfl, e.2.1, _, 1, .int (e.1.2 : Int), rfl, rfl, (stk si).seq hq1, rfl, lenOk 2, fun tj nj => ?_⟩
              have sj : Same Hi (upd Hi tj (.tup [.ref ti, .int (e.1.2 : Int)])) := same_new nj
              have hj2 : SqT K (upd Hi tj (.tup [.ref ti, .int (e.1.2 : Int)])) tj [.ref ti, .int (e.1.2 : Int)] := SqT.of upd_same
              generalize upd Hi tj (.tup [.ref ti, .int (e.1.2 : Int)]) = Hj at sj hj2 ⊢
              have s6j := s6i.trans sj
              have ed7 := s6j _ _ ed6
              obtain ⟨rest, erest⟩ := rows_pre eo hpj (i + 1)
              have et : (rowsPl p).take (i + 1) = (rowsPl p).take i ++ [r1] := take_succ' hr1
              rw [et, List.map_append, ← List.append_assoc] at erest
              have ek6 := rowsC_keys rr6
              have hnd := rows_nodup (.node k ps)
              rw [erest, List.map_append, List.map_append] at hnd
              have hnew : ((j :: e.1.1, e.1.2) : CKey) ∉ (L ++ M).map (·.1) := by
                rw [ek6]
                intro z
                have h3 := (List.nodup_append.mp (List.nodup_append.mp hnd).1).2.2 _ z (liftR k ps j r1).1 (List.mem_map_of_mem List.mem_cons_self)
                exact h3 (by rw [er]; rfl)
              have hlenLM : (L ++ M).length < sizeLine := by
                have h1 := Paired.length rr6
                have h2 := rows_len (.node k ps)
                have h3 := congrArg List.length erest
                rw [List.length_append, List.length_append] at h3
                have h4 : (nodesOf (.node k ps)).length * (nodesOf (.node k ps)).length ≤ 200 * 200 := Nat.mul_le_mul (by rw [nodesOf, List.length_cons]; omega) (by rw [nodesOf, List.length_cons]; omega)
                exact small (by omega)
              have hcallN : CallAt K Hj (.ref tj) ((j :: e.1.1, e.1.2) : CKey) := ⟨tj, ti, rfl, hj2, (stk sj).seq hi⟩
              refine ⟨d, tj, L ++ M, (j :: e.1.1, e.1.2), rfl, rfl, ed7, kk6.tk (stk s6j), hcallN, hnew, hlenLM, M ++ [((j :: e.1.1, e.1.2), tj, .ref tg)], _, _, _, _, rfl, fun b' o' n eb => ?_, ?_, ?_, ?_⟩
              · rw [upd_ne n]
                exact s6j _ _ (b6 _ _ n eb)
              · rw [upd_same, List.append_assoc]
              all_goals have tW : Tk Hj (upd Hj d (DcO P w d (L ++ M ++ [((j :: e.1.1, e.1.2), tj, .ref tg)]))) := but_tk (fun b' o' n e => by rw [upd_ne n]; exact e) ed7 (fun _ z => nomatch z) (fun _ _ z => nomatch z)
              · intro e' he'
                rw [← List.append_assoc] at he'
                rcases List.mem_append.mp he' with h | h
                · exact (kk6 e' h).tk ((stk s6j).trans tW)
                · rw [List.mem_singleton.mp h]
                  exact hcallN.tk tW
              · rw [et, List.map_append, ← List.append_assoc, ← List.append_assoc]
                refine Paired.snoc (rowsC_tk rr6 ((stk s6j).trans tW)) ⟨by rw [er]; rfl, tg, .ref tf, rfl, ((stk (sh.trans (si.trans sj))).trans tW).seq hg, ?_⟩
                have tfW := (stk (sg.trans (sh.trans (si.trans sj)))).trans tW
                have hvs := (tt6.trans ((stk s6j).trans tW))
                refine At.node (tfW.seq hf) (((stk sf).trans tfW).seq he2) o (by rw [List.length_set]; exact a1) (by rw [List.length_set]; exact a2) (At.set ((hAv.tk t6).tk ((stk s6j).trans tW)) (r.tk hvs) (by omega))
            · rintro σ H6 ⟨M, y1, y5, y6, y7, rfl, b6, ed6, kk6, rr6⟩
              have eL6 := b6 _ _ n25.symm eL
              have tU : Tk H6 (upd H6 d2 (DcO P w d2 L2)) := but_tk (fun b' o' n e => by rw [upd_ne n]; exact e) eL6 (fun _ z => nomatch z) (fun _ _ z => nomatch z)
              have l5 := Paired.length rr5
              rw [List.take_of_length_le (by omega), ← rowsUp_succ hpj] at rr6
              refine ⟨eL6, L ++ M, _, _, _, _, _, _, rfl, fun b' o' n eb => ?_, by rw [upd_ne n25]; exact ed6, kk6.tk tU, rowsC_tk rr6 tU⟩
              have n2 : b' ≠ d2 := ne_of_none eb nd2H
              rw [upd_ne n2]
              exact b6 _ _ n (bL _ _ n n2 (s5 _ _ (b4 _ _ n eb)))
          · rintro σ H4 ⟨L, x1, x2, x4, x5, x6, x7, rfl, b4, ed4, kk4, rr4⟩
            refine ⟨_, rfl, q d L H4 (fun b' o' eb => b4 b' o' (ne_of_none eb nd0) (s13 _ _ (s1 _ _ eb))) nd0 ed4 kk4 ?_⟩
            rw [rows_open eo, show ps.length = (vs.length : Int).toNat by omega]
            exact rr4
end
end Eh
set_option Elab.async false
set_option linter.all false
set_option maxRecDepth 100000
set_option maxHeartbeats 8000000
namespace Eh
open PySem PySem.Spec PyProof.Rows L2
section
variable {P : Program} {w : World} {K : PySem.W.Frag} {mg : Str → Option Value} {base : Heap}
theorem dcDC {X : Cx} {kx vx tg iter : Expr} {ifs : List Expr} {scope : Scope} {own : List (Str × Nat)} {pos : Pos} {wi : TI} {g : TG} {tt : TT} {tk tv : TE} (hcalm : X.calm = true) (hnd : X.N.Nodup)
    (src : PI X tg iter wi) (blk : BlkOk X.N X.env.scope scope own)
    (pgs : ∀ (s : Shared) (H : Hp) (C : Addr) (cl : List (Str × Addr)) (its : List Addr), PG (X.blk s H scope (compEnvC scope cl C X.env) its) tg g)
    (pts : ∀ (s : Shared) (H : Hp) (C : Addr) (cl : List (Str × Addr)) (its : List Addr), PTs (X.blk s H scope (compEnvC scope cl C X.env) its) ifs tt)
    (pks : ∀ (s : Shared) (H : Hp) (C : Addr) (cl : List (Str × Addr)) (its : List Addr), PE (X.blk s H scope (compEnvC scope cl C X.env) its) kx tk)
    (pvs : ∀ (s : Shared) (H : Hp) (C : Addr) (cl : List (Str × Addr)) (its : List Addr), PE (X.blk s H scope (compEnvC scope cl C X.env) its) vx tv)
    (hu : X.A.units + 9 < cLine) (hK : X.K = K) (hP : X.prog = P) (hw : X.w = w) (fold : ∀ x, foldedSetIterable iter X.env x = pure x := by intro _; rfl) : PE X (.DictComp kx vx [⟨tg, iter, ifs, 0⟩] scope pos) (tDcC K P w wi g tt tk tv (own.map (·.2))) := by
  subst hK hP hw
  exact pe_dcC hcalm hnd hu src blk pgs pts pks pvs fold
theorem pe_fldK {X : Cx} {e : Expr} {f : Str} {ta : TE} {pos : Pos} (hK : X.K = K) (he : PE X e ta) (hb : attributeBase e f X.env (eval e X.env) = eval e X.env) : PE X (.Attribute e f pos) (tFld K ta f) := by
  subst hK
  exact pe_fld he hb
theorem PrG.but {C a d : Addr} {H H' : Hp} {ns : List (Str × V)} {L : List CEnt} (h : PrG K C H a ns) (b : But d H H') (e : H d = some (DcO P w d L)) : PrG K C H' a ns := by
  obtain ⟨dx, p, xs, ea, hs, hN, g⟩ := h
  have t := but_tk b e (fun _ z => nomatch z) (fun _ _ z => nomatch z)
  exact ⟨dx, p, xs, b _ _ (fun z => by rw [z, e] at ea; cases ea) ea, t.seq hs, hN.tk t, g⟩
theorem makeSf {C CS x dx b : Addr} {H : Hp} {pl : Pl} {R : VK} {E : XK} (nx : H x = none) (nd : H dx = none) (pr : PrG K C H b (nodesOf pl)) (hok : plOk pl = true) (hl : (nodesOf pl).length < 1000)
    (q : ∀ H', Same H H' → SfAt K C CS H' x b pl → R .non H') : spSInit K C CS [.ref x, .ref b] (upd (upd H dx (.own x)) x (.ins CS dx [])) R E := by
  have u3 : Same H (upd (upd H dx (.own x)) x (.ins CS dx [])) := fun b' o' eb => by
    rw [upd_ne (ne_of_none eb nx), upd_ne (ne_of_none eb nd)]
    exact eb
  exact ⟨x, dx, b, pl, rfl, upd_same, pr.sm u3, hok, hl, fun H' bt sf => q H' (fun b' o' eb => bt b' o' (ne_of_none eb nx) (u3 _ _ eb)) sf⟩
theorem call_v {K : PySem.W.Frag} {H : Hp} {v : V} {c : CKey} (h : CallAt K H v c) : CallV K H v (some (some (c.1.map natV), .int (c.2 : Nat))) := by
  obtain ⟨a, b, rfl, h1, h2⟩ := h
  exact .pair h1 (.tup h2 fun z m => by
    obtain ⟨n, _, rfl⟩ := List.mem_map.mp m
    exact .inl ⟨_, rfl⟩) (.inl ⟨_, rfl⟩)
theorem natV_inj {a b : List Nat} (h : a.map natV = b.map natV) : a = b := by
  induction a generalizing b with
  | nil =>
    cases b with
    | nil => rfl
    | cons y b => cases h
  | cons x a ih =>
    cases b with
    | nil => cases h
    | cons y b =>
      rw [List.map_cons, List.map_cons] at h
      injection h with h1 h2
      injection h1 with h1
      rw [ih h2, Int.ofNat.inj h1]
theorem subs_fun {pl : Pl} {pa : List Nat} {x y : Pl} (h1 : (pa, x) ∈ subsP pl) (h2 : (pa, y) ∈ subsP pl) : x = y := by
  have nd := subs_nodup pl
  obtain ⟨i, hi⟩ := List.getElem?_of_mem h1
  obtain ⟨j, hj⟩ := List.getElem?_of_mem h2
  have e : i = j := by
    have a1 : ((subsP pl).map (·.1))[i]? = some pa := by rw [List.getElem?_map, hi]; rfl
    have a2 : ((subsP pl).map (·.1))[j]? = some pa := by rw [List.getElem?_map, hj]; rfl
    have l1 := (List.getElem?_eq_some_iff.mp a1).1
    have l2 := (List.getElem?_eq_some_iff.mp a2).1
    exact (List.getElem?_inj l1 nd).mp (by rw [a1, a2])
  subst e
  rw [hi] at hj
  cases hj
  rfl
def spBehind (K : PySem.W.Frag) (C CS : Addr) : Sp := fun vs H Q _ => ∃ a b pl v c hd q2, vs = [.ref a, v] ∧ SfAt K C CS H a b pl ∧ plOk pl = true ∧ (nodesOf pl).length < 1000 ∧ CallAt K H v c ∧ ((c, hd, q2) : CRow) ∈ rowsPl pl ∧ okB (nodesOf q2) = true ∧ plOk q2 = true ∧ (nodesOf q2).length < 1000 ∧
  ∀ x y H', Same H H' → H x = none → SfAt K C CS H' x y q2 → Q (.ref x) H'
/-- what called asks where the call is a row's -/
theorem called_row {C CC a : Addr} {H : Hp} {pl q2 : Pl} {v : V} {c : CKey} {hd : Str} {Q : VK} {E : XK} (pr : PrG K C H a (nodesOf pl)) (hok : plOk pl = true) (hl : (nodesOf pl).length < 1000) (hv : CallAt K H v c) (hm : ((c, hd, q2) : CRow) ∈ rowsPl pl) (ob : okB (nodesOf q2) = true)
    (q : ∀ x H', Same H H' → H x = none → PrG K C H' x (nodesOf q2) → Q (.ref x) H') : spCalled K C CC [.ref a, v] H Q E := by
  obtain ⟨k, ps, q0, hs, hc, hq, e1, e2⟩ := row_mem.mp hm
  have e2 : q2 = putP pl c.1 q0 := e2
  have hi := (List.getElem?_eq_some_iff.mp hq).1
  refine ⟨a, pl, v, _, rfl, pr, hok, hl, call_v hv, fun pa i k2 ps2 q3 ec hs2 hq2 _ => ?_, fun z => ?_⟩
  · have ec := Option.some.inj ec
    have ec1 := Option.some.inj (Prod.mk.inj ec).1
    have ec2 := (Prod.mk.inj ec).2
    have p1 : c.1 = pa := natV_inj ec1
    have p2 : c.2 = i := by injection ec2 with z; exact Int.ofNat.inj z
    rw [← p1] at hs2
    have same : Pl.node k ps = Pl.node k2 ps2 := subs_fun hs hs2
    cases same
    rw [← p2] at hq2
    have e0 : some q0 = some q3 := hq.symm.trans hq2
    cases e0
    rw [← p1, ← e2]
    exact ⟨ob, q⟩
  · have hk : k = "mine" ∨ k = "yours" := by
      unfold isCh at hc
      simpa using hc
    have hh : isHand (handK k) := by
      rcases hk with rfl | rfl
      · exact .inr (if_pos rfl)
      · exact .inl (if_neg (by decide +kernel))
    have ek := (hand_choice hc hh).mp rfl
    rw [ek] at hs
    rw [handPl_call hok hl hh hs hi] at z
    cases z
theorem ok_behind {C CS CC fI2 fA f : Addr} {fdI fdA fd : FuncData} (F : Fun K "behind" "Surface.behind" s_Surface_behind f fd) (SC : SurC K mg CS fI2)
    (GA : FnOk P w K mg base (L2.CX P w) 7 fA fdA ["promise", "call"] (spCalled K C CC)) (mA : mg "called" = some (.ref fA)) (kA : PySem.W.keepIn K (.ref fA) = true) (bA : Binds K fdA ["promise", "call"] [])
    (GI : FnOk P w K mg base (L2.CX P w) 5 fI2 fdI ["self", "promise"] (spSInit K C CS)) (bI : Binds K fdI ["self", "promise"] []) :
    FnOk P w K mg base (L2.CX P w) 8 f fd ["self", "call"] (spBehind K C CS) := by
  refine F.okX sc_Surface_behind (fun vs H Q E h => ?_) (fun cdv A outer s H vs Q E hr h => ?_)
  · obtain ⟨a, b, pl, v, c, hd, q2, rfl, _⟩ := h
    rfl
  · obtain ⟨a, b, pl, v, c, hd, q2, rfl, sf, hok, hl, hv, hm, ob, ok2, hl2, q⟩ := h
    obtain ⟨dx, t, us, ea, hs, hP, pr⟩ := id sf
    have hr6 := hr.mono (j := 6) (by omega)
    refine ⟨_, (pss_one (ps_ret (pe_makeS SC.mkC GI hr6 (by rfl) SC.g bI (fun σ => passAt (takes_of rfl rfl rfl rfl) σ) (pa_cons (pe_callS GA hr (by rfl) mA kA bA (fun σ => passAt (takes_of rfl rfl rfl rfl) σ) (pa_cons (pe_fld (pv 0) rfl) (pa_cons (pv 1) pa_nil))) pa_nil)))), ?_⟩
    refine ⟨_, rfl, a, CS, dx, _, .ref b, rfl, ea, SC.cl, SC.nq, rfl, _, rfl, ?_⟩
    dsimp only [tNil]
    refine called_row pr hok hl hv hm ob fun y H1 s1 ny pr1 => ?_
    refine fun x dx nx nd ne => makeSf nx nd pr1 ok2 hl2 fun H2 s2 sf2 => ⟨rfl, ?_⟩
    exact q x y H2 (s1.trans s2) (s1.free nx) sf2
/-- what stands at a call in the dict of moves -/
def MoveAt (K : PySem.W.Frag) (C : Addr) (H : Hp) (e : CEnt) (r : CRow) : Prop := e.1 = r.1 ∧ ∃ x, e.2.2 = .ref x ∧ PrG K C H x (nodesOf r.2.2)
def spMoves (P : Program) (w : World) (K : PySem.W.Frag) (C CS : Addr) : Sp := fun vs H Q _ => ∃ a b pl hd, vs = [.ref a, .str hd] ∧ SfAt K C CS H a b pl ∧ plOk pl = true ∧ (nodesOf pl).length < 1000 ∧ isHand hd ∧ (∀ r ∈ rowsPl pl, okB (nodesOf r.2.2) = true) ∧
  ∀ d L H', Same H H' → H d = none → H' d = some (DcO P w d L) → KeysAt K H' L → Paired (MoveAt K C H') L ((rowsPl pl).filter fun r => decide (r.2.1 = hd)) → Q (.ref d) H'
theorem ok_moves {C CS CC fI2 fA fS f : Addr} {fdA fdS fd : FuncData} (F : Fun K "moves" "Surface.moves" s_Surface_moves f fd) (SC : SurC K mg CS fI2)
    (GA : FnOk P w K mg base (L2.CX P w) 7 fA fdA ["promise", "call"] (spCalled K C CC)) (mA : mg "called" = some (.ref fA)) (kA : PySem.W.keepIn K (.ref fA) = true) (bA : Binds K fdA ["promise", "call"] [])
    (GS : FnOk P w K mg base (L2.CX P w) 5 fS fdS ["promise", "hand"] (spCalls K C)) (mS : mg "calls" = some (.ref fS)) (kS : PySem.W.keepIn K (.ref fS) = true) (bS : Binds K fdS ["promise", "hand"] []) :
    FnOk P w K mg base (L2.CX P w) 8 f fd ["self", "hand"] (spMoves P w K C CS) := by
  refine F.okX sc_Surface_moves (fun vs H Q E h => ?_) (fun cdv A outer s H vs Q E hr h => ?_)
  · obtain ⟨a, b, pl, hd, rfl, _⟩ := h
    rfl
  · obtain ⟨a, b, pl, hd, rfl, sf, hok, hl, hh, hob, q⟩ := h
    obtain ⟨dx, t, us, ea, hs, hP, pr⟩ := id sf
    have hr5 := hr.mono (j := 5) (by omega)
    have hr7 := hr.mono (j := 7) (by omega)
    refine ⟨_, (pss_one (ps_ret (dcDC (K := K) (P := P) (w := w) (own := [("call", 2)]) (g := gName 2) (by rfl) sc_Surface_moves.nd (pi_tup (pe_call (E := E0) GS hr5 (by rfl) mS kS bS .nil passL (pa_cons (pe_fld (pv 0) rfl) (pa_cons (pv 1) pa_nil)))) (blkOk_by (by kernel_rfl))
      (fun _ _ _ _ _ => (pg_name (i := 2) sc_Surface_moves.nd rfl (.inl rfl))) (fun _ _ _ _ _ => pts_nil) (fun _ _ _ _ _ => (pv 2)) (fun _ _ _ _ _ => (pe_call (E := E0) GA hr7 (by rfl) mA kA bA .nil passL (pa_cons (pe_fldK (K := K) rfl (pv 0) (by rfl)) (pa_cons (pv 2) pa_nil)))) (hu9e hr) rfl rfl rfl))), ?_⟩
    have hcr := calls_rows hok hh
    generalize erw : ((rowsPl pl).filter fun r => decide (r.2.1 = hd)) = rows at hcr q
    have hin : ∀ x ∈ rows, x ∈ rowsPl pl := fun x hx => by rw [← erw] at hx; exact (List.mem_filter.mp hx).1
    have hnd : (rows.map (·.1)).Nodup := by
      rw [← erw]
      exact (rows_nodup pl).sublist ((List.filter_sublist).map _)
    have hlr : rows.length < 1000000 := by
      have h1 := rows_len pl
      have h2 : rows.length ≤ (rowsPl pl).length := by rw [← erw]; exact List.length_filter_le _ _
      have h3 : (nodesOf pl).length * (nodesOf pl).length < 1000 * 1000 := Nat.mul_lt_mul'' hl hl
      omega
    refine ⟨_, rfl, a, CS, dx, _, .ref b, rfl, ea, SC.cl, SC.nq, rfl, _, rfl, b, pl, hd, rfl, pr, hok, hl, hh, fun r us H1 s1 nr er hC => ?_⟩
    rw [hcr] at hC
    have hul := Paired.length hC
    rw [List.length_map] at hul
    refine ⟨r, rfl, ⟨us, SqT.of er⟩, fun D nD => ?_⟩
    refine dcC_tup (K := K) (P := P) (w := w) (a := r) (xs := us) (fun i H2 => Same H1 H2 ∧ ∃ L, H2 D = some (DcO P w D L) ∧ KeysAt K H2 L ∧ Paired (MoveAt K C H2) L (rows.take i)) ?_ (fun i H2 _ h => (stk h.1).seq (SqT.of er)) ?_ ?_
    · exact ⟨same_new nD, [], upd_same, fun e he => (nomatch he), by rw [List.take_zero]; exact .nil⟩
    · rintro i x H2 hx ⟨s2, L, eD, kk, mm⟩
      obtain ⟨c, hc, hcall⟩ := paired_at hC hx
      obtain ⟨r1, hr1, ec⟩ : ∃ r1, rows[i]? = some r1 ∧ r1.1 = c := by
        rw [List.getElem?_map] at hc
        obtain ⟨r1, h1, h2⟩ := Option.map_eq_some_iff.mp hc
        exact ⟨r1, h1, h2⟩
      subst ec
      have hcall2 := hcall.tk (stk s2)
      obtain ⟨ta, tb, rfl, _⟩ := id hcall2
      have hm := hin _ (List.mem_of_getElem? hr1)
      have hea2 := s2 _ _ (s1 _ _ ea)
      refine ⟨rfl, yesT ⟨_, rfl, _, rfl, a, CS, dx, _, .ref b, rfl, hea2, SC.cl, SC.nq, rfl, _, rfl, ?_⟩⟩
      dsimp only [tNil]
      refine called_row ((pr.sm s1).sm s2) hok hl hcall2 hm (hob _ hm) fun y H3 s3 ny pr3 => ?_
      have ek : L.map (·.1) = (rows.take i).map (·.1) := by
        have go : ∀ {L : List CEnt} {rs : List CRow}, Paired (MoveAt K C H2) L rs → L.map (·.1) = rs.map (·.1) := by
          intro L rs h
          induction h with
          | nil => rfl
          | cons a t ih => rw [List.map_cons, List.map_cons, ih, a.1]
        exact go mm
      have hnew : r1.1 ∉ L.map (·.1) := by
        rw [ek]
        have h1 : rows.take (i + 1) = rows.take i ++ [r1] := take_succ' hr1
        have h2 := hnd.sublist ((List.take_sublist (i + 1) rows).map (·.1))
        rw [h1, List.map_append] at h2
        exact fun z => (List.nodup_append.mp h2).2.2 _ z _ (List.mem_singleton.mpr rfl) rfl
      have hLl : L.length ≤ i := by
        have := Paired.length mm
        rw [List.length_take] at this
        omega
      have hi : i < us.length := (List.getElem?_eq_some_iff.mp hx).1
      have eD3 := s3 _ _ eD
      have bD : But D H3 (upd H3 D (DcO P w D (L ++ [(r1.1, ta, .ref y)]))) := fun b' o' n e => by rw [upd_ne n]; exact e
      have tD := but_tk bD eD3 (fun _ z => nomatch z) (fun _ _ z => nomatch z)
      refine ⟨L, r1.1, ta, rfl, eD3, kk.tk (stk s3), hcall2.tk (stk s3), hnew, small (by omega), fun b' o' eb => ?_, L ++ [(r1.1, ta, .ref y)], upd_same, ?_, ?_⟩
      · rw [upd_ne (ne_of_none eb nD)]
        exact s3 _ _ (s2 _ _ eb)
      · intro e he
        rcases List.mem_append.mp he with h | h
        · exact (kk e h).tk ((stk s3).trans tD)
        · rw [List.mem_singleton.mp h]
          exact hcall2.tk ((stk s3).trans tD)
      · rw [take_succ' hr1]
        refine Paired.snoc (Paired.mono (fun e r h => ?_) mm) ⟨rfl, y, rfl, pr3.but bD eD3⟩
        obtain ⟨h1, x, h2, h3⟩ := h
        exact ⟨h1, x, h2, (h3.sm s3).but bD eD3⟩
    · rintro H2 ⟨s2, L, eD, kk, mm⟩
      rw [List.take_of_length_le (by omega)] at mm
      exact q D L H2 (s1.trans s2) (s1.free nD) eD kk mm
end
end Eh
set_option Elab.async false
set_option linter.all false
set_option maxRecDepth 100000
set_option maxHeartbeats 4000000
set_option Elab.async false
set_option linter.all false
set_option maxRecDepth 100000
set_option maxHeartbeats 4000000
set_option Elab.async false
set_option linter.all false
set_option maxRecDepth 100000
set_option maxHeartbeats 4000000
set_option Elab.async false
set_option linter.all false
set_option maxRecDepth 100000
set_option maxHeartbeats 4000000
set_option Elab.async false
set_option linter.all false
set_option maxRecDepth 100000
set_option maxHeartbeats 4000000
set_option Elab.async false
set_option linter.all false
set_option maxRecDepth 100000
set_option maxHeartbeats 4000000
set_option Elab.async false
set_option linter.all false
set_option maxRecDepth 100000
set_option maxHeartbeats 4000000
set_option Elab.async false
set_option linter.all false
set_option maxRecDepth 100000
set_option maxHeartbeats 4000000
namespace Eh
open PySem PySem.Spec PyProof.Rows L2
open TL
def openT (k : Str) : Str := if choiceKinds.contains k = true then "[" else "("
def closeT (k : Str) : Str := if choiceKinds.contains k = true then "]" else ")"
def signT (k : Str) : Str := if k = "all" then "&" else if k = "mine" then "+" else if k = "some" then "|" else "*"
def inter (s : Str) : List (List Str) → List Str
  | [] => []
  | [x] => x
  | x :: y :: r => x ++ s :: inter s (y :: r)
mutual
def toks : Pl → List Str
  | .leaf k t => [plainT k t]
  | .node k ps => openT k :: (inter (signT k) (toksAll ps) ++ [closeT k])
def toksAll : List Pl → List (List Str)
  | [] => []
  | p :: ps => toks p :: toksAll ps
end
/-- all that is needed of a tree -/
def Tr (p : Pl) : Prop := plOk p = true ∧ GoodN (nodesOf p)
theorem Tr.leaf {k : Str} {t : V} (h : Tr (.leaf k t)) : nodeAB k t = true ∧ nodeKinds.contains k = false := by
  obtain ⟨h1, h2⟩ := h
  rw [plOk] at h1
  exact ⟨h2 (k, t) (by rw [nodesOf]; exact List.mem_cons_self), by simpa using h1⟩
theorem plsOk_mem : ∀ {ps : List Pl}, plsOk ps = true → ∀ p ∈ ps, plOk p = true
  | p :: ps, h, q, hq => by
    rw [plsOk, Bool.and_eq_true] at h
    rcases List.mem_cons.mp hq with rfl | hq
    · exact h.1
    · exact plsOk_mem h.2 q hq
theorem nodesAll_mem : ∀ {ps : List Pl} {p : Pl}, p ∈ ps → ∀ n ∈ nodesOf p, n ∈ nodesAll ps
  | q :: ps, p, h, n, hn => by
    rw [nodesAll]
    rcases List.mem_cons.mp h with rfl | h
    · exact List.mem_append_left _ hn
    · exact List.mem_append_right _ (nodesAll_mem h n hn)
theorem Tr.node {k : Str} {ps : List Pl} (h : Tr (.node k ps)) : nodeKinds.contains k = true ∧ 2 ≤ ps.length ∧ ps.length ≤ 4 ∧ ∀ p ∈ ps, Tr p := by
  obtain ⟨h1, h2⟩ := h
  rw [plOk, Bool.and_eq_true] at h1
  obtain ⟨i, e, i1, i2⟩ := good_int (h2 (k, .int (ps.length : Int)) (by rw [nodesOf]; exact List.mem_cons_self)) h1.1
  cases e
  exact ⟨h1.1, by omega, by omega, fun p hp => ⟨plsOk_mem h1.2 p hp, fun n hn => h2 n (by rw [nodesOf]; exact List.mem_cons_of_mem _ (nodesAll_mem hp n hn))⟩⟩
end Eh
set_option Elab.async false
set_option linter.all false
set_option maxRecDepth 100000
set_option maxHeartbeats 4000000
namespace Eh
open PySem PySem.Spec PyProof.Rows L2
open TL
def nk (p : Pl) : List Str := (nodesOf p).map (·.1)
def nc (p : Pl) : List V := (nodesOf p).map (·.2)
end Eh
set_option Elab.async false
set_option linter.all false
set_option maxRecDepth 100000
set_option maxHeartbeats 2000000
namespace Eh
open PySem PySem.Spec PyProof.Rows L2
open TL
def opn (c : Nat) : Bool := c == 40 || c == 91
def cls2 (c : Nat) : Bool := c == 41 || c == 93
def addC (cur : List Nat) (sk c : Nat) : List Nat := if sk = 0 then cur ++ [c] else cur
/-- the pieces between signs that stand within no brackets -/
def scanL (sg : Nat) : List Nat → Int → Nat → List Nat → List (List Nat)
  | cur, _, _, [] => [cur]
  | cur, d, sk, c :: r =>
    if opn c = true then scanL sg (addC cur sk c) (d + 1) (sk - 1) r
    else if cls2 c = true then scanL sg (addC cur sk c) (d - 1) (sk - 1) r
    else if d = 0 ∧ sk = 0 ∧ (c :: r).take 3 = [32, sg, 32] then cur :: scanL sg [] d 2 r
    else scanL sg (addC cur sk c) d (sk - 1) r
/-- a text through which the scan goes without a match, at any depth from 0 on -/
def Thru (sg : Nat) (t : List Nat) : Prop := ∀ (cur rest : List Nat) (d : Int), 0 ≤ d → scanL sg cur d 0 (t ++ rest) = scanL sg (cur ++ t) d 0 rest
theorem Thru.nil {sg : Nat} : Thru sg [] := fun cur rest d _ => by rw [List.append_nil]; rfl
theorem Thru.app {sg : Nat} {a b : List Nat} (h : Thru sg a) (k : Thru sg b) : Thru sg (a ++ b) := fun cur rest d hd => by
  rw [List.append_assoc, h _ _ _ hd, k _ _ _ hd, List.append_assoc]
/-- at a depth above 0 -/
def Deep (sg : Nat) (t : List Nat) : Prop := ∀ (cur rest : List Nat) (d : Int), 0 < d → scanL sg cur d 0 (t ++ rest) = scanL sg (cur ++ t) d 0 rest
theorem Deep.app {sg : Nat} {a b : List Nat} (h : Deep sg a) (k : Deep sg b) : Deep sg (a ++ b) := fun cur rest d hd => by
  rw [List.append_assoc, h _ _ _ hd, k _ _ _ hd, List.append_assoc]
theorem Deep.nil {sg : Nat} : Deep sg [] := fun cur rest d _ => by rw [List.append_nil]; rfl
end Eh
set_option Elab.async false
set_option linter.all false
set_option maxRecDepth 100000
set_option maxHeartbeats 2000000
set_option Elab.async false
set_option linter.all false
set_option maxRecDepth 100000
set_option maxHeartbeats 8000000
namespace Eh
open PySem PySem.Spec PyProof.Rows L2
def digC (x : Nat) : Bool := decide (48 ≤ x) && decide (x < 58)
/-- the numbers that stand in a text, in order -/
def runsN : Option Nat → List Nat → List Nat
  | acc, [] => acc.toList
  | acc, x :: xs => if digC x = true then runsN (some (10 * acc.getD 0 + (x - 48))) xs else acc.toList ++ runsN none xs
def valD (a : Nat) : List Nat → Nat
  | [] => a
  | x :: xs => valD (10 * a + (x - 48)) xs
theorem runs_digits : ∀ {ds : List Nat} {a y : Nat} {rest : List Nat}, ds.all digC = true → digC y = false → runsN (some a) (ds ++ y :: rest) = valD a ds :: runsN none rest
  | [], a, y, rest, _, hy => by
    rw [List.nil_append, runsN, if_neg (by rw [hy]; decide)]
    rfl
  | d :: ds, a, y, rest, hd, hy => by
    rw [List.all_cons, Bool.and_eq_true] at hd
    rw [List.cons_append, runsN, if_pos hd.1]
    exact runs_digits hd.2 hy
/-- a number's text -/
def numL (n : Nat) : List Nat := (PyData.shown (.int (n : Int))).cps.toList
def numGood (n : Nat) : Bool := match numL n with
  | [] => false
  | d :: ds => digC d && ds.all digC && decide (valD (d - 48) ds = n)
theorem nums_good : ∀ n, n < 1000 → numGood n = true := by
  have : (List.range 1000).all numGood = true := by decide +kernel
  intro n h
  exact List.all_eq_true.mp this n (List.mem_range.mpr h)
theorem runs_num {n y : Nat} {rest : List Nat} (h : n < 1000) (hy : digC y = false) : runsN none (numL n ++ y :: rest) = n :: runsN none rest := by
  have g := nums_good n h
  unfold numGood at g
  split at g
  · cases g
  · rename_i d ds e
    simp only [Bool.and_eq_true, decide_eq_true_eq] at g
    obtain ⟨⟨g1, g2⟩, g3⟩ := g
    rw [e, List.cons_append, runsN, if_pos g1]
    show runsN (some (10 * 0 + (d - 48))) _ = _
    rw [Nat.mul_zero, Nat.zero_add, runs_digits g2 hy, g3]
theorem runs_skip {y : Nat} {rest : List Nat} (hy : digC y = false) : runsN none (y :: rest) = runsN none rest := by
  rw [runsN, if_neg (by rw [hy]; decide)]
  rfl
theorem cps_app (a b : Str) : (a ++ b).cps.toList = a.cps.toList ++ b.cps.toList := by
  rw [Str.cps_append, Array.toList_append]
def joinL : List Nat → List Nat
  | [] => []
  | [n] => numL n
  | n :: m :: r => numL n ++ 44 :: 32 :: joinL (m :: r)
theorem join_nats : ∀ ns : List Nat, (Str.join ", " (PyData.shownAll (natsD ns))).cps.toList = joinL ns
  | [] => rfl
  | [n] => rfl
  | n :: m :: r => by
    have ih := join_nats (m :: r)
    show ((PyData.shown (.int (n : Int)) ++ (", " : Str)) ++ Str.join ", " (PyData.shownAll (natsD (m :: r)))).cps.toList = _
    rw [cps_app, cps_app, ih, List.append_assoc]
    rfl
theorem runs_join : ∀ {ns : List Nat} {y : Nat} {rest : List Nat}, (∀ n ∈ ns, n < 1000) → digC y = false → runsN none (joinL ns ++ y :: rest) = ns ++ runsN none rest
  | [], y, rest, _, hy => runs_skip hy
  | [n], y, rest, h, hy => runs_num (h n List.mem_cons_self) hy
  | n :: m :: r, y, rest, h, hy => by
    have ih := runs_join (ns := m :: r) (rest := rest) (fun x hx => h x (List.mem_cons_of_mem _ hx)) hy
    rw [joinL, List.append_assoc]
    show runsN none (numL n ++ 44 :: (32 :: (joinL (m :: r) ++ y :: rest))) = _
    rw [runs_num (h n List.mem_cons_self) (by decide), runs_skip (by decide), ih]
    rfl
/-- the text of a call -/
def tellC (c : CKey) : Str := (ckD c).shown
theorem tellC_cps (c : CKey) : ∃ tl, (tl = [44, 41] ∨ tl = [41]) ∧ (tellC c).cps.toList = 40 :: 40 :: (joinL c.1 ++ (tl ++ 44 :: 32 :: (numL c.2 ++ [41]))) := by
  have e : tellC c = (("(" : Str) ++ ((("(" : Str) ++ Str.join ", " (PyData.shownAll (natsD c.1)) ++ (if (PyData.shownAll (natsD c.1)).length == 1 then ",)" else ")" : String)) ++ ", " ++ PyData.shown (.int (c.2 : Int)))) ++ ")" := rfl
  rw [e]
  simp only [cps_app]
  rw [join_nats]
  by_cases h : ((PyData.shownAll (natsD c.1)).length == 1) = true
  · refine ⟨[44, 41], .inl rfl, ?_⟩
    rw [if_pos h]
    simp only [List.append_assoc]
    rfl
  · refine ⟨[41], .inr rfl, ?_⟩
    rw [if_neg h]
    simp only [List.append_assoc]
    rfl
theorem runs_call {c : CKey} (h1 : ∀ n ∈ c.1, n < 1000) (h2 : c.2 < 1000) : runsN none (tellC c).cps.toList = c.1 ++ [c.2] := by
  obtain ⟨tl, ht, e⟩ := tellC_cps c
  have e3 : runsN none (numL c.2 ++ [41]) = [c.2] := by
    rw [runs_num h2 (by decide)]
    rfl
  rw [e, runs_skip (by decide), runs_skip (by decide)]
  rcases ht with rfl | rfl
  · show runsN none (joinL c.1 ++ 44 :: (41 :: 44 :: 32 :: (numL c.2 ++ [41]))) = _
    rw [runs_join h1 (by decide), runs_skip (by decide), runs_skip (by decide), runs_skip (by decide), e3]
  · show runsN none (joinL c.1 ++ 41 :: (44 :: 32 :: (numL c.2 ++ [41]))) = _
    rw [runs_join h1 (by decide), runs_skip (by decide), runs_skip (by decide), e3]
/-- the call that a text can tell -/
def candC (s : Str) : Option CKey := match (runsN none s.cps.toList).reverse with
  | [] => none
  | i :: r => some (r.reverse, i)
theorem cand_call {c : CKey} (h1 : ∀ n ∈ c.1, n < 1000) (h2 : c.2 < 1000) : candC (tellC c) = some c := by
  unfold candC
  rw [runs_call h1 h2, List.reverse_append]
  show some (c.1.reverse.reverse, c.2) = _
  rw [List.reverse_reverse]
end Eh
set_option Elab.async false
set_option linter.all false
set_option maxRecDepth 100000
set_option maxHeartbeats 8000000
namespace Eh
open PySem PySem.SeqAt
theorem dictNoTup (l : Addr) (dd : Option Addr) (es : Array DictEntry) (n : Nat) (sl : Array (Option Value)) (t : Addr) (td : Option Addr) (its : Array Value) (m : Nat) (ts : Array (Option Value)) :
    Meets (Builtin.«dict.__eq__» ⟨[.ref l, .ref t], []⟩) (fun _ R s => s.heap.get? l = some { cls := .type "dict", dict := dd, data := .dict es n, slots := sl } ∧ s.heap.get? t = some { cls := .type "tuple", dict := td, data := .seq its m, slots := ts } ∧ R (.ok (.ret .notImplemented)) s) :=
  .of_wp fun prog w A R s h => by
    obtain ⟨hp, g, d, tk, os⟩ := s
    obtain ⟨hl, ht, h⟩ := h
    have f1 := PySem.F.sub_tuple_dict
    wp_walk using wpAny_loadPart' hl, wpAny_load ht
    exact ⟨_, rfl, h⟩
theorem tupNoDict (l : Addr) (dd : Option Addr) (es : Array DictEntry) (n : Nat) (sl : Array (Option Value)) (t : Addr) (td : Option Addr) (its : Array Value) (m : Nat) (ts : Array (Option Value)) :
    Meets (Builtin.«tuple.__eq__» ⟨[.ref t, .ref l], []⟩) (fun _ R s => s.heap.get? l = some { cls := .type "dict", dict := dd, data := .dict es n, slots := sl } ∧ s.heap.get? t = some { cls := .type "tuple", dict := td, data := .seq its m, slots := ts } ∧ R (.ok (.ret .notImplemented)) s) :=
  .of_wp fun prog w A R s h => by
    obtain ⟨hp, g, d, tk, os⟩ := s
    obtain ⟨hl, ht, h⟩ := h
    have f1 := PySem.F.sub_dict_tuple
    wp_walk using wpAny_loadPart' ht, wpAny_load hl
    exact ⟨_, rfl, h⟩
section
variable {A : Around} {s : Shared} {l t : Addr} {dd td : Option Addr} {es : Array DictEntry} {n m : Nat} {sl ts : Array (Option Value)} {its : Array Value}
theorem rcTupDict (hl : s.heap.get? l = some { cls := .type "dict", dict := dd, data := .dict es n, slots := sl }) (ht : s.heap.get? t = some { cls := .type "tuple", dict := td, data := .seq its m, slots := ts }) (hu : A.units < cLine) : RcAt A s (.ref t) (.ref l) false := fun prog w E Q h =>
  have ne : t ≠ l := fun e => by rw [e, hl] at ht; have z : Value.type "dict" = Value.type "tuple" := congrArg Obj.cls (Option.some.inj ht); injection z with z; exact absurd z (by decide)
  rc_eq_decline_or (k := false) ⟨_, ht, rfl⟩ ⟨_, hl, rfl⟩ (by decide) PySem.F.sub_dict_tuple PySem.F.slot_tuple_eq PySem.F.slot_dict_eq_refl
    (fun _ hq => call_meets PySem.F.slot_tuple_eq ⟨_, ht, rfl⟩ PySem.F.entry_tuple_eq (PySem.F.args_tuple_eq_2 _ _) (tupNoDict l dd es n sl t td its m ts) ⟨hl, ht, hq⟩)
    (fun _ hq => call_meets PySem.F.slot_dict_eq_refl ⟨_, hl, rfl⟩ PySem.F.entry_dict_eq (PySem.F.args_dict_eq_2 _ _) (dictNoTup l dd es n sl t td its m ts) ⟨hl, ht, hq⟩)
    (fun _ hq => wpAny_isSame_ref_other' ne ht hl (fun z => by have z : Value.type "dict" = Value.type "tuple" := z; injection z with z; exact absurd z (by decide)) hq) (.inr hu) h
theorem eqTupDict (hl : s.heap.get? l = some { cls := .type "dict", dict := dd, data := .dict es n, slots := sl }) (ht : s.heap.get? t = some { cls := .type "tuple", dict := td, data := .seq its m, slots := ts }) (hu : A.units < cLine) : EqAt A s (.ref t) (.ref l) false := fun prog w E Q h => by
  have ne : t ≠ l := fun e => by rw [e, hl] at ht; have z : Value.type "dict" = Value.type "tuple" := congrArg Obj.cls (Option.some.inj ht); injection z with z; exact absurd z (by decide)
  unfold eqBool
  exact wpAny_holding (wpAny_ite_split (fun z => absurd (eq_of_beq z) (fun e => ne (by injection e))) fun _ => wpAny_bind (rcTupDict hl ht hu prog w E _ (wpAny_truthy_bool h)))
end
end Eh
namespace Eh
open PySem PySem.Spec PyProof.Rows L2
section
variable {P : Program} {w : World} {K : PySem.W.Frag} {mg : Str → Option Value} {base : Heap}
/-- what comes of a call, or None -/
def spGot (K : PySem.W.Frag) (C : Addr) : Sp := fun vs H Q _ => ∃ a pl v c, vs = [.ref a, v] ∧ PrG K C H a (nodesOf pl) ∧ plOk pl = true ∧ (nodesOf pl).length < 1000 ∧ CallV K H v c ∧
  (∀ (pa : List Nat) (i : Nat) (k : Str) (ps : List Pl) (q : Pl), c = some (some (pa.map natV), .int (i : Nat)) → (pa, .node k ps) ∈ subsP pl → ps[i]? = some q → (k = "yours" ∨ k = "mine") → okB (nodesOf (putP pl pa q)) = true ∧ ∀ x H', Same H H' → H x = none → PrG K C H' x (nodesOf (putP pl pa q)) → Q (.ref x) H') ∧
  (handPl pl c = .non → Q .non H)
theorem ok_got {C CC fA f : Addr} {fdA fd : FuncData} (F : Fun K "_law_got" "_law_got" s__law_got f fd) (RC : ErrC K mg "InvalidCall" CC) (GA : FnOk P w K mg base (L2.CX P w) 7 fA fdA ["promise", "call"] (spCalled K C CC)) (mA : mg "called" = some (.ref fA)) (kA : PySem.W.keepIn K (.ref fA) = true) (bA : Binds K fdA ["promise", "call"] []) :
    FnOk P w K mg base CX0 8 f fd ["made", "call"] (spGot K C) := by
  refine F.ok sc__law_got (fun vs H Q E h => ?_) (fun cdv A outer s H vs Q E hr h => ?_)
  · obtain ⟨a, pl, v, c, rfl, _⟩ := h
    rfl
  · obtain ⟨a, pl, v, c, rfl, pr, hok, hl, hv, q1, q2⟩ := h
    refine ⟨_, (pss_one (ps_try_only rfl rfl ⟨rfl, by decide, .inl RC.g⟩ takes0 (fun W pn xe tk _ => pss_one (ps_ret (pe_callS GA hr (by rfl) mA kA bA (fun σ => passAt tk σ) (pa_cons (pv 0) (pa_cons (pv 1) pa_nil)))))
      (fun a oe cls d pn _ _ => pss_one (ps_ret pe_non)))), ?_⟩
    exact ⟨_, rfl, _, rfl, a, pl, v, c, rfl, pr, hok, hl, hv, q1, fun e => ⟨true, RC.e, fun _ a ha => q2 e, fun z => nomatch z⟩⟩
end
theorem put_in {pl : Pl} {pa : List Nat} {k : Str} {ps : List Pl} {i : Nat} {q : Pl} (hk : plOk pl = true) (hl : (nodesOf pl).length < 1000) (hm : (pa, .node k ps) ∈ subsP pl) (hq : ps[i]? = some q) :
    (∀ n ∈ nodesOf (putP pl pa q), n ∈ nodesOf pl) ∧ (nodesOf (putP pl pa q)).length ≤ (nodesOf pl).length := by
  obtain ⟨o, rest, _, e2, e3⟩ := walk_place hk hl hm
  have e4 : nodesOf (.node k ps) = (k, .int (ps.length : Int)) :: (nodesAll (ps.take i) ++ (nodesOf q ++ nodesAll (ps.drop (i + 1)))) := by
    rw [nodesOf, nodesAll_split hq]
  have hd : ∀ n ∈ nodesOf (.node k ps) ++ rest, n ∈ nodesOf pl := fun n hn => List.mem_of_mem_drop (i := o) (by rw [e2]; exact hn)
  constructor
  · intro n hn
    rw [e3 q, List.mem_append, List.mem_append] at hn
    rcases hn with hn | hn | hn
    · exact List.mem_of_mem_take hn
    · refine hd n (List.mem_append_left _ ?_)
      rw [e4]
      exact List.mem_cons_of_mem _ (List.mem_append_right _ (List.mem_append_left _ hn))
    · exact hd n (List.mem_append_right _ hn)
  · have h1 := congrArg List.length e2
    rw [List.length_drop, List.length_append, e4, List.length_cons, List.length_append, List.length_append] at h1
    rw [e3 q, List.length_append, List.length_append, List.length_take]
    have := nodesOf_pos q
    omega
theorem row_in {pl : Pl} (hk : plOk pl = true) (hl : (nodesOf pl).length < 1000) {r : CRow} (h : r ∈ rowsPl pl) : (∀ n ∈ nodesOf r.2.2, n ∈ nodesOf pl) ∧ (nodesOf r.2.2).length ≤ (nodesOf pl).length := by
  obtain ⟨k, ps, q, hm, _, hq, _, e⟩ := row_mem.mp h
  rw [e]
  exact put_in hk hl hm hq
end Eh
set_option Elab.async false
set_option linter.all false
set_option maxRecDepth 100000
set_option maxHeartbeats 8000000
namespace Eh
open PySem PySem.Spec PyProof.Rows L2
def iD (i : Int) : PyData := .int i
def tD (ds : List PyData) : PyData := .tuple ds
/-- the odd values -/
def odd12 : List PyData := [.none, iD 0, tD [], .str "a", tD [tD [], iD 9], tD [tD [], iD (-1)], tD [tD [], .none], tD [tD [], .bool true], tD [.list [], iD 0], tD [tD [iD 0, iD 0, iD 0, iD 0, iD 0, iD 0], iD 0], tD [tD [iD 9], iD 0], .dict []]
def odd9 : List PyData := [tD [tD [], iD 0], tD [tD [iD 0], iD 0], tD [tD [iD 1], iD 1], tD [tD [iD 0], iD 1], tD [tD [iD 1, iD 0], iD 0], tD [tD [tD [], iD 0]], tD [tD [], iD 0, iD 0], .list [tD [], iD 0], tD [tD [.bool true], iD 0]]
def oddD : List PyData := odd12 ++ odd9
def natD : PyData → Option Nat
  | .int i => if 0 ≤ i then some i.toNat else none
  | _ => none
/-- the call that a value is -/
def callD : PyData → Option CKey
  | .tuple [.tuple ds, i] => match ds.mapM natD, natD i with
    | some ns, some n => some (ns, n)
    | _, _ => none
  | _ => none
def isTup : PyData → Bool
  | .tuple _ => true
  | _ => false
def knownD (keys : List CKey) : List PyData := oddD.filter fun d => isTup d && (keys.map tellC).contains d.shown
/-- what is decided of each odd value by itself -/
def oddOk (d : PyData) : Bool := match callD d with
  | some c => isTup d && decide (tellC c = d.shown) && decide (candC d.shown = some c)
  | none => !isTup d || (match candC d.shown with
    | some c => !decide (tellC c = d.shown)
    | none => true)
theorem odd_ok : oddD.all oddOk = true := by decide +kernel
theorem odd_refl : (oddD.filter isTup).all (fun d => PyData.eqv d d) = true := by decide +kernel
theorem odd_far : oddD.all (fun d => isTup d || (oddD.filter isTup).all fun k => !PyData.eqv k d) = true := by decide +kernel
def isCallD (keys : List CKey) (d : PyData) : Bool := match callD d with
  | some c => keys.contains c
  | none => false
/-- a value that is a call is told by its text, and no other one -/
theorem tell_iff {keys : List CKey} (hb : ∀ c ∈ keys, (∀ n ∈ c.1, n < 1000) ∧ c.2 < 1000) {d : PyData} (hd : d ∈ oddD) (ht : isTup d = true) : (keys.map tellC).contains d.shown = isCallD keys d := by
  have ok := List.all_eq_true.mp odd_ok d hd
  unfold oddOk at ok
  cases hc : callD d with
  | some c =>
    rw [hc] at ok
    simp only [Bool.and_eq_true, decide_eq_true_eq] at ok
    obtain ⟨⟨_, o1⟩, o2⟩ := ok
    rw [show isCallD keys d = keys.contains c from by unfold isCallD; rw [hc]]
    rw [Bool.eq_iff_iff, List.contains_iff_mem, List.contains_iff_mem]
    constructor
    · intro h
      obtain ⟨c2, h2, e⟩ := List.mem_map.mp h
      have := cand_call (hb c2 h2).1 (hb c2 h2).2
      rw [e, o2] at this
      rw [Option.some.inj this]
      exact h2
    · intro h
      exact List.mem_map.mpr ⟨c, h, o1⟩
  | none =>
    rw [hc] at ok
    rw [show isCallD keys d = false from by unfold isCallD; rw [hc]]
    rw [Bool.eq_false_iff]
    intro h
    obtain ⟨c2, h2, e⟩ := List.mem_map.mp (List.contains_iff_mem.mp h)
    have h3 := cand_call (hb c2 h2).1 (hb c2 h2).2
    rw [e] at h3
    rw [h3, ht] at ok
    have ok : (false || !decide (tellC c2 = d.shown)) = true := ok
    rw [decide_eq_true e] at ok
    cases ok
/-- `value in known and repr(value) in [..]` -/
theorem known_iff {keys : List CKey} (hb : ∀ c ∈ keys, (∀ n ∈ c.1, n < 1000) ∧ c.2 < 1000) {d : PyData} (hd : d ∈ oddD) :
    (((knownD keys).any fun z => PyData.eqv z d) && ((knownD keys).map PyData.shown).contains d.shown) = isCallD keys d := by
  have kt : ∀ k ∈ knownD keys, k ∈ oddD ∧ isTup k = true ∧ (keys.map tellC).contains k.shown = true := fun k hk => by
    obtain ⟨h1, h2⟩ := List.mem_filter.mp hk
    rw [Bool.and_eq_true] at h2
    exact ⟨h1, h2.1, h2.2⟩
  cases ht : isTup d with
  | false =>
    have far := List.all_eq_true.mp odd_far d hd
    rw [ht, Bool.false_or, List.all_eq_true] at far
    have e1 : ((knownD keys).any fun z => PyData.eqv z d) = false := by
      rw [List.any_eq_false]
      intro k hk
      obtain ⟨h1, h2, _⟩ := kt k hk
      have := far k (List.mem_filter.mpr ⟨h1, h2⟩)
      simpa using this
    rw [e1, Bool.false_and]
    cases d with
    | tuple ds => cases ht
    | _ => rfl
  | true =>
    rw [← tell_iff hb hd ht]
    cases hk : (keys.map tellC).contains d.shown with
    | true =>
      have hm : d ∈ knownD keys := List.mem_filter.mpr ⟨hd, by rw [ht, hk]; rfl⟩
      have er := List.all_eq_true.mp odd_refl d (List.mem_filter.mpr ⟨hd, ht⟩)
      rw [show ((knownD keys).any fun z => PyData.eqv z d) = true from List.any_eq_true.mpr ⟨d, hm, er⟩, Bool.true_and, List.contains_iff_mem]
      exact List.mem_map_of_mem hm
    | false =>
      rw [Bool.and_eq_false_iff]
      right
      rw [Bool.eq_false_iff]
      intro h
      obtain ⟨k, hk2, e⟩ := List.mem_map.mp (List.contains_iff_mem.mp h)
      obtain ⟨_, _, h3⟩ := kt k hk2
      rw [e, hk] at h3
      cases h3
theorem dp_sm {K : PySem.W.Frag} {H H' : Hp} (s : Same H H') : ∀ {d : PyData} {v : V}, Dp K H v d → Dp K H' v d := by
  have go : ∀ n : Nat, (∀ {d : PyData} {v : V}, sizeOf d ≤ n → Dp K H v d → Dp K H' v d) ∧ (∀ {ds : List PyData} {vs : List V}, sizeOf ds ≤ n → DpAll K H vs ds → DpAll K H' vs ds) := by
    intro n
    induction n with
    | zero =>
      refine ⟨fun {d v} h _ => ?_, fun {ds vs} h _ => ?_⟩
      · cases d <;> simp at h
      · cases ds <;> simp at h
    | succ n ih =>
      refine ⟨fun {d v} h q => ?_, fun {ds vs} h q => ?_⟩
      · cases q with
        | non => exact .non
        | bl b => exact .bl b
        | int i => exact .int i
        | str x => exact .str x
        | lst hs ha =>
          refine .lst ?_ (ih.2 (by simp at h; omega) ha)
          rcases hs with hs | hs
          · exact .inl (hs.imp (s _ _) fun ⟨o, e⟩ => ⟨o, s _ _ e⟩)
          · exact .inr hs
        | tup hs ha => exact .tup ((stk s).seq hs) (ih.2 (by simp at h; omega) ha)
      · cases q with
        | nil => exact .nil
        | cons a t => exact .cons (ih.1 (by simp at h; omega) a) (ih.2 (by simp at h; omega) t)
  intro d v h
  exact (go (sizeOf d)).1 (Nat.le_refl _) h
def flatK (v : V) : Prop := (∃ i, v = .int i) ∨ (∃ b, v = .bl b) ∨ v = .non
theorem flatK.kind {K : PySem.W.Frag} {H : Hp} {v : V} (h : flatK v) : KindI K H v := by
  rcases h with ⟨i, rfl⟩ | ⟨b, rfl⟩ | rfl
  · exact .inl ⟨i, rfl⟩
  · exact .inr (.inl ⟨b, rfl⟩)
  · exact .inr (.inr ⟨fun i => V.noConfusion, _, .base .non, kit_ty (by decide +kernel)⟩)
/-- a tuple as a call, by what stays -/
inductive CallP (K : PySem.W.Frag) (H : Hp) : Addr → Option (Option (List V) × V) → Prop
  | len {t : Addr} {zs : List V} : SqT K H t zs → zs.length ≠ 2 → CallP K H t none
  | tup {t p : Addr} {i : V} {zs : List V} : SqT K H t [.ref p, i] → SqT K H p zs → (∀ z ∈ zs, flatK z) → flatK i → CallP K H t (some (some zs, i))
  | lst {t p : Addr} {i : V} {xs : List V} : SqT K H t [.ref p, i] → H p = some (.lst xs) → flatK i → CallP K H t (some (none, i))
theorem CallP.sm {K : PySem.W.Frag} {H H' : Hp} {t : Addr} {co : Option (Option (List V) × V)} (h : CallP K H t co) (s : Same H H') : CallP K H' t co := by
  cases h with
  | len a b => exact .len ((stk s).seq a) b
  | tup a b c d => exact .tup ((stk s).seq a) ((stk s).seq b) c d
  | lst a b c => exact .lst ((stk s).seq a) (s _ _ b) c
theorem CallP.v {K : PySem.W.Frag} {H : Hp} {t : Addr} {co : Option (Option (List V) × V)} (h : CallP K H t co) : CallV K H (.ref t) co := by
  cases h with
  | len a b => exact .len a b
  | tup a b c d => exact .pair a (.tup b fun z hz => (c z hz).kind) d.kind
  | lst a b c => exact .pair a (.other (.inr (.inr (.inr (.inr (.inl ⟨_, _, rfl, b⟩)))))) c.kind
/-- what the data says of a value as a call -/
def CallM (d : PyData) (co : Option (Option (List V) × V)) : Prop := (∃ c, callD d = some c ∧ co = some (some (c.1.map natV), .int (c.2 : Nat))) ∨ (callD d = none ∧ ∀ (pa : List Nat) (i : Nat), co ≠ some (some (pa.map natV), .int (i : Nat)))
/-- an odd value as it stands: as data, and as a call -/
inductive OddAt (K : PySem.W.Frag) (H : Hp) : V → PyData → Prop
  | tup {a : Addr} {d : PyData} {co : Option (Option (List V) × V)} {xs : List V} : isTup d = true → SqT K H a xs → Dp K H (.ref a) d → CallP K H a co → CallM d co → OddAt K H (.ref a) d
  | no {v : V} {d : PyData} : isTup d = false → NoT H v → (Dp K H v d ∨ ∃ a, v = .ref a ∧ H a = some (.dK [])) → callD d = none → OddAt K H v d
theorem not_sm {H H' : Hp} (s : Same H H') {v : V} (h : NoT H v) : NoT H' v := by
  rcases h with h | h | h | h | ⟨a, xs, e, h⟩ | ⟨a, kvs, e, h⟩
  · exact .inl h
  · exact .inr (.inl h)
  · exact .inr (.inr (.inl h))
  · exact .inr (.inr (.inr (.inl h)))
  · exact .inr (.inr (.inr (.inr (.inl ⟨a, xs, e, s _ _ h⟩))))
  · exact .inr (.inr (.inr (.inr (.inr ⟨a, kvs, e, s _ _ h⟩))))
theorem OddAt.sm {K : PySem.W.Frag} {H H' : Hp} {v : V} {d : PyData} (h : OddAt K H v d) (s : Same H H') : OddAt K H' v d := by
  cases h with
  | tup a b c e f => exact .tup a ((stk s).seq b) (dp_sm s c) (e.sm s) f
  | no a b c e => exact .no a (not_sm s b) (c.imp (dp_sm s) fun ⟨x, e1, e2⟩ => ⟨x, e1, s _ _ e2⟩) e
/-- is the value a call of the promise? -/
theorem odd_call {K : PySem.W.Frag} {H : Hp} {v : V} {d : PyData} (h : OddAt K H v d) : ∃ co, CallV K H v co ∧ CallM d co := by
  cases h with
  | tup a b c e f => exact ⟨_, e.v, f⟩
  | no a b c e => exact ⟨none, .other b, .inr ⟨e, fun _ _ z => nomatch z⟩⟩
theorem call_keys {pl : Pl} (hk : plOk pl = true) (hl : (nodesOf pl).length < 1000) {d : PyData} {co : Option (Option (List V) × V)} (m : CallM d co) : (!decide (handPl pl co = .non)) = isCallD ((rowsPl pl).map (·.1)) d := by
  have yes : ∀ c : CKey, c ∈ (rowsPl pl).map (·.1) → handPl pl (some (some (c.1.map natV), .int (c.2 : Nat))) ≠ .non := fun c hc => by
    obtain ⟨r, hr, rfl⟩ := List.mem_map.mp hc
    obtain ⟨k, ps, q, hm, hch, hq, e1, _⟩ := row_mem.mp hr
    have hk2 : k = "mine" ∨ k = "yours" := by
      unfold isCh at hch
      simpa using hch
    have hh : isHand (handK k) := by
      rcases hk2 with rfl | rfl
      · exact .inr (if_pos rfl)
      · exact .inl (if_neg (by decide +kernel))
    rw [(hand_choice hch hh).mp rfl] at hm
    rw [handPl_call hk hl hh hm (List.getElem?_eq_some_iff.mp hq).1]
    exact V.noConfusion
  have no : handPl pl co ≠ .non → ∃ c ∈ (rowsPl pl).map (·.1), co = some (some (c.1.map natV), .int (c.2 : Nat)) := fun h => by
    rcases handPl_cases pl co with e | ⟨pa, i, k, ps, q, e, hm, hq, hh⟩
    · exact absurd e h
    · have hch : isCh k = true := by
        unfold isCh
        rcases hh with ⟨e, _⟩ | ⟨e, _⟩ <;> rw [e] <;> decide +kernel
      exact ⟨(pa, i), List.mem_map.mpr ⟨((pa, i), handK k, putP pl pa q), row_mem.mpr ⟨k, ps, q, hm, hch, hq, rfl, rfl⟩, rfl⟩, e⟩
  unfold isCallD
  rcases m with ⟨c, e1, e2⟩ | ⟨e1, e2⟩
  · rw [e1]
    show _ = ((rowsPl pl).map (·.1)).contains c
    rw [Bool.eq_iff_iff, List.contains_iff_mem]
    constructor
    · intro h
      have h : handPl pl co ≠ .non := by simpa using h
      obtain ⟨c2, h2, e3⟩ := no h
      rw [e2] at e3
      have e4 := Option.some.inj e3
      have e5 := natV_inj (Option.some.inj (Prod.mk.inj e4).1)
      have e6 : c.2 = c2.2 := by
        have z := (Prod.mk.inj e4).2
        injection z with z
        exact Int.ofNat.inj z
      rw [show c = c2 from Prod.ext e5 e6]
      exact h2
    · intro h
      have := yes c h
      rw [e2]
      simpa using this
  · rw [e1]
    have : handPl pl co = .non := by
      by_cases h : handPl pl co = .non
      · exact h
      · obtain ⟨c, _, e3⟩ := no h
        exact absurd e3 (e2 _ _)
    rw [this]
    rfl
/-- `value in known`: the items of known are tuples -/
def rInK (K : PySem.W.Frag) : R2 := fun x y H Q => rInD K x y H Q ∨ ∃ a p xs, x = .ref a ∧ y = .ref p ∧ H a = some (.dK []) ∧ SqL K H p xs ∧ (∀ z ∈ xs, ∃ t ys, z = .ref t ∧ SqT K H t ys) ∧ Q (.bl false) H
theorem inKn {X : Cx} {K : PySem.W.Frag} (hK : X.K = K) (hu : X.A.units + 65 < cLine) : OpR X (compareOp .In) (rInK K) := by
  subst hK
  intro pins s σ H x y v u Q I rx ry h
  rcases h with h | ⟨a, p, xs, rfl, rfl, ha, hs, hz, q⟩
  · exact op_inD hu pins s σ H x y v u Q I rx ry h
  · obtain rfl : v = Value.ref a := rx
    obtain rfl : u = Value.ref p := ry
    obtain ⟨its, r, pl, _⟩ := I.list hs
    obtain ⟨_, _, _, _, o, es, ep, h1, h2, h3, _⟩ := (show ObjOk X.prog X.w H s.heap a (.dK []) from I.hok a _ ha)
    obtain ⟨oc, od, dt, sl⟩ := o
    have e1 : oc = .type "dict" := h2.1
    simp only at h3
    subst e1 h3
    have e0 : its.toArray.any (fun _ => false) = false := by simp
    refine SeqAt.in_listAt (fun _ => false) pl.isList (fun w hw => ?_) ⟨.bl _, H, I, rfl, by rw [e0]; exact q⟩
    have hw : w ∈ its := by simpa using hw
    obtain ⟨j, hj⟩ := List.getElem?_of_mem hw
    obtain ⟨z, hzj, rz⟩ := back_at r hj
    obtain ⟨t, ys, rfl, ht⟩ := hz z (List.mem_of_getElem? hzj)
    obtain rfl : w = Value.ref t := rz
    obtain ⟨i2, r2, ⟨⟨tc, td, tdt, ts⟩, g1, g2, m, g3⟩, _⟩ := I.tuple ht
    simp only at g2 g3
    subst g2 g3
    exact eqTupDict h1 g1 (by show X.A.units + 1 < cLine; omega)
end Eh
set_option Elab.async false
set_option linter.all false
set_option maxRecDepth 100000
set_option maxHeartbeats 8000000
namespace Eh
open PySem PySem.Spec PyProof.Rows L2
theorem subs_lt : ∀ {pa : List Nat} {pl q : Pl}, (pa, q) ∈ subsP pl → ∀ n ∈ pa, n < (nodesOf pl).length
  | [], pl, q, _ => fun n hn => nomatch hn
  | i :: r, .leaf k t, q, h => by
    rw [subsP] at h
    cases (Prod.mk.inj (List.mem_singleton.mp h)).1
  | i :: r, .node k ps, q, h => by
    rcases mem_node.mp h with ⟨e, _⟩ | ⟨_, j, r', p, e, hp, hq⟩
    · cases e
    · cases e
      have ih := subs_lt hq
      have hg := nodesOf_get hp
      have hj := (List.getElem?_eq_some_iff.mp hp).1
      have hle := nodes_ge ps
      intro n hn
      rw [nodesOf, List.length_cons]
      rcases List.mem_cons.mp hn with rfl | hn
      · omega
      · have := ih n hn
        omega
theorem rows_small {pl : Pl} (hl : (nodesOf pl).length < 1000) : ∀ c ∈ (rowsPl pl).map (·.1), (∀ n ∈ c.1, n < 1000) ∧ c.2 < 1000 := fun c hc => by
  obtain ⟨r, hr, rfl⟩ := List.mem_map.mp hc
  obtain ⟨k, ps, q, hm, _, hq, _, _⟩ := row_mem.mp hr
  refine ⟨fun n hn => by have := subs_lt hm n hn; omega, ?_⟩
  have h1 := (List.getElem?_eq_some_iff.mp hq).1
  have h2 := nodes_ge ps
  have h3 := subs_lenle hm
  rw [nodesOf, List.length_cons] at h3
  omega
theorem rows_short {pl : Pl} (hl : (nodesOf pl).length < 1000) : ∀ c ∈ (rowsPl pl).map (·.1), c.1.length < 1000 := fun c hc => by
  obtain ⟨r, hr, rfl⟩ := List.mem_map.mp hc
  obtain ⟨k, ps, q, hm, _, hq, _, _⟩ := row_mem.mp hr
  have := subs_lenle3 hm
  omega
theorem nums_short : ∀ n, n < 1000 → (numL n).length ≤ 3 := by
  have : (List.range 1000).all (fun n => decide ((numL n).length ≤ 3)) = true := by decide +kernel
  intro n h
  exact of_decide_eq_true (List.all_eq_true.mp this n (List.mem_range.mpr h))
theorem join_short : ∀ {ns : List Nat}, (∀ n ∈ ns, n < 1000) → (joinL ns).length ≤ 5 * ns.length
  | [], _ => Nat.le_refl _
  | [n], h => by
    have := nums_short n (h n List.mem_cons_self)
    show (numL n).length ≤ _
    rw [List.length_singleton]
    omega
  | n :: m :: r, h => by
    have h1 := nums_short n (h n List.mem_cons_self)
    have h2 := join_short (ns := m :: r) (fun z hz => h z (List.mem_cons_of_mem _ hz))
    show (numL n ++ 44 :: 32 :: joinL (m :: r)).length ≤ _
    rw [List.length_append, List.length_cons, List.length_cons, List.length_cons]
    omega
theorem num_log {n : Nat} (h : n < 1000) : (PyData.int (n : Int)).showable = true := by
  have : (List.range 1000).all (fun n => (PyData.int (n : Int)).showable) = true := by decide +kernel
  exact List.all_eq_true.mp this n (List.mem_range.mpr h)
theorem nats_show : ∀ ns : List Nat, (∀ n ∈ ns, n < 1000) → PyData.showableAll (natsD ns) = true ∧ PyData.hasDictAll (natsD ns) = false
  | [], _ => ⟨rfl, rfl⟩
  | n :: ns, h => by
    obtain ⟨a, b⟩ := nats_show ns (fun z hz => h z (List.mem_cons_of_mem _ hz))
    refine ⟨?_, b⟩
    show ((PyData.int (n : Int)).showable && PyData.showableAll (natsD ns)) = true
    rw [a, num_log (h n List.mem_cons_self)]
    rfl
theorem call_show {c : CKey} (h1 : ∀ n ∈ c.1, n < 1000) (h2 : c.2 < 1000) (h3 : c.1.length < 1000) : (ckD c).showable = true ∧ (ckD c).hasDict = false ∧ (ckD c).depth < 60 ∧ (ckD c).shown.length ≤ sizeLine := by
  obtain ⟨a, b⟩ := nats_show c.1 h1
  refine ⟨?_, ?_, Nat.lt_of_le_of_lt (ckD_depth c) (by decide), ?_⟩
  · show (PyData.showableAll (natsD c.1) && ((PyData.int (c.2 : Int)).showable && true)) = true
    rw [a, num_log h2]
    rfl
  · unfold ckD
    simp [PyData.hasDict, PyData.hasDictAll, b]
  · refine Nat.le_of_lt (small ?_)
    obtain ⟨tl, ht, e⟩ := tellC_cps c
    have el : (ckD c).shown.length = (tellC c).cps.toList.length := rfl
    rw [el, e]
    have j1 := join_short h1
    have j2 := nums_short c.2 h2
    have j3 : tl.length ≤ 2 := by rcases ht with rfl | rfl <;> decide
    simp only [List.length_cons, List.length_append, List.length_nil]
    omega
def showOk (d : PyData) : Bool := !isTup d || (d.showable && !d.hasDict && decide (d.depth < 60) && decide (d.shown.length < 1000000))
theorem odd_show : oddD.all showOk = true := by decide +kernel
theorem odd_shown {d : PyData} (hd : d ∈ oddD) (ht : isTup d = true) : d.showable = true ∧ d.hasDict = false ∧ d.depth < 60 ∧ d.shown.length ≤ sizeLine := by
  have h := List.all_eq_true.mp odd_show d hd
  unfold showOk at h
  rw [ht] at h
  simp only [Bool.not_true, Bool.false_or, Bool.and_eq_true, decide_eq_true_eq] at h
  obtain ⟨⟨⟨a, b⟩, c⟩, e⟩ := h
  exact ⟨a, by simpa using b, c, Nat.le_of_lt (small e)⟩
def layOk (d : PyData) : Bool := PyData.canLay0 d && decide (d.depth ≤ 4)
def isDict0 : PyData → Bool
  | .dict [] => true
  | _ => false
theorem odd_lay : oddD.all (fun d => isDict0 d || layOk d) = true := by decide +kernel
theorem odd_layT : oddD.all (fun d => !isTup d || layOk d) = true := by decide +kernel
theorem layOk_shaped {d : PyData} (h : layOk d = true) : SeqAt.shaped d = true := by
  unfold layOk at h
  rw [Bool.and_eq_true, decide_eq_true_eq] at h
  unfold SeqAt.shaped
  rw [h.1, Bool.true_and]
  exact decide_eq_true (by omega)
theorem lays : ∀ {ds : List PyData}, (∀ d ∈ ds, layOk d = true) → PyData.canLayAll0 ds = true ∧ PyData.depthAll ds ≤ 4
  | [], _ => ⟨rfl, Nat.zero_le _⟩
  | d :: ds, h => by
    obtain ⟨a, b⟩ := lays (fun z hz => h z (List.mem_cons_of_mem _ hz))
    have k := h d List.mem_cons_self
    unfold layOk at k
    rw [Bool.and_eq_true, decide_eq_true_eq] at k
    refine ⟨?_, ?_⟩
    · show (PyData.canLay0 d && PyData.canLayAll0 ds) = true
      rw [k.1, a]
      rfl
    · show max d.depth (PyData.depthAll ds) ≤ 4
      omega
theorem known_shaped (keys : List CKey) : SeqAt.shaped (.list (knownD keys)) = true := by
  obtain ⟨a, b⟩ := lays (ds := knownD keys) (fun d hd => by
    obtain ⟨h1, h2⟩ := List.mem_filter.mp hd
    rw [Bool.and_eq_true] at h2
    have := List.all_eq_true.mp odd_layT d h1
    rw [h2.1] at this
    exact this)
  unfold SeqAt.shaped
  rw [show PyData.canLay0 (.list (knownD keys)) = true from a, Bool.true_and]
  refine decide_eq_true ?_
  show PyData.depthAll (knownD keys) + 1 ≤ 64
  omega
theorem oddv_tup {K : PySem.W.Frag} {H : Hp} {v : V} {d : PyData} (h : OddAt K H v d) (ht : isTup d = true) : ∃ a xs, v = .ref a ∧ SqT K H a xs ∧ Dp K H (.ref a) d := by
  cases h with
  | tup a b c e f => exact ⟨_, _, rfl, b, c⟩
  | no a b c e => rw [ht] at a; cases a
theorem odd_ty {K : PySem.W.Frag} {H : Hp} {v : V} {d : PyData} (h : OddAt K H v d) : ∃ t, TyX K H v t ∧ PySem.W.kitOne K t (.type "tuple") = some (isTup d) := by
  cases h with
  | tup a b c e f => exact ⟨_, ty_tup b, by rw [a]; exact kitTT⟩
  | no a b c e =>
    obtain ⟨u, h1, h2⟩ := b.ty
    exact ⟨u, h1, by rw [a]; exact h2⟩
theorem odd_dpl {K : PySem.W.Frag} {H : Hp} {vs : List V} {ds : List PyData} (h : Paired (OddAt K H) vs ds) (ht : ∀ d ∈ ds, isTup d = true) : DpAll K H vs ds := by
  induction h with
  | nil => exact .nil
  | cons a t ih =>
    obtain ⟨_, _, rfl, _, hd⟩ := oddv_tup a (ht _ List.mem_cons_self)
    exact .cons hd (ih fun d hd => ht d (List.mem_cons_of_mem _ hd))
theorem odd_items {K : PySem.W.Frag} {H : Hp} {vs : List V} {ds : List PyData} (h : Paired (OddAt K H) vs ds) (ht : ∀ d ∈ ds, isTup d = true) : ∀ z ∈ vs, ∃ t ys, z = .ref t ∧ SqT K H t ys := by
  induction h with
  | nil => exact fun _ hz => nomatch hz
  | cons a t ih =>
    obtain ⟨_, _, rfl, hs, _⟩ := oddv_tup a (ht _ List.mem_cons_self)
    intro z hz
    rcases List.mem_cons.mp hz with rfl | hz
    · exact ⟨_, _, rfl, hs⟩
    · exact ih (fun d hd => ht d (List.mem_cons_of_mem _ hd)) z hz
theorem known_tup {keys : List CKey} : ∀ d ∈ knownD keys, isTup d = true := fun d hd => by
  obtain ⟨_, h2⟩ := List.mem_filter.mp hd
  rw [Bool.and_eq_true] at h2
  exact h2.1
theorem known_odd {keys : List CKey} : ∀ d ∈ knownD keys, d ∈ oddD := fun d hd => (List.mem_filter.mp hd).1
/-- `value in known`, of an odd value -/
theorem odd_in {K : PySem.W.Frag} {H : Hp} {v : V} {d : PyData} {p : Addr} {ks : List V} {keys : List CKey} {Q : VK} (h : OddAt K H v d) (hd : d ∈ oddD) (hp : SqL K H p ks) (hk : Paired (OddAt K H) ks (knownD keys)) (q : Q (.bl ((knownD keys).any fun z => PyData.eqv z d)) H) : rInK K v (.ref p) H Q := by
  have hlay := List.all_eq_true.mp odd_lay d hd
  rw [Bool.or_eq_true] at hlay
  have dp : Dp K H v d → rInK K v (.ref p) H Q := fun dv => by
    rcases hlay with hl | hl
    · have : d = .dict [] := by
        unfold isDict0 at hl
        split at hl
        · rfl
        · cases hl
      subst this
      cases dv
    · exact .inl ⟨d, knownD keys, dv, .lst hp (odd_dpl hk known_tup), layOk_shaped hl, known_shaped keys, q⟩
  cases h with
  | tup a b c e f => exact dp c
  | no a b c e =>
    rcases c with c | ⟨x, rfl, ex⟩
    · exact dp c
    · refine .inr ⟨x, p, ks, rfl, rfl, ex, hp, odd_items hk known_tup, ?_⟩
      have far := List.all_eq_true.mp odd_far d hd
      rw [a, Bool.false_or, List.all_eq_true] at far
      have e1 : ((knownD keys).any fun z => PyData.eqv z d) = false := by
        rw [List.any_eq_false]
        intro k hk
        have := far k (List.mem_filter.mpr ⟨known_odd k hk, known_tup k hk⟩)
        simpa using this
      rw [e1] at q
      exact q
/-- a value that equals a tuple is one -/
theorem known_isTup {keys : List CKey} {d : PyData} (hd : d ∈ oddD) (h : ((knownD keys).any fun z => PyData.eqv z d) = true) : isTup d = true := by
  have far := List.all_eq_true.mp odd_far d hd
  cases ht : isTup d with
  | true => rfl
  | false =>
    rw [ht, Bool.false_or, List.all_eq_true] at far
    obtain ⟨k, hk, e⟩ := List.any_eq_true.mp h
    have := far k (List.mem_filter.mpr ⟨known_odd k hk, known_tup k hk⟩)
    rw [e] at this
    cases this
/-- `_law_got(made, value)` of an odd value -/
theorem got_odd {K : PySem.W.Frag} {C a : Addr} {H : Hp} {pl : Pl} {v : V} {d : PyData} {co : Option (Option (List V) × V)} {Q : VK} {E : XK} (pr : PrG K C H a (nodesOf pl)) (hok : plOk pl = true) (hl : (nodesOf pl).length < 1000) (hcv : CallV K H v co) (hcm : CallM d co)
    (hob : ∀ r ∈ rowsPl pl, okB (nodesOf r.2.2) = true) (q : ∀ x H', Same H H' → (!decide (x = V.non)) = isCallD ((rowsPl pl).map (·.1)) d → Q x H') : spGot K C [.ref a, v] H Q E := by
  have hck := call_keys hok hl hcm
  refine ⟨a, pl, v, co, rfl, pr, hok, hl, hcv, fun pa i k ps p ec hm hq hk => ?_, fun e => ?_⟩
  · have hch : isCh k = true := by
      unfold isCh
      rcases hk with e | e <;> rw [e] <;> decide +kernel
    have hr : (((pa, i), handK k, putP pl pa p) : CRow) ∈ rowsPl pl := row_mem.mpr ⟨k, ps, p, hm, hch, hq, rfl, rfl⟩
    refine ⟨hob _ hr, fun x H' s n _ => q _ H' s ?_⟩
    rw [← hck]
    have hk2 : k = "mine" ∨ k = "yours" := hk.symm
    have hh : isHand (handK k) := by
      rcases hk2 with rfl | rfl
      · exact .inr (if_pos rfl)
      · exact .inl (if_neg (by decide +kernel))
    rw [(hand_choice hch hh).mp rfl] at hm
    rw [ec, handPl_call hok hl hh hm (List.getElem?_eq_some_iff.mp hq).1, decide_eq_false (fun z : V.ref x = .non => nomatch z), decide_eq_false (fun z : V.str (handK k) = .non => nomatch z)]
  · refine q _ H (Same.refl _) ?_
    rw [← hck, e]
end Eh
set_option Elab.async false
set_option linter.all false
set_option maxRecDepth 100000
set_option maxHeartbeats 16000000
namespace Eh
open PySem PySem.Spec PyProof.Rows L2
section
variable {P : Program} {w : World} {K : PySem.W.Frag} {mg : Str → Option Value} {base : Heap}
def spRight : Sp := fun vs H Q _ => ∃ d, vs = [.ref d] ∧ D3 H d ∧ ∀ H', Gr d H H' → Q (.bl true) H'
/-- the promise and its rows -/
structure RowD (P : Program) (w : World) (K : PySem.W.Frag) (C : Addr) (H : Hp) (a d : Addr) (v : V) (pl : Pl) (L : List CEnt) : Prop where
  pr : PrG K C H a (nodesOf pl)
  e : H d = some (DcO P w d L)
  k : KeysAt K H L
  r : RowsC K H L (rowsPl pl)
  p : At K H v pl
theorem RowD.sm {C a d : Addr} {H H' : Hp} {v : V} {pl : Pl} {L : List CEnt} (h : RowD P w K C H a d v pl L) (s : Same H H') : RowD P w K C H' a d v pl L :=
  ⟨h.pr.sm s, s _ _ h.e, h.k.tk (stk s), rowsC_tk h.r (stk s), h.p.tk (stk s)⟩
/-- the entries of a hand, with their rows -/
def ofHand (L : List CEnt) (rs : List CRow) (hd : Str) : List (CEnt × CRow) := (L.zip rs).filter fun z => decide (z.2.2.1 = hd)
theorem zip_get {L : List CEnt} {rs : List CRow} {j : Nat} {e : CEnt} {r : CRow} (h1 : L[j]? = some e) (h2 : rs[j]? = some r) : (L.zip rs)[j]? = some (e, r) := by
  rw [List.getElem?_zip_eq_some]
  exact ⟨h1, h2⟩
theorem ofHand_calls {H : Hp} {hd : Str} : ∀ {L : List CEnt} {rs : List CRow}, KeysAt K H L → RowsC K H L rs → CallsAt K H ((ofHand L rs hd).map fun z => .ref z.1.2.1) ((rs.filter fun r => decide (r.2.1 = hd)).map (·.1))
  | [], _, _, h => by
    cases h
    exact .nil
  | e :: L, _, kk, h => by
    cases h with
    | @cons _ r _ rs h t =>
      have ih := ofHand_calls (hd := hd) (fun e he => kk e (List.mem_cons_of_mem _ he)) t
      unfold ofHand at ih ⊢
      rw [List.zip_cons_cons, List.filter_cons, List.filter_cons]
      by_cases e1 : r.2.1 = hd
      · rw [if_pos (decide_eq_true e1), if_pos (decide_eq_true e1), List.map_cons, List.map_cons]
        refine .cons ?_ ih
        rw [← h.1]
        exact kk e List.mem_cons_self
      · rw [if_neg (by simpa using e1), if_neg (by simpa using e1)]
        exact ih
def callsD (cs : List CKey) : PyData := .list (cs.map ckD)
theorem callsD_lay : ∀ cs : List CKey, PyData.canLayAll0 (cs.map ckD) = true ∧ PyData.depthAll (cs.map ckD) ≤ 2
  | [] => ⟨rfl, Nat.zero_le _⟩
  | c :: cs => by
    obtain ⟨h1, h2⟩ := callsD_lay cs
    obtain ⟨h3, _⟩ := natsD_lay c.1
    rw [List.map_cons]
    refine ⟨?_, ?_⟩
    · show ((PyData.canLayAll0 (c.1.map _) && (true && true)) && PyData.canLayAll0 _) = true
      rw [h1, h3]
      rfl
    · show max (ckD c).depth (PyData.depthAll _) ≤ 2
      have := ckD_depth c
      omega
theorem callsD_shaped (cs : List CKey) : SeqAt.shaped (callsD cs) = true := by
  obtain ⟨h1, h2⟩ := callsD_lay cs
  unfold SeqAt.shaped
  rw [show PyData.canLay0 (callsD cs) = true from h1, Bool.true_and]
  refine decide_eq_true ?_
  show PyData.depthAll (cs.map ckD) + 1 ≤ 64
  omega
theorem ofHand_snd {hd : Str} : ∀ {L : List CEnt} {rs : List CRow}, L.length = rs.length → (ofHand L rs hd).map (·.2) = rs.filter fun r => decide (r.2.1 = hd)
  | [], [], _ => rfl
  | [], _ :: _, h => by simp at h
  | _ :: _, [], h => by simp at h
  | e :: L, r :: rs, h => by
    have ih := ofHand_snd (hd := hd) (show L.length = rs.length by simpa using h)
    unfold ofHand at ih ⊢
    rw [List.zip_cons_cons, List.filter_cons, List.filter_cons]
    by_cases e1 : r.2.1 = hd
    · rw [if_pos (decide_eq_true e1), if_pos (decide_eq_true e1), List.map_cons, ih]
    · rw [if_neg (by simpa using e1), if_neg (by simpa using e1), ih]
theorem ofHand_at {H : Hp} {hd : Str} {L : List CEnt} {rs : List CRow} (rr : RowsC K H L rs) {z : CEnt × CRow} (h : z ∈ ofHand L rs hd) : ∃ j : Nat, L[j]? = some z.1 ∧ rs[j]? = some z.2 ∧ RowAt K H z.1 z.2 := by
  obtain ⟨h1, _⟩ := List.mem_filter.mp h
  obtain ⟨j, hj⟩ := List.getElem?_of_mem h1
  obtain ⟨z1, z2⟩ := z
  rw [List.getElem?_zip_eq_some] at hj
  obtain ⟨r, hr, ha⟩ := paired_at rr hj.1
  have hr2 : rs[j]? = some z2 := hj.2
  rw [hr] at hr2
  cases hr2
  exact ⟨j, hj.1, hr, ha⟩
theorem row_hand {pl : Pl} (hok : plOk pl = true) (hl : (nodesOf pl).length < 1000) {r : CRow} (hr : r ∈ rowsPl pl) : handPl pl (some (some (r.1.1.map natV), .int (r.1.2 : Nat))) = .str r.2.1 := by
  obtain ⟨k, ps, q, hm, hch, hq, e1, _⟩ := row_mem.mp hr
  have hk2 : k = "mine" ∨ k = "yours" := by
    unfold isCh at hch
    simpa using hch
  have hh : isHand (handK k) := by
    rcases hk2 with rfl | rfl
    · exact .inr (if_pos rfl)
    · exact .inl (if_neg (by decide +kernel))
  rw [(hand_choice hch hh).mp rfl] at hm
  rw [handPl_call hok hl hh hm (List.getElem?_eq_some_iff.mp hq).1, e1]
theorem got_row {C a : Addr} {H : Hp} {pl q2 : Pl} {v : V} {c : CKey} {hd : Str} {Q : VK} {E : XK} (pr : PrG K C H a (nodesOf pl)) (hok : plOk pl = true) (hl : (nodesOf pl).length < 1000) (hv : CallAt K H v c) (hm : ((c, hd, q2) : CRow) ∈ rowsPl pl) (ob : okB (nodesOf q2) = true)
    (q : ∀ x H', Same H H' → H x = none → PrG K C H' x (nodesOf q2) → Q (.ref x) H') : spGot K C [.ref a, v] H Q E := by
  obtain ⟨k, ps, q0, hs, hc, hq, e1, e2⟩ := row_mem.mp hm
  have e2 : q2 = putP pl c.1 q0 := e2
  refine ⟨a, pl, v, _, rfl, pr, hok, hl, call_v hv, fun pa i k2 ps2 q3 ec hs2 hq2 _ => ?_, fun z => ?_⟩
  · have ec := Option.some.inj ec
    have ec1 := Option.some.inj (Prod.mk.inj ec).1
    have ec2 := (Prod.mk.inj ec).2
    have p1 : c.1 = pa := natV_inj ec1
    have p2 : c.2 = i := by injection ec2 with z; exact Int.ofNat.inj z
    rw [← p1] at hs2
    have same : Pl.node k ps = Pl.node k2 ps2 := subs_fun hs hs2
    cases same
    rw [← p2] at hq2
    have e0 : some q0 = some q3 := hq.symm.trans hq2
    cases e0
    rw [← p1, ← e2]
    exact ⟨ob, q⟩
  · have := row_hand hok hl hm
    rw [this] at z
    cases z
theorem same_unlC {H H5 : Hp} {d : Addr} {od : Obj} {u : HO} (s : Same (upd H d (.frz od u)) H5) (e : H d = some u) : Same H (upd H5 d u) := fun b o eb => by
  by_cases n : b = d
  · subst n
    rw [e] at eb
    cases eb
    rw [upd_same]
  · rw [upd_ne n]
    exact s _ _ (by rw [upd_ne n]; exact eb)
theorem pairedApp {α β : Type} {F : α → β → Prop} {a : List α} {b : List β} {c : List α} {d : List β} (h : Paired F a b) (k : Paired F c d) : Paired F (a ++ c) (b ++ d) := by
  induction h with
  | nil => exact k
  | cons x t ih => exact .cons x ih
structure S11 (P : Program) (w : World) (K : PySem.W.Frag) (C d : Addr) (H0 H : Hp) (a dd : Addr) (v : V) (pl : Pl) (L : List CEnt) : Prop where
  g : Gr d H0 H
  r : RowD P w K C H a dd v pl L
theorem grSm {d : Addr} {H0 H H' : Hp} (g : Gr d H0 H) (s : Same H H') : Gr d H0 H' := by
  obtain ⟨x, b, c, e⟩ := g.dice
  exact ⟨⟨x, b, c, s _ _ e⟩, fun p o n e => s _ _ (g.keep p o n e)⟩
theorem S11.sm {C d : Addr} {H0 H H' : Hp} {a dd : Addr} {v : V} {pl : Pl} {L : List CEnt} (h : S11 P w K C d H0 H a dd v pl L) (s : Same H H') : S11 P w K C d H0 H' a dd v pl L := ⟨grSm h.g s, h.r.sm s⟩
theorem ok_right {C CS CE CC fI fL fS fP fM fN fK fIc fHo fG fCs gE gQ fMv fB p1 g1 f : Addr} {fdS fdP fdM fdN fdK fdIc fdHo fdG fdCs fdE fdQ fdMv fdB fd1 fd : FuncData} (F : Fun K "_law_right" "_law_right" s__law_right f fd) (T : Txt mg) (PC : PromC K mg C fI fL) (SC : SurC K mg CS fS)
    (C__law_promise : Cal P w K mg base 26 "_law_promise" fP fdP ["dice"] (spPromise K)) (C__law_nodes : Cal P w K mg base 12 "_law_nodes" fN fdN ["plain"] (spNodes K 11)) (C__law_calls : Cal P w K mg base 12 "_law_calls" fK fdK ["plain"] (spLawCalls P w K 11))
    (GM : FnOk P w K mg base (L2.CX P w) 17 fM fdM ["plain"] (spMadeE K C CE 11)) (mM : mg "_law_made" = some (.ref fM)) (kM : PySem.W.keepIn K (.ref fM) = true) (bM : Binds K fdM ["plain"] [])
    (GCs : FnOk P w K mg base (L2.CX P w) 5 fCs fdCs ["promise", "hand"] (spCalls K C)) (mCs : mg "calls" = some (.ref fCs)) (kCs : PySem.W.keepIn K (.ref fCs) = true) (bCs : Binds K fdCs ["promise", "hand"] [])
    (GIc : FnOk P w K mg base (L2.CX P w) 6 fIc fdIc ["promise", "value"] (spIsCall K C)) (mIc : mg "is_call" = some (.ref fIc)) (kIc : PySem.W.keepIn K (.ref fIc) = true) (bIc : Binds K fdIc ["promise", "value"] [])
    (GHo : FnOk P w K mg base (L2.CX P w) 7 fHo fdHo ["promise", "call"] (spHandOf K C CC)) (mHo : mg "hand_of" = some (.ref fHo)) (kHo : PySem.W.keepIn K (.ref fHo) = true) (bHo : Binds K fdHo ["promise", "call"] [])
    (C__law_got : Cal P w K mg base 8 "_law_got" fG fdG ["made", "call"] (spGot K C))
    (GS : FnOk P w K mg base (L2.CX P w) 5 fS fdS ["self", "promise"] (spSInit K C CS)) (bS : Binds K fdS ["self", "promise"] [])
    (MV : Meth K CS "moves" fMv) (GMv : FnOk P w K mg base (L2.CX P w) 8 fMv fdMv ["self", "hand"] (spMoves P w K C CS)) (bMv : Binds K fdMv ["self", "hand"] [])
    (MB : Meth K CS "behind" fB) (GB : FnOk P w K mg base (L2.CX P w) 8 fB fdB ["self", "call"] (spBehind K C CS)) (bB : Binds K fdB ["self", "call"] [])
    (DE : DunC P w K mg base C "__eq__" 1 ["self", "value"] (spEqA K C) gE fdE) (IC : IsC K C) (hNe : PySem.W.findIn K (.ref C) "__ne__" = some (some (.builtin "object.__ne__")))
    (DQ : DunC P w K mg base CS "__eq__" 3 ["self", "value"] (spSEq K C CS) gQ fdQ) (ICS : IsC K CS) (hNeS : PySem.W.findIn K (.ref CS) "__ne__" = some (some (.builtin "object.__ne__")))
    (PN : PropC P w K mg base C "nodes" 1 (spNodesP K C) p1 g1 fd1) : FnG P w K mg base 27 f fd ["dice"] spRight := by
  refine funG F sc__law_right (fun vs H Q E h => ?_) (fun cdv A outer s H vs Q E hgd hr h => ?_)
  · obtain ⟨d, rfl, _⟩ := h
    rfl
  · obtain ⟨d, rfl, D, q⟩ := h
    have hr17 := hr.mono (j := 17) (by omega)
    have hr12 := hr.mono (j := 12) (by omega)
    have hr8 := hr.mono (j := 8) (by omega)
    have hr7 := hr.mono (j := 7) (by omega)
    have hr6 := hr.mono (j := 6) (by omega)
    have hr5 := hr.mono (j := 5) (by omega)
    have hr4 := hr.mono (j := 4) (by omega)
    have hr2 := hr.mono (j := 2) (by omega)
    refine ⟨_, (pss_cons (ps_set (i := 1) sc__law_right.nd rfl (.inl rfl) (pe_call C__law_promise.G hr (by rfl) C__law_promise.m C__law_promise.k C__law_promise.b .nil pass0 (pa_cons (pv 0) pa_nil)))
  (pss_cons (ps_asg (pe_tup (pa_cons (pe_call (E := E0) GM hr17 (by rfl) mM kM bM .nil passL (pa_cons (pv 1) pa_nil)) (pa_cons (pe_call C__law_calls.G hr12 (by rfl) C__law_calls.m C__law_calls.k C__law_calls.b .nil pass0 (pa_cons (pv 1) pa_nil)) pa_nil))) (pgT (K := K) rfl (by rfl) (pgs_cons (pg_name (i := 2) sc__law_right.nd rfl (.inl rfl)) (pgs_cons (pg_name (i := 3) sc__law_right.nd rfl (.inr rfl)) pgs_nil))))
  (pss_cons (ps_for PassesOwn.never (by rfl) (piL (K := K) rfl (pe_lst (pa_cons pe_str (pa_cons pe_str pa_nil)))) (pg_name (i := 4) sc__law_right.nd rfl (.inr rfl))
  (pss_cons (ps_setLc (i := 6) (own := [("call", 5)]) (g := gName 5) (by rfl) sc__law_right.nd rfl rfl (sw_true rfl rfl rfl (by decide +kernel)) (piL (K := K) rfl (pe_callB (sortDC (K := K) (P := P) (w := w) rfl rfl rfl (by rfl) (hu64e hr)) (by rfl) T.sorted_ (by decide +kernel) (pa_cons (pv 3) pa_nil))) (blkOk_by (by kernel_rfl)) (fun _ _ _ _ _ => (pg_name (i := 5) sc__law_right.nd rfl (.inl rfl))) (fun _ _ _ _ _ => (pts_one (pt_cmpR op_eq (pe_ix (ixT (K := K) rfl) (getDC (K := K) (P := P) (w := w) rfl rfl rfl (hu9e hr) (pv 3) (pv 5) (fun _ _ => rfl)) pe_int (fun _ _ => rfl)) (pv 4) (nomark _)))) (fun _ _ _ _ _ => (pv 5)))
  (pss_cons (ps_if (pt_cmpR (neD (K := K) rfl (hu64e hr)) (pe_callTy (lstOf (K := K) rfl) (by rfl) T.list_ (by decide +kernel) (pa_cons (pe_call (E := E0) GCs hr5 (by rfl) mCs kCs bCs .nil passL (pa_cons (pv 2) (pa_cons (pv 4) pa_nil))) pa_nil)) (pv 6) (nomark _))
  (pss_one (ps_ret pe_bl))
  pss_nil)
  (pss_cons (ps_set (i := 7) sc__law_right.nd rfl (.inr rfl) (pe_meth (E := E0) (pe_make (E := E0) SC.mkC GS hr6 (by rfl) SC.g bS .nil passL (pa_cons (pv 2) pa_nil)) SC.cl MV GMv hr8 bMv .nil passL (pa_cons (pv 4) pa_nil)))
  (pss_cons (ps_setLc (i := 8) (own := [("call", 5)]) (g := gName 5) (by rfl) sc__law_right.nd rfl rfl (sw_true rfl rfl rfl (by decide +kernel)) (piL (K := K) rfl (pv 6)) (blkOk_by (by kernel_rfl)) (fun _ _ _ _ _ => (pg_name (i := 5) sc__law_right.nd rfl (.inl rfl))) (fun _ _ _ _ _ => (pts_one (pt_cmpR (neOwn DE.ok hr2 IC.mro hNe DE.s DE.f DE.b pass0) (getDC (K := K) (P := P) (w := w) rfl rfl rfl (hu9e hr) (pv 7) (pv 5) (fun _ _ => rfl)) (pe_call (E := E0) GM hr17 (by rfl) mM kM bM .nil passL (pa_cons (pe_ix (ixT (K := K) rfl) (getDC (K := K) (P := P) (w := w) rfl rfl rfl (hu9e hr) (pv 3) (pv 5) (fun _ _ => rfl)) pe_int (fun _ _ => rfl)) pa_nil)) (nomark _)))) (fun _ _ _ _ _ => (pv 5)))
  (pss_one (ps_if (PW.pt (pw_or (pt_cmpR (neD (K := K) rfl (hu64e hr)) (pe_callTy (listDC (P := P) (w := w) rfl rfl (by rfl)) (by rfl) T.list_ (by decide +kernel) (pa_cons (pv 7) pa_nil)) (pv 6) (nomark _)) (pw_or1 (pt_cmpR (neD (K := K) rfl (hu64e hr)) (pv 8) (pe_lst pa_nil) (nomark _)))))
  (pss_one (ps_ret pe_bl))
  pss_nil)))))))
  (pss_cons (ps_lock (ps_for PassesOwn.never (by rfl) (keysDC (P := P) (w := w) rfl rfl (pv 3)) (pg_name (i := 5) sc__law_right.nd rfl (.inl rfl))
  (pss_cons (ps_if (PW.pt (pw_or (pt_cmpR op_notBV (pe_call (E := E0) GIc hr6 (by rfl) mIc kIc bIc .nil passL (pa_cons (pv 2) (pa_cons (pv 5) pa_nil))) pe_bl (nomark _)) (pw_or1 (pt_cmpR op_ne (pe_call (E := E0) GHo hr7 (by rfl) mHo kHo bHo .nil passL (pa_cons (pv 2) (pa_cons (pv 5) pa_nil))) (pe_ix (ixT (K := K) rfl) (getDC (K := K) (P := P) (w := w) rfl rfl rfl (hu9e hr) (pv 3) (pv 5) (fun _ _ => rfl)) pe_int (fun _ _ => rfl)) (nomark _)))))
  (pss_one (ps_ret pe_bl))
  pss_nil)
  (pss_one (ps_if (PW.pt (pw_or (pt_cmpR (neOwn DE.ok hr2 IC.mro hNe DE.s DE.f DE.b pass0) (pe_call C__law_got.G hr8 (by rfl) C__law_got.m C__law_got.k C__law_got.b .nil pass0 (pa_cons (pv 2) (pa_cons (pv 5) pa_nil))) (pe_call (E := E0) GM hr17 (by rfl) mM kM bM .nil passL (pa_cons (pe_ix (ixT (K := K) rfl) (getDC (K := K) (P := P) (w := w) rfl rfl rfl (hu9e hr) (pv 3) (pv 5) (fun _ _ => rfl)) pe_int (fun _ _ => rfl)) pa_nil)) (nomark _)) (pw_or1 (pt_cmpR (neOwn DQ.ok hr4 ICS.mro hNeS DQ.s DQ.f DQ.b pass0) (pe_meth (E := E0) (pe_make (E := E0) SC.mkC GS hr6 (by rfl) SC.g bS .nil passL (pa_cons (pv 2) pa_nil)) SC.cl MB GB hr8 bB .nil passL (pa_cons (pv 5) pa_nil)) (pe_make (E := E0) SC.mkC GS hr6 (by rfl) SC.g bS .nil passL (pa_cons (pe_call (E := E0) GM hr17 (by rfl) mM kM bM .nil passL (pa_cons (pe_ix (ixT (K := K) rfl) (getDC (K := K) (P := P) (w := w) rfl rfl rfl (hu9e hr) (pv 3) (pv 5) (fun _ _ => rfl)) pe_int (fun _ _ => rfl)) pa_nil)) pa_nil)) (nomark _)))))
  (pss_one (ps_ret pe_bl))
  pss_nil)))))
  (pss_cons (ps_set (i := 9) sc__law_right.nd rfl (.inl rfl) (pe_lst (pa_cons pe_non (pa_cons pe_int (pa_cons (pe_tup pa_nil) (pa_cons pe_str (pa_cons (pe_tup (pa_cons (pe_tup pa_nil) (pa_cons pe_int pa_nil))) (pa_cons (pe_tup (pa_cons (pe_tup pa_nil) (pa_cons (pe_un un_neg pe_int) pa_nil))) (pa_cons (pe_tup (pa_cons (pe_tup pa_nil) (pa_cons pe_non pa_nil))) (pa_cons (pe_tup (pa_cons (pe_tup pa_nil) (pa_cons pe_bl pa_nil))) (pa_cons (pe_tup (pa_cons (pe_lst pa_nil) (pa_cons pe_int pa_nil))) (pa_cons (pe_tup (pa_cons (pe_tup (pa_cons pe_int (pa_cons pe_int (pa_cons pe_int (pa_cons pe_int (pa_cons pe_int (pa_cons pe_int pa_nil))))))) (pa_cons pe_int pa_nil))) (pa_cons (pe_tup (pa_cons (pe_tup (pa_cons pe_int pa_nil)) (pa_cons pe_int pa_nil))) (pa_cons pe_dnewK pa_nil))))))))))))))
  (pss_cons (ps_set (i := 9) sc__law_right.nd rfl (.inl rfl) (pe_op op_cat (pv 9) (pe_lst (pa_cons (pe_tup (pa_cons (pe_tup pa_nil) (pa_cons pe_int pa_nil))) (pa_cons (pe_tup (pa_cons (pe_tup (pa_cons pe_int pa_nil)) (pa_cons pe_int pa_nil))) (pa_cons (pe_tup (pa_cons (pe_tup (pa_cons pe_int pa_nil)) (pa_cons pe_int pa_nil))) (pa_cons (pe_tup (pa_cons (pe_tup (pa_cons pe_int pa_nil)) (pa_cons pe_int pa_nil))) (pa_cons (pe_tup (pa_cons (pe_tup (pa_cons pe_int (pa_cons pe_int pa_nil))) (pa_cons pe_int pa_nil))) (pa_cons (pe_tup (pa_cons (pe_tup (pa_cons (pe_tup pa_nil) (pa_cons pe_int pa_nil))) pa_nil)) (pa_cons (pe_tup (pa_cons (pe_tup pa_nil) (pa_cons pe_int (pa_cons pe_int pa_nil)))) (pa_cons (pe_lst (pa_cons (pe_tup pa_nil) (pa_cons pe_int pa_nil))) (pa_cons (pe_tup (pa_cons (pe_tup (pa_cons pe_bl pa_nil)) (pa_cons pe_int pa_nil))) pa_nil))))))))))))
  (pss_cons (ps_setLc (i := 11) (own := [("value", 10)]) (g := gName 10) (by rfl) sc__law_right.nd rfl rfl (sw_true rfl rfl rfl (by decide +kernel)) (piL (K := K) rfl (pv 9)) (blkOk_by (by kernel_rfl)) (fun _ _ _ _ _ => (pg_name (i := 10) sc__law_right.nd rfl (.inl rfl))) (fun _ _ _ _ _ => (pts_one (PW.pt (pw_and (pt_val (pe_callB (isiQ (K := K) rfl) (by rfl) T.isinstance_ (by decide +kernel) (pa_cons (pv 10) (pa_cons (pe_bltn (v := .ty "tuple") (by rfl) T.tuple_ (by decide +kernel) rfl) pa_nil)))) (pw_and1 (pt_cmpR (inQ (K := K) rfl) (pe_callB (reprD (K := K) rfl hgd (hu64e hr)) (by rfl) T.repr_ (by decide +kernel) (pa_cons (pv 10) pa_nil)) (pe_lock (pe_lc (own := [("call", 5)]) (g := gName 5) (by rfl) sc__law_right.nd (keysDC (P := P) (w := w) rfl rfl (pv 3)) (blkOk_by (by kernel_rfl)) (fun _ _ _ _ _ => (pg_name (i := 5) sc__law_right.nd rfl (.inl rfl))) (fun _ _ _ _ _ => pts_nil) (fun _ _ _ _ _ => (pe_callB (reprD (K := K) rfl hgd (hu64e hr)) (by rfl) T.repr_ (by decide +kernel) (pa_cons (pv 5) pa_nil))))) (by rfl))))))) (fun _ _ _ _ _ => (pv 10)))
  (pss_cons (ps_for PassesOwn.never (by rfl) (piL (K := K) rfl (pv 9)) (pg_name (i := 10) sc__law_right.nd rfl (.inl rfl))
  (pss_cons (ps_if (pt_cmpR op_ne (pe_call (E := E0) GIc hr6 (by rfl) mIc kIc bIc .nil passL (pa_cons (pv 2) (pa_cons (pv 10) pa_nil))) (pe_and (pe_cmpR (inKn (K := K) rfl (hu65e hr)) (pv 10) (pv 11) (by rfl)) (pe_one (pe_cmpR (inQ (K := K) rfl) (pe_callB (reprD (K := K) rfl hgd (hu64e hr)) (by rfl) T.repr_ (by decide +kernel) (pa_cons (pv 10) pa_nil)) (pe_lc (own := [("one", 12)]) (g := gName 12) (by rfl) sc__law_right.nd (piL (K := K) rfl (pv 11)) (blkOk_by (by kernel_rfl)) (fun _ _ _ _ _ => (pg_name (i := 12) sc__law_right.nd rfl (.inl rfl))) (fun _ _ _ _ _ => pts_nil) (fun _ _ _ _ _ => (pe_callB (reprD (K := K) rfl hgd (hu64e hr)) (by rfl) T.repr_ (by decide +kernel) (pa_cons (pv 12) pa_nil)))) (by rfl)))) (nomark _))
  (pss_one (ps_ret pe_bl))
  pss_nil)
  (pss_one (ps_if (pt_cmpR op_ne (pe_cmpR op_notN (pe_call C__law_got.G hr8 (by rfl) C__law_got.m C__law_got.k C__law_got.b .nil pass0 (pa_cons (pv 2) (pa_cons (pv 10) pa_nil))) pe_non (nomark _)) (pe_call (E := E0) GIc hr6 (by rfl) mIc kIc bIc .nil passL (pa_cons (pv 2) (pa_cons (pv 10) pa_nil))) (nomark _))
  (pss_one (ps_ret pe_bl))
  pss_nil))))
  (pss_one (ps_ret (pe_cmpR (eqD (K := K) rfl (hu64e hr)) (pe_callTy (lstOf (K := K) rfl) (by rfl) T.list_ (by decide +kernel) (pa_cons (pe_prop (pv 2) PC.cl PN.p PN.ok hr2 PN.b .nil pass0 rfl) pa_nil)) (pe_call C__law_nodes.G hr12 (by rfl) C__law_nodes.m C__law_nodes.k C__law_nodes.b .nil pass0 (pa_cons (pv 1) pa_nil)) (nomark _)))))))))))), ?_⟩
    refine ⟨_, rfl, d, rfl, D, fun v pl ws H1 g1 A1 hw3 hwu hwi hl11 hc4 => ?_⟩
    have dp := Drawn.of A1 hwu hwi hl11
    clear hw3 hwu hwi hl11 hc4 ws
    have hl11 := dp.l
    have hl : (nodesOf pl).length < 1000 := by omega
    refine ⟨_, rfl, v, pl, rfl, A1, dp.good, by omega, by decide, fun _ a H2 s2 n2 pr2 => ?_, fun eo => by rw [dp.okB] at eo; cases eo⟩
    refine ⟨_, rfl, v, pl, rfl, A1.tk (stk s2), by omega, by decide, fun dd L H3 s3 n3 e3 kk3 rr3 => ?_⟩
    refine ⟨lenOk 2, fun t1 nt1 => ⟨t1, _, rfl, SqT.of upd_same, rfl, _, _, rfl, _, _, rfl, rfl, ?_⟩⟩
    have s4 : Same H3 (upd H3 t1 (.tup [.ref a, .ref dd])) := same_new nt1
    have S4 : S11 P w K C d H (upd H3 t1 (.tup [.ref a, .ref dd])) a dd v pl L := ⟨grSm g1 (s2.trans (s3.trans s4)), RowD.sm ⟨pr2.sm s3, e3, kk3, rr3, A1.tk (stk (s2.trans s3))⟩ s4⟩
    generalize upd H3 t1 (.tup [.ref a, .ref dd]) = H4 at S4 ⊢
    clear s2 s3 s4 n2 n3 e3 kk3 rr3 nt1 pr2 A1 g1
    -- what all of it rests on
    have hok := dp.ok
    have hrl := rows_len pl
    have hrl2 : (rowsPl pl).length ≤ 121 := Nat.le_trans hrl (by have := Nat.mul_le_mul hl11 hl11; exact this)
    have hdr : ∀ {r : CRow} {u : V} {H' : Hp}, r ∈ rowsPl pl → At K H' u r.2.2 → Drawn r.2.2 := fun {r u H'} hr hA => by
      obtain ⟨i1, i2⟩ := row_in hok hl hr
      exact Drawn.of (ws := uni6) hA (fun z hz => hz) (fun k z hz => dp.w k z (i1 _ hz)) (by omega)
    have hnd := rows_nodup pl
    have hcr0 : ∀ {hd : Str}, isHand hd → callsPl pl hd = ((rowsPl pl).filter fun r => decide (r.2.1 = hd)).map (·.1) := fun hh => calls_rows hok hh
    refine ⟨lenOk 2, fun lh nh => ?_⟩
    have s5 : Same H4 (upd H4 lh (.lst [.str "keeper", .str "caller"])) := same_new nh
    have e5 : upd H4 lh (.lst [.str "keeper", .str "caller"]) lh = some (.lst [.str "keeper", .str "caller"]) := upd_same
    have S5 := S4.sm s5
    generalize upd H4 lh (.lst [.str "keeper", .str "caller"]) = H5 at s5 e5 S5 ⊢
    clear s5 nh S4
    refine ⟨lh, rfl, ⟨_, SqL.of e5⟩, for_list (K := K) (a := lh) (xs := [.str "keeper", .str "caller"]) (fun i σ H' => ∃ x4 x5 x6 x7 x8, σ = [some (.ref d), some v, some (.ref a), some (.ref dd), x4, x5, x6, x7, x8, none, none, none, none] ∧ Same H5 H') ?_ (fun i σ H' _ h => ?_) ?_ ?_⟩
    · exact ⟨_, _, _, _, _, rfl, Same.refl _⟩
    · obtain ⟨x4, x5, x6, x7, x8, rfl, sx⟩ := h
      exact SqL.of (sx _ _ e5)
    · rintro i x σ H6 hx ⟨x4, x5, x6, x7, x8, rfl, s56⟩
      obtain ⟨hd, rfl, hh⟩ : ∃ hd : Str, x = .str hd ∧ isHand hd := by
        match i, hx with
        | 0, hx => exact ⟨"keeper", (Option.some.inj hx).symm, .inr rfl⟩
        | 1, hx => exact ⟨"caller", (Option.some.inj hx).symm, .inl rfl⟩
        | i + 2, hx => simp at hx
      have S6 := S5.sm s56
      have lL := Paired.length S6.r.r
      have ekL := rowsC_keys S6.r.r
      refine ⟨_, rfl, dd, L, rfl, .inl S6.r.e, S6.r.k, by rw [ekL]; exact rows_srt pl, by omega, fun ls nls => ?_⟩
      have s7 : Same H6 (upd H6 ls (.lst (L.map fun e => .ref e.2.1))) := same_new nls
      have e7 : upd H6 ls (.lst (L.map fun e => .ref e.2.1)) ls = some (.lst (L.map fun e => .ref e.2.1)) := upd_same
      have S7 := S6.sm s7
      have s57 := s56.trans s7
      generalize upd H6 ls (.lst (L.map fun e => .ref e.2.1)) = H7 at s7 e7 S7 s57 ⊢
      clear s7 nls S6 s56
      refine ⟨ls, rfl, ⟨_, SqL.of e7⟩, fun D1 nD1 => ?_⟩
      refine lcL (K := K) (a := ls) (xs := L.map fun e => .ref e.2.1) (fun j acc H' => Same H7 H' ∧ acc = (((L.zip (rowsPl pl)).take j).filter fun z => decide (z.2.2.1 = hd)).map fun z => V.ref z.1.2.1) ⟨same_new nD1, rfl⟩ (fun j acc H' h => SqL.of (h.1 _ _ e7)) ?_ ?_
      · rintro j x acc H8 hxj hla ea ⟨s8, rfl⟩
        rw [List.getElem?_map] at hxj
        obtain ⟨e, he, rfl⟩ := Option.map_eq_some_iff.mp hxj
        have S8 := S7.sm s8
        obtain ⟨r, hr, er, t, v2, ev, ht, hAv⟩ := paired_at S8.r.r he
        have hv := valC_get (by rw [ekL]; exact hnd) he
        rw [ev] at hv
        have hcall := S8.r.k e (List.mem_of_getElem? he)
        refine ⟨_, rfl, _, rfl, dd, e.2.1, L, e.1, .ref t, rfl, rfl, .inl S8.r.e, S8.r.k, hcall, hv, t, _, 0, .str r.2.1, rfl, rfl, ht, rfl, _, rfl, rfl, _, rfl, ?_⟩
        have stp := filter_snoc (fun z : CEnt × CRow => decide (z.2.2.1 = hd)) (zip_get he hr)
        by_cases eh : r.2.1 = hd
        · refine iteT' (decide_eq_true (by rw [eh])) ⟨_, rfl, LcK.mk hla (by have := (List.getElem?_eq_some_iff.mp he).1; omega) ea ⟨fun b' o' eb => ?_, ?_⟩⟩
          · rw [upd_ne (ne_of_none eb nD1)]
            exact s8 _ _ eb
          · rw [stp, if_pos (decide_eq_true eh), List.map_append]
            rfl
        · refine iteF' (decide_eq_false fun z => eh (by injection z)) ⟨_, by omega, ea, s8, ?_⟩
          rw [stp, if_neg (by simpa using eh), List.append_nil]
      · rintro acc H8 hla ea ⟨s8, rfl⟩
        rw [List.take_of_length_le (by rw [List.length_zip, List.length_map]; omega)] at ea
        have S8 := S7.sm s8
        have s58 := s57.trans s8
        have hC := ofHand_calls (hd := hd) S8.r.k S8.r.r
        rw [← calls_rows hok hh] at hC
        clear s8 s57 e7 hla S7 nD1
        refine ⟨_, rfl, _, rfl, a, pl, hd, rfl, S8.r.pr, hok, hl, hh, fun r us H9 s9 nr er hCs => ⟨r, us, rfl, .inr (SqT.of er), fun L1 nL1 => ?_⟩⟩
        have s10 : Same H9 (upd H9 L1 (.lst us)) := same_new nL1
        have e10 : upd H9 L1 (.lst us) L1 = some (.lst us) := upd_same
        have hCs := hCs.tk (stk s10)
        have s910 := s9.trans s10
        have S10 := S8.sm s910
        have ea := s910 _ _ ea
        have hC := hC.tk (stk s910)
        have s5x := s58.trans s910
        generalize upd H9 L1 (.lst us) = H10 at s10 e10 hCs s910 S10 ea hC s5x ⊢
        clear s9 s10 s910 nr er nL1 S8 s58
        have fs := callsD_shaped (callsPl pl hd)
        refine ⟨_, rfl, callsD (callsPl pl hd), callsD (callsPl pl hd), .lst (SqL.of e10) (dp_calls hCs), .lst (SqL.of ea) (dp_calls hC), fs, fs, ?_⟩
        rw [eqv_self fs]
        refine ⟨_, rfl, iteF ?_⟩
        refine ⟨_, rfl, fun x dx nx nd ne => makeSf nx nd S10.r.pr hok hl fun H11 s11 sf => ⟨rfl, ?_⟩⟩
        obtain ⟨dxs, tp, ups, exs, hjunk⟩ := id sf
        have S11' := S10.sm s11
        have hob : ∀ r ∈ rowsPl pl, okB (nodesOf r.2.2) = true := fun r hr => by
          obtain ⟨j, hj⟩ := List.getElem?_of_mem hr
          obtain ⟨e, _, _, _, _, _, _, hA⟩ := back_at S11'.r.r hj
          exact (hdr hr hA).okB
        refine ⟨x, dxs, _, rfl, exs, rfl, _, rfl, ?_⟩
        refine ⟨x, a, pl, hd, rfl, sf, hok, hl, hh, hob, fun d3 L3 H12 s12 nd3 e12 kk12 mm12 => ?_⟩
        have S12 := S11'.sm s12
        have s1112 := s11.trans s12
        have ea := s1112 _ _ ea
        have hC := hC.tk (stk s1112)
        have s5y := s5x.trans s1112
        clear s11 s12 s1112 hjunk exs ups tp dxs sf S11' S10 s5x nx nd ne dx x nd3
        -- wrong
        have hsnd := ofHand_snd (hd := hd) (L := L) (rs := rowsPl pl) lL
        refine ⟨_, rfl, D1, rfl, ⟨_, SqL.of ea⟩, fun D2 nD2 => ?_⟩
        refine lcL (K := K) (a := D1) (xs := (ofHand L (rowsPl pl) hd).map fun z => V.ref z.1.2.1) (fun j acc H' => Same H12 H' ∧ acc = []) ⟨same_new nD2, rfl⟩ (fun j acc H' h => SqL.of (h.1 _ _ ea)) ?_ ?_
        · rintro j x acc H13 hxj hla eac ⟨s13, rfl⟩
          rw [List.getElem?_map] at hxj
          obtain ⟨z, hz, rfl⟩ := Option.map_eq_some_iff.mp hxj
          have S13 := S12.sm s13
          obtain ⟨i2, hL2, hr2, er, t, v2, ev, ht, hAv⟩ := ofHand_at S13.r.r (List.mem_of_getElem? hz)
          have hzr : ((rowsPl pl).filter fun r => decide (r.2.1 = hd))[j]? = some z.2 := by
            rw [← hsnd, List.getElem?_map, hz]
            rfl
          obtain ⟨e3, he3, em3, x3, ex3, pr3⟩ := back_at mm12 hzr
          have hcall := S13.r.k z.1 (List.mem_of_getElem? hL2)
          have hv := valC_get (by rw [ekL]; exact hnd) hL2
          rw [ev] at hv
          have nd3 : (L3.map (·.1)).Nodup := by
            have go : ∀ {A : List CEnt} {rs : List CRow}, Paired (MoveAt K C H12) A rs → A.map (·.1) = rs.map (·.1) := by
              intro A rs h
              induction h with
              | nil => rfl
              | cons a t ih => rw [List.map_cons, List.map_cons, ih, a.1]
            rw [go mm12]
            exact hnd.sublist ((List.filter_sublist).map _)
          have hv3 := valC_get nd3 he3
          rw [em3, ← er, ex3] at hv3
          have hm2 := List.mem_of_getElem? hr2
          have dr := hdr hm2 hAv
          have hdl := dr.l
          have pr3 := pr3.sm s13
          refine ⟨_, rfl, _, rfl, d3, z.1.2.1, L3, z.1.1, .ref x3, rfl, rfl, .inl (s13 _ _ e12), kk12.tk (stk s13), hcall, hv3, ?_⟩
          refine ⟨_, rfl, _, rfl, dd, z.1.2.1, L, z.1.1, .ref t, rfl, rfl, .inl S13.r.e, S13.r.k, hcall, hv, t, _, 1, v2, rfl, rfl, ht, rfl, v2, z.2.2.2, rfl, hAv, dr.good, by omega, by decide, fun _ x4 H14 s14 n14 pr4 => ?_, fun no => by rw [dr.okB] at no; cases no⟩
          have pr34 := pr3.sm s14
          obtain ⟨dx3, _, _, ei3, _⟩ := id pr34
          obtain ⟨dx4, _, _, ei4, _⟩ := id pr4
          refine ⟨x3, x4, dx3, dx4, _, _, rfl, rfl, ei3, ei4, .inl ⟨x3, x4, _, _, rfl, pr34, pr4, _, rfl, ?_⟩⟩
          refine ⟨_, rfl, iteF' (by rw [decide_eq_true rfl]; rfl) ?_⟩
          exact ⟨[], Nat.zero_le _, s14 _ _ eac, s13.trans s14, rfl⟩
        · rintro acc H13 hla eac ⟨s13, rfl⟩
          have S13 := S12.sm s13
          have ea := s13 _ _ ea
          have hC := hC.tk (stk s13)
          have s5z := s5y.trans s13
          have e12 := s13 _ _ e12
          have kk12 := kk12.tk (stk s13)
          have ek3 : L3.map (·.1) = callsPl pl hd := by
            rw [hcr0 hh]
            have go : ∀ {A : List CEnt} {rs : List CRow}, Paired (MoveAt K C H12) A rs → A.map (·.1) = rs.map (·.1) := by
              intro A rs h
              induction h with
              | nil => rfl
              | cons a t ih => rw [List.map_cons, List.map_cons, ih, a.1]
            exact go mm12
          clear s13 s5y S12 mm12 hla
          refine ⟨_, rfl, d3, L3, rfl, .inl e12, fun L5 nL5 => ?_⟩
          have s14 : Same H13 (upd H13 L5 (.lst (L3.map fun e => .ref e.2.1))) := same_new nL5
          have e14 : upd H13 L5 (.lst (L3.map fun e => .ref e.2.1)) L5 = some (.lst (L3.map fun e => .ref e.2.1)) := upd_same
          have hk14 := (keys_calls kk12).tk (stk s14)
          rw [ek3] at hk14
          have ea := s14 _ _ ea
          have hC := hC.tk (stk s14)
          have eac := s14 _ _ eac
          have s5z := s5z.trans s14
          generalize upd H13 L5 (.lst (L3.map fun e => .ref e.2.1)) = H14 at s14 e14 hk14 ea hC eac s5z ⊢
          refine ⟨_, rfl, callsD (callsPl pl hd), callsD (callsPl pl hd), .lst (SqL.of e14) (dp_calls hk14), .lst (SqL.of ea) (dp_calls hC), fs, fs, ?_⟩
          rw [eqv_self fs]
          refine ⟨_, rfl, iteF ?_⟩
          refine ⟨_, rfl, Nat.zero_le _, fun L6 nL6 => ?_⟩
          have s15 : Same H14 (upd H14 L6 (.lst [])) := same_new nL6
          refine ⟨.list [], .list [], .lst (SqL.of (s15 _ _ eac)) .nil, .lst (SqL.of upd_same) .nil, by decide +kernel, by decide +kernel, _, rfl, ?_⟩
          refine iteF' (by decide +kernel) ?_
          exact ⟨_, _, _, _, _, rfl, s5z.trans s15⟩
    · rintro σ H6 ⟨x4, x5, x6, x7, x8, rfl, s56⟩
      have S6 := S5.sm s56
      clear s56 e5 S5
      have lL := Paired.length S6.r.r
      have ekL := rowsC_keys S6.r.r
      refine ⟨dd, _, S6.r.e, trivial, fun od => ?_⟩
      have eL : upd H6 dd (.frz od (DcO P w dd L)) dd = some (.frz od (DcO P w dd L)) := upd_same
      have bL : But dd H6 (upd H6 dd (.frz od (DcO P w dd L))) := fun b' o' n e => by rw [upd_ne n]; exact e
      have tL : Tk H6 (upd H6 dd (.frz od (DcO P w dd L))) := but_tk bL S6.r.e (fun _ z => nomatch z) (fun _ _ z => nomatch z)
      have prL := S6.r.pr.but bL S6.r.e
      have kkL := S6.r.k.tk tL
      have rrL := rowsC_tk S6.r.r tL
      refine ⟨_, rfl, dd, od, L, rfl, eL, ?_⟩
      refine for_keysC (fun i σ H7 => ∃ x4 x5 x6 x7 x8, σ = [some (.ref d), some v, some (.ref a), some (.ref dd), x4, x5, x6, x7, x8, none, none, none, none] ∧ Same (upd H6 dd (.frz od (DcO P w dd L))) H7) ⟨_, _, _, _, _, rfl, Same.refl _⟩ (fun i σ H7 h => ?_) ?_ ?_
      · obtain ⟨x4, x5, x6, x7, x8, rfl, sx⟩ := h
        exact sx _ _ eL
      · rintro i e σ H7 he ⟨y4, y5, y6, y7, y8, rfl, s7⟩
        obtain ⟨r, hr, er, t, v2, ev, ht, hAv⟩ := paired_at rrL he
        have hm := List.mem_of_getElem? hr
        have hcall := (kkL e (List.mem_of_getElem? he)).tk (stk s7)
        have hv := valC_get (by rw [ekL]; exact hnd) he
        rw [ev] at hv
        have dr := hdr hm hAv
        have hdl := dr.l
        have hhp := row_hand hok hl hm
        rw [← er] at hhp
        have pr7 := prL.sm s7
        refine ⟨_, rfl, _, rfl, a, pl, _, _, rfl, pr7, hok, hl, call_v hcall, true, rfl, .inr ⟨_, rfl, _, rfl, ?_⟩⟩
        rw [hhp]
        refine iteF' (by rw [decide_eq_false (fun z : V.str r.2.1 = .non => nomatch z)]; rfl) ?_
        refine ⟨_, rfl, _, rfl, a, pl, _, _, rfl, pr7, hok, hl, call_v hcall, fun _ => ?_, fun z => by rw [hhp] at z; cases z⟩
        rw [hhp]
        refine ⟨_, rfl, _, rfl, dd, e.2.1, L, e.1, .ref t, rfl, rfl, .inr ⟨od, s7 _ _ eL⟩, kkL.tk (stk s7), hcall, hv, t, _, 0, .str r.2.1, rfl, rfl, (stk s7).seq ht, rfl, rfl, _, rfl, iteF' (by rw [decide_eq_true rfl]; rfl) ?_⟩
        -- what comes of it
        refine ⟨_, rfl, _, rfl, ?_⟩
        dsimp only [tNil]
        have hm' : ((e.1, r.2.1, r.2.2) : CRow) ∈ rowsPl pl := by rw [er]; exact hm
        refine got_row pr7 hok hl hcall hm' dr.okB fun x3 H8 s8 n8 pr3 => ?_
        have s78 := s7.trans s8
        refine ⟨_, rfl, _, rfl, dd, e.2.1, L, e.1, .ref t, rfl, rfl, .inr ⟨od, s78 _ _ eL⟩, kkL.tk (stk s78), hcall.tk (stk s8), hv, t, _, 1, v2, rfl, rfl, (stk s78).seq ht, rfl, v2, r.2.2, rfl, hAv.tk (stk s78), dr.good, by omega, by decide, fun _ x4 H9 s9 n9 pr4 => ?_, fun no => by rw [dr.okB] at no; cases no⟩
        have s79 := s78.trans s9
        have pr39 := pr3.sm s9
        obtain ⟨dx3, _, _, ei3, _⟩ := id pr39
        obtain ⟨dx4, _, _, ei4, _⟩ := id pr4
        refine ⟨x3, x4, dx3, dx4, _, _, rfl, rfl, ei3, ei4, .inl ⟨x3, x4, _, _, rfl, pr39, pr4, _, rfl, ?_⟩⟩
        refine ⟨_, rfl, iteF' (by rw [decide_eq_true rfl]; rfl) ?_⟩
        have pr9 := prL.sm s79
        refine ⟨_, rfl, fun x dx nx nd ne => makeSf nx nd pr9 hok hl fun H10 s10 sf => ⟨rfl, ?_⟩⟩
        obtain ⟨dxs, tp, ups, exs, _⟩ := id sf
        have s7a := s79.trans s10
        refine ⟨x, dxs, _, rfl, exs, rfl, _, rfl, ?_⟩
        refine ⟨x, a, pl, .ref e.2.1, e.1, r.2.1, r.2.2, rfl, sf, hok, hl, hcall.tk (stk (s8.trans (s9.trans s10))), hm', dr.okB, dr.ok, by omega, fun x5 y5 H11 s11 n11 sf5 => ?_⟩
        have s7b := s7a.trans s11
        refine ⟨_, rfl, _, rfl, dd, e.2.1, L, e.1, .ref t, rfl, rfl, .inr ⟨od, s7b _ _ eL⟩, kkL.tk (stk s7b), hcall.tk (stk (s8.trans (s9.trans (s10.trans s11)))), hv, t, _, 1, v2, rfl, rfl, (stk s7b).seq ht, rfl, v2, r.2.2, rfl, hAv.tk (stk s7b), dr.good, by omega, by decide, fun _ x6 H12 s12 n12 pr6 => ?_, fun no => by rw [dr.okB] at no; cases no⟩
        refine fun x7 dx7 nx7 nd7 ne7 => makeSf nx7 nd7 pr6 dr.ok (by omega) fun H13 s13 sf7 => ⟨rfl, ?_⟩
        have sf5' := sf5.sm (s12.trans s13)
        obtain ⟨dx5, _, _, ei5, _⟩ := id sf5'
        obtain ⟨dx8, _, _, ei8, _⟩ := id sf7
        refine ⟨x5, x7, dx5, dx8, _, _, rfl, rfl, ei5, ei8, .inl ⟨x5, y5, x7, x6, r.2.2, r.2.2, rfl, sf5', sf7, _, rfl, ?_⟩⟩
        refine ⟨_, rfl, iteF' (by rw [decide_eq_true rfl]; rfl) ?_⟩
        exact ⟨_, _, _, _, _, rfl, s7b.trans (s12.trans s13)⟩
      · rintro σ H7 ⟨y4, y5, y6, y7, y8, rfl, s7⟩
        have S8 := S6.sm (same_unlC s7 S6.r.e)
        refine ⟨s7 _ _ eL, ?_⟩
        generalize upd H7 dd (DcO P w dd L) = H8 at S8 ⊢
        clear s7 eL bL tL prL kkL rrL S6
        refine ⟨lenOk 0, fun o1 no1 => ?_⟩
        have mo1 : Same H8 (upd H8 o1 (.tup [])) := same_new no1
        have eo1 : upd H8 o1 (.tup []) o1 = some (.tup []) := upd_same
        generalize upd H8 o1 (.tup []) = Go1 at mo1 eo1 ⊢
        refine ⟨lenOk 0, fun o2 no2 => ?_⟩
        have mo2 : Same Go1 (upd Go1 o2 (.tup [])) := same_new no2
        have eo2 : upd Go1 o2 (.tup []) o2 = some (.tup []) := upd_same
        generalize upd Go1 o2 (.tup []) = Go2 at mo2 eo2 ⊢
        refine ⟨lenOk 2, fun o3 no3 => ?_⟩
        have mo3 : Same Go2 (upd Go2 o3 (.tup [.ref o2, .int 9])) := same_new no3
        have eo3 : upd Go2 o3 (.tup [.ref o2, .int 9]) o3 = some (.tup [.ref o2, .int 9]) := upd_same
        generalize upd Go2 o3 (.tup [.ref o2, .int 9]) = Go3 at mo3 eo3 ⊢
        refine ⟨lenOk 0, fun o4 no4 => ?_⟩
        have mo4 : Same Go3 (upd Go3 o4 (.tup [])) := same_new no4
        have eo4 : upd Go3 o4 (.tup []) o4 = some (.tup []) := upd_same
        generalize upd Go3 o4 (.tup []) = Go4 at mo4 eo4 ⊢
        refine ⟨_, rfl, lenOk 2, fun o5 no5 => ?_⟩
        have mo5 : Same Go4 (upd Go4 o5 (.tup [.ref o4, .int (-1)])) := same_new no5
        have eo5 : upd Go4 o5 (.tup [.ref o4, .int (-1)]) o5 = some (.tup [.ref o4, .int (-1)]) := upd_same
        generalize upd Go4 o5 (.tup [.ref o4, .int (-1)]) = Go5 at mo5 eo5 ⊢
        refine ⟨lenOk 0, fun o6 no6 => ?_⟩
        have mo6 : Same Go5 (upd Go5 o6 (.tup [])) := same_new no6
        have eo6 : upd Go5 o6 (.tup []) o6 = some (.tup []) := upd_same
        generalize upd Go5 o6 (.tup []) = Go6 at mo6 eo6 ⊢
        refine ⟨lenOk 2, fun o7 no7 => ?_⟩
        have mo7 : Same Go6 (upd Go6 o7 (.tup [.ref o6, .non])) := same_new no7
        have eo7 : upd Go6 o7 (.tup [.ref o6, .non]) o7 = some (.tup [.ref o6, .non]) := upd_same
        generalize upd Go6 o7 (.tup [.ref o6, .non]) = Go7 at mo7 eo7 ⊢
        refine ⟨lenOk 0, fun o8 no8 => ?_⟩
        have mo8 : Same Go7 (upd Go7 o8 (.tup [])) := same_new no8
        have eo8 : upd Go7 o8 (.tup []) o8 = some (.tup []) := upd_same
        generalize upd Go7 o8 (.tup []) = Go8 at mo8 eo8 ⊢
        refine ⟨lenOk 2, fun o9 no9 => ?_⟩
        have mo9 : Same Go8 (upd Go8 o9 (.tup [.ref o8, .bl true])) := same_new no9
        have eo9 : upd Go8 o9 (.tup [.ref o8, .bl true]) o9 = some (.tup [.ref o8, .bl true]) := upd_same
        generalize upd Go8 o9 (.tup [.ref o8, .bl true]) = Go9 at mo9 eo9 ⊢
        refine ⟨lenOk 0, fun o10 no10 => ?_⟩
        have mo10 : Same Go9 (upd Go9 o10 (.lst [])) := same_new no10
        have eo10 : upd Go9 o10 (.lst []) o10 = some (.lst []) := upd_same
        generalize upd Go9 o10 (.lst []) = Go10 at mo10 eo10 ⊢
        refine ⟨lenOk 2, fun o11 no11 => ?_⟩
        have mo11 : Same Go10 (upd Go10 o11 (.tup [.ref o10, .int 0])) := same_new no11
        have eo11 : upd Go10 o11 (.tup [.ref o10, .int 0]) o11 = some (.tup [.ref o10, .int 0]) := upd_same
        generalize upd Go10 o11 (.tup [.ref o10, .int 0]) = Go11 at mo11 eo11 ⊢
        refine ⟨lenOk 6, fun o12 no12 => ?_⟩
        have mo12 : Same Go11 (upd Go11 o12 (.tup [.int 0, .int 0, .int 0, .int 0, .int 0, .int 0])) := same_new no12
        have eo12 : upd Go11 o12 (.tup [.int 0, .int 0, .int 0, .int 0, .int 0, .int 0]) o12 = some (.tup [.int 0, .int 0, .int 0, .int 0, .int 0, .int 0]) := upd_same
        generalize upd Go11 o12 (.tup [.int 0, .int 0, .int 0, .int 0, .int 0, .int 0]) = Go12 at mo12 eo12 ⊢
        refine ⟨lenOk 2, fun o13 no13 => ?_⟩
        have mo13 : Same Go12 (upd Go12 o13 (.tup [.ref o12, .int 0])) := same_new no13
        have eo13 : upd Go12 o13 (.tup [.ref o12, .int 0]) o13 = some (.tup [.ref o12, .int 0]) := upd_same
        generalize upd Go12 o13 (.tup [.ref o12, .int 0]) = Go13 at mo13 eo13 ⊢
        refine ⟨lenOk 1, fun o14 no14 => ?_⟩
        have mo14 : Same Go13 (upd Go13 o14 (.tup [.int 9])) := same_new no14
        have eo14 : upd Go13 o14 (.tup [.int 9]) o14 = some (.tup [.int 9]) := upd_same
        generalize upd Go13 o14 (.tup [.int 9]) = Go14 at mo14 eo14 ⊢
        refine ⟨lenOk 2, fun o15 no15 => ?_⟩
        have mo15 : Same Go14 (upd Go14 o15 (.tup [.ref o14, .int 0])) := same_new no15
        have eo15 : upd Go14 o15 (.tup [.ref o14, .int 0]) o15 = some (.tup [.ref o14, .int 0]) := upd_same
        generalize upd Go14 o15 (.tup [.ref o14, .int 0]) = Go15 at mo15 eo15 ⊢
        refine fun o16 no16 => ?_
        have mo16 : Same Go15 (upd Go15 o16 (.dK [])) := same_new no16
        have eo16 : upd Go15 o16 (.dK []) o16 = some (.dK []) := upd_same
        generalize upd Go15 o16 (.dK []) = Go16 at mo16 eo16 ⊢
        refine ⟨lenOk 12, fun o17 no17 => ?_⟩
        have mo17 : Same Go16 (upd Go16 o17 (.lst [.non, .int 0, .ref o1, .str "a", .ref o3, .ref o5, .ref o7, .ref o9, .ref o11, .ref o13, .ref o15, .ref o16])) := same_new no17
        have eo17 : upd Go16 o17 (.lst [.non, .int 0, .ref o1, .str "a", .ref o3, .ref o5, .ref o7, .ref o9, .ref o11, .ref o13, .ref o15, .ref o16]) o17 = some (.lst [.non, .int 0, .ref o1, .str "a", .ref o3, .ref o5, .ref o7, .ref o9, .ref o11, .ref o13, .ref o15, .ref o16]) := upd_same
        generalize upd Go16 o17 (.lst [.non, .int 0, .ref o1, .str "a", .ref o3, .ref o5, .ref o7, .ref o9, .ref o11, .ref o13, .ref o15, .ref o16]) = Go17 at mo17 eo17 ⊢
        refine ⟨_, rfl, ?_⟩
        refine ⟨lenOk 0, fun o18 no18 => ?_⟩
        have mo18 : Same Go17 (upd Go17 o18 (.tup [])) := same_new no18
        have eo18 : upd Go17 o18 (.tup []) o18 = some (.tup []) := upd_same
        generalize upd Go17 o18 (.tup []) = Go18 at mo18 eo18 ⊢
        refine ⟨lenOk 2, fun o19 no19 => ?_⟩
        have mo19 : Same Go18 (upd Go18 o19 (.tup [.ref o18, .int 0])) := same_new no19
        have eo19 : upd Go18 o19 (.tup [.ref o18, .int 0]) o19 = some (.tup [.ref o18, .int 0]) := upd_same
        generalize upd Go18 o19 (.tup [.ref o18, .int 0]) = Go19 at mo19 eo19 ⊢
        refine ⟨lenOk 1, fun o20 no20 => ?_⟩
        have mo20 : Same Go19 (upd Go19 o20 (.tup [.int 0])) := same_new no20
        have eo20 : upd Go19 o20 (.tup [.int 0]) o20 = some (.tup [.int 0]) := upd_same
        generalize upd Go19 o20 (.tup [.int 0]) = Go20 at mo20 eo20 ⊢
        refine ⟨lenOk 2, fun o21 no21 => ?_⟩
        have mo21 : Same Go20 (upd Go20 o21 (.tup [.ref o20, .int 0])) := same_new no21
        have eo21 : upd Go20 o21 (.tup [.ref o20, .int 0]) o21 = some (.tup [.ref o20, .int 0]) := upd_same
        generalize upd Go20 o21 (.tup [.ref o20, .int 0]) = Go21 at mo21 eo21 ⊢
        refine ⟨lenOk 1, fun o22 no22 => ?_⟩
        have mo22 : Same Go21 (upd Go21 o22 (.tup [.int 1])) := same_new no22
        have eo22 : upd Go21 o22 (.tup [.int 1]) o22 = some (.tup [.int 1]) := upd_same
        generalize upd Go21 o22 (.tup [.int 1]) = Go22 at mo22 eo22 ⊢
        refine ⟨lenOk 2, fun o23 no23 => ?_⟩
        have mo23 : Same Go22 (upd Go22 o23 (.tup [.ref o22, .int 1])) := same_new no23
        have eo23 : upd Go22 o23 (.tup [.ref o22, .int 1]) o23 = some (.tup [.ref o22, .int 1]) := upd_same
        generalize upd Go22 o23 (.tup [.ref o22, .int 1]) = Go23 at mo23 eo23 ⊢
        refine ⟨lenOk 1, fun o24 no24 => ?_⟩
        have mo24 : Same Go23 (upd Go23 o24 (.tup [.int 0])) := same_new no24
        have eo24 : upd Go23 o24 (.tup [.int 0]) o24 = some (.tup [.int 0]) := upd_same
        generalize upd Go23 o24 (.tup [.int 0]) = Go24 at mo24 eo24 ⊢
        refine ⟨lenOk 2, fun o25 no25 => ?_⟩
        have mo25 : Same Go24 (upd Go24 o25 (.tup [.ref o24, .int 1])) := same_new no25
        have eo25 : upd Go24 o25 (.tup [.ref o24, .int 1]) o25 = some (.tup [.ref o24, .int 1]) := upd_same
        generalize upd Go24 o25 (.tup [.ref o24, .int 1]) = Go25 at mo25 eo25 ⊢
        refine ⟨lenOk 2, fun o26 no26 => ?_⟩
        have mo26 : Same Go25 (upd Go25 o26 (.tup [.int 1, .int 0])) := same_new no26
        have eo26 : upd Go25 o26 (.tup [.int 1, .int 0]) o26 = some (.tup [.int 1, .int 0]) := upd_same
        generalize upd Go25 o26 (.tup [.int 1, .int 0]) = Go26 at mo26 eo26 ⊢
        refine ⟨lenOk 2, fun o27 no27 => ?_⟩
        have mo27 : Same Go26 (upd Go26 o27 (.tup [.ref o26, .int 0])) := same_new no27
        have eo27 : upd Go26 o27 (.tup [.ref o26, .int 0]) o27 = some (.tup [.ref o26, .int 0]) := upd_same
        generalize upd Go26 o27 (.tup [.ref o26, .int 0]) = Go27 at mo27 eo27 ⊢
        refine ⟨lenOk 0, fun o28 no28 => ?_⟩
        have mo28 : Same Go27 (upd Go27 o28 (.tup [])) := same_new no28
        have eo28 : upd Go27 o28 (.tup []) o28 = some (.tup []) := upd_same
        generalize upd Go27 o28 (.tup []) = Go28 at mo28 eo28 ⊢
        refine ⟨lenOk 2, fun o29 no29 => ?_⟩
        have mo29 : Same Go28 (upd Go28 o29 (.tup [.ref o28, .int 0])) := same_new no29
        have eo29 : upd Go28 o29 (.tup [.ref o28, .int 0]) o29 = some (.tup [.ref o28, .int 0]) := upd_same
        generalize upd Go28 o29 (.tup [.ref o28, .int 0]) = Go29 at mo29 eo29 ⊢
        refine ⟨lenOk 1, fun o30 no30 => ?_⟩
        have mo30 : Same Go29 (upd Go29 o30 (.tup [.ref o29])) := same_new no30
        have eo30 : upd Go29 o30 (.tup [.ref o29]) o30 = some (.tup [.ref o29]) := upd_same
        generalize upd Go29 o30 (.tup [.ref o29]) = Go30 at mo30 eo30 ⊢
        refine ⟨lenOk 0, fun o31 no31 => ?_⟩
        have mo31 : Same Go30 (upd Go30 o31 (.tup [])) := same_new no31
        have eo31 : upd Go30 o31 (.tup []) o31 = some (.tup []) := upd_same
        generalize upd Go30 o31 (.tup []) = Go31 at mo31 eo31 ⊢
        refine ⟨lenOk 3, fun o32 no32 => ?_⟩
        have mo32 : Same Go31 (upd Go31 o32 (.tup [.ref o31, .int 0, .int 0])) := same_new no32
        have eo32 : upd Go31 o32 (.tup [.ref o31, .int 0, .int 0]) o32 = some (.tup [.ref o31, .int 0, .int 0]) := upd_same
        generalize upd Go31 o32 (.tup [.ref o31, .int 0, .int 0]) = Go32 at mo32 eo32 ⊢
        refine ⟨lenOk 0, fun o33 no33 => ?_⟩
        have mo33 : Same Go32 (upd Go32 o33 (.tup [])) := same_new no33
        have eo33 : upd Go32 o33 (.tup []) o33 = some (.tup []) := upd_same
        generalize upd Go32 o33 (.tup []) = Go33 at mo33 eo33 ⊢
        refine ⟨lenOk 2, fun o34 no34 => ?_⟩
        have mo34 : Same Go33 (upd Go33 o34 (.lst [.ref o33, .int 0])) := same_new no34
        have eo34 : upd Go33 o34 (.lst [.ref o33, .int 0]) o34 = some (.lst [.ref o33, .int 0]) := upd_same
        generalize upd Go33 o34 (.lst [.ref o33, .int 0]) = Go34 at mo34 eo34 ⊢
        refine ⟨lenOk 1, fun o35 no35 => ?_⟩
        have mo35 : Same Go34 (upd Go34 o35 (.tup [.bl true])) := same_new no35
        have eo35 : upd Go34 o35 (.tup [.bl true]) o35 = some (.tup [.bl true]) := upd_same
        generalize upd Go34 o35 (.tup [.bl true]) = Go35 at mo35 eo35 ⊢
        refine ⟨lenOk 2, fun o36 no36 => ?_⟩
        have mo36 : Same Go35 (upd Go35 o36 (.tup [.ref o35, .int 0])) := same_new no36
        have eo36 : upd Go35 o36 (.tup [.ref o35, .int 0]) o36 = some (.tup [.ref o35, .int 0]) := upd_same
        generalize upd Go35 o36 (.tup [.ref o35, .int 0]) = Go36 at mo36 eo36 ⊢
        refine ⟨lenOk 9, fun o37 no37 => ?_⟩
        have mo37 : Same Go36 (upd Go36 o37 (.lst [.ref o19, .ref o21, .ref o23, .ref o25, .ref o27, .ref o30, .ref o32, .ref o34, .ref o36])) := same_new no37
        have eo37 : upd Go36 o37 (.lst [.ref o19, .ref o21, .ref o23, .ref o25, .ref o27, .ref o30, .ref o32, .ref o34, .ref o36]) o37 = some (.lst [.ref o19, .ref o21, .ref o23, .ref o25, .ref o27, .ref o30, .ref o32, .ref o34, .ref o36]) := upd_same
        generalize upd Go36 o37 (.lst [.ref o19, .ref o21, .ref o23, .ref o25, .ref o27, .ref o30, .ref o32, .ref o34, .ref o36]) = Go37 at mo37 eo37 ⊢
        have hl12 : Go37 o17 = some (.lst [.non, .int 0, .ref o1, .str "a", .ref o3, .ref o5, .ref o7, .ref o9, .ref o11, .ref o13, .ref o15, .ref o16]) := mo37 _ _ (mo36 _ _ (mo35 _ _ (mo34 _ _ (mo33 _ _ (mo32 _ _ (mo31 _ _ (mo30 _ _ (mo29 _ _ (mo28 _ _ (mo27 _ _ (mo26 _ _ (mo25 _ _ (mo24 _ _ (mo23 _ _ (mo22 _ _ (mo21 _ _ (mo20 _ _ (mo19 _ _ (mo18 _ _ eo17)))))))))))))))))))
        refine ⟨o17, o37, _, _, rfl, rfl, hl12, eo37, small (by simp), fun o38 no38 => ?_⟩
        have mo38 : Same Go37 (upd Go37 o38 (.lst ([.non, .int 0, .ref o1, .str "a", .ref o3, .ref o5, .ref o7, .ref o9, .ref o11, .ref o13, .ref o15, .ref o16] ++ [.ref o19, .ref o21, .ref o23, .ref o25, .ref o27, .ref o30, .ref o32, .ref o34, .ref o36]))) := same_new no38
        have eo38 : upd Go37 o38 (.lst ([.non, .int 0, .ref o1, .str "a", .ref o3, .ref o5, .ref o7, .ref o9, .ref o11, .ref o13, .ref o15, .ref o16] ++ [.ref o19, .ref o21, .ref o23, .ref o25, .ref o27, .ref o30, .ref o32, .ref o34, .ref o36])) o38 = some (.lst ([.non, .int 0, .ref o1, .str "a", .ref o3, .ref o5, .ref o7, .ref o9, .ref o11, .ref o13, .ref o15, .ref o16] ++ [.ref o19, .ref o21, .ref o23, .ref o25, .ref o27, .ref o30, .ref o32, .ref o34, .ref o36])) := upd_same
        generalize upd Go37 o38 (.lst ([.non, .int 0, .ref o1, .str "a", .ref o3, .ref o5, .ref o7, .ref o9, .ref o11, .ref o13, .ref o15, .ref o16] ++ [.ref o19, .ref o21, .ref o23, .ref o25, .ref o27, .ref o30, .ref o32, .ref o34, .ref o36])) = Go38 at mo38 eo38 ⊢
        have Z38 : Same Go38 Go38 := Same.refl _
        have Z37 : Same Go37 Go38 := mo38.trans Z38
        have Z36 : Same Go36 Go38 := mo37.trans Z37
        have Z35 : Same Go35 Go38 := mo36.trans Z36
        have Z34 : Same Go34 Go38 := mo35.trans Z35
        have Z33 : Same Go33 Go38 := mo34.trans Z34
        have Z32 : Same Go32 Go38 := mo33.trans Z33
        have Z31 : Same Go31 Go38 := mo32.trans Z32
        have Z30 : Same Go30 Go38 := mo31.trans Z31
        have Z29 : Same Go29 Go38 := mo30.trans Z30
        have Z28 : Same Go28 Go38 := mo29.trans Z29
        have Z27 : Same Go27 Go38 := mo28.trans Z28
        have Z26 : Same Go26 Go38 := mo27.trans Z27
        have Z25 : Same Go25 Go38 := mo26.trans Z26
        have Z24 : Same Go24 Go38 := mo25.trans Z25
        have Z23 : Same Go23 Go38 := mo24.trans Z24
        have Z22 : Same Go22 Go38 := mo23.trans Z23
        have Z21 : Same Go21 Go38 := mo22.trans Z22
        have Z20 : Same Go20 Go38 := mo21.trans Z21
        have Z19 : Same Go19 Go38 := mo20.trans Z20
        have Z18 : Same Go18 Go38 := mo19.trans Z19
        have Z17 : Same Go17 Go38 := mo18.trans Z18
        have Z16 : Same Go16 Go38 := mo17.trans Z17
        have Z15 : Same Go15 Go38 := mo16.trans Z16
        have Z14 : Same Go14 Go38 := mo15.trans Z15
        have Z13 : Same Go13 Go38 := mo14.trans Z14
        have Z12 : Same Go12 Go38 := mo13.trans Z13
        have Z11 : Same Go11 Go38 := mo12.trans Z12
        have Z10 : Same Go10 Go38 := mo11.trans Z11
        have Z9 : Same Go9 Go38 := mo10.trans Z10
        have Z8 : Same Go8 Go38 := mo9.trans Z9
        have Z7 : Same Go7 Go38 := mo8.trans Z8
        have Z6 : Same Go6 Go38 := mo7.trans Z7
        have Z5 : Same Go5 Go38 := mo6.trans Z6
        have Z4 : Same Go4 Go38 := mo5.trans Z5
        have Z3 : Same Go3 Go38 := mo4.trans Z4
        have Z2 : Same Go2 Go38 := mo3.trans Z3
        have Z1 : Same Go1 Go38 := mo2.trans Z2
        have S9 := S8.sm (mo1.trans Z1)
        have hodd12 : Paired (OddAt K Go38) [.non, .int 0, .ref o1, .str "a", .ref o3, .ref o5, .ref o7, .ref o9, .ref o11, .ref o13, .ref o15, .ref o16] odd12 := by
          refine .cons (.no rfl (.inr (.inr (.inr (.inl rfl)))) (.inl (.non)) rfl) ?_
          refine .cons (.no rfl (.inr (.inl ⟨_, rfl⟩)) (.inl (.int _)) rfl) ?_
          refine .cons (.tup rfl (SqT.of (Z1 _ _ eo1)) (.tup (SqT.of (Z1 _ _ eo1)) .nil) (.len (SqT.of (Z1 _ _ eo1)) (by simp)) (.inr ⟨rfl, fun _ _ z => nomatch z⟩)) ?_
          refine .cons (.no rfl (.inl ⟨_, rfl⟩) (.inl (.str _)) rfl) ?_
          refine .cons (.tup rfl (SqT.of (Z3 _ _ eo3)) (.tup (SqT.of (Z3 _ _ eo3)) (.cons (.tup (SqT.of (Z2 _ _ eo2)) .nil) (.cons (.int _) .nil))) (.tup (SqT.of (Z3 _ _ eo3)) (SqT.of (Z2 _ _ eo2)) (fun z hz => nomatch hz) (.inl ⟨_, rfl⟩)) (.inl ⟨_, rfl, rfl⟩)) ?_
          refine .cons (.tup rfl (SqT.of (Z5 _ _ eo5)) (.tup (SqT.of (Z5 _ _ eo5)) (.cons (.tup (SqT.of (Z4 _ _ eo4)) .nil) (.cons (.int _) .nil))) (.tup (SqT.of (Z5 _ _ eo5)) (SqT.of (Z4 _ _ eo4)) (fun z hz => nomatch hz) (.inl ⟨_, rfl⟩)) (.inr ⟨rfl, fun pa i z => by first | (have z := (Prod.mk.inj (Option.some.inj z)).2; cases z; done) | (have z := (Prod.mk.inj (Option.some.inj z)).2; injection z with z; omega) | (have z := Option.some.inj (Prod.mk.inj (Option.some.inj z)).1; cases pa with | nil => cases z | cons y ys => rw [List.map_cons] at z; injection z with z; cases z)⟩)) ?_
          refine .cons (.tup rfl (SqT.of (Z7 _ _ eo7)) (.tup (SqT.of (Z7 _ _ eo7)) (.cons (.tup (SqT.of (Z6 _ _ eo6)) .nil) (.cons (.non) .nil))) (.tup (SqT.of (Z7 _ _ eo7)) (SqT.of (Z6 _ _ eo6)) (fun z hz => nomatch hz) (.inr (.inr rfl))) (.inr ⟨rfl, fun pa i z => by first | (have z := (Prod.mk.inj (Option.some.inj z)).2; cases z; done) | (have z := (Prod.mk.inj (Option.some.inj z)).2; injection z with z; omega) | (have z := Option.some.inj (Prod.mk.inj (Option.some.inj z)).1; cases pa with | nil => cases z | cons y ys => rw [List.map_cons] at z; injection z with z; cases z)⟩)) ?_
          refine .cons (.tup rfl (SqT.of (Z9 _ _ eo9)) (.tup (SqT.of (Z9 _ _ eo9)) (.cons (.tup (SqT.of (Z8 _ _ eo8)) .nil) (.cons (.bl _) .nil))) (.tup (SqT.of (Z9 _ _ eo9)) (SqT.of (Z8 _ _ eo8)) (fun z hz => nomatch hz) (.inr (.inl ⟨_, rfl⟩))) (.inr ⟨rfl, fun pa i z => by first | (have z := (Prod.mk.inj (Option.some.inj z)).2; cases z; done) | (have z := (Prod.mk.inj (Option.some.inj z)).2; injection z with z; omega) | (have z := Option.some.inj (Prod.mk.inj (Option.some.inj z)).1; cases pa with | nil => cases z | cons y ys => rw [List.map_cons] at z; injection z with z; cases z)⟩)) ?_
          refine .cons (.tup rfl (SqT.of (Z11 _ _ eo11)) (.tup (SqT.of (Z11 _ _ eo11)) (.cons (.lst (SqL.of (Z10 _ _ eo10)) .nil) (.cons (.int _) .nil))) (.lst (SqT.of (Z11 _ _ eo11)) (Z10 _ _ eo10) (.inl ⟨_, rfl⟩)) (.inr ⟨rfl, fun _ _ z => nomatch z⟩)) ?_
          refine .cons (.tup rfl (SqT.of (Z13 _ _ eo13)) (.tup (SqT.of (Z13 _ _ eo13)) (.cons (.tup (SqT.of (Z12 _ _ eo12)) (.cons (.int _) (.cons (.int _) (.cons (.int _) (.cons (.int _) (.cons (.int _) (.cons (.int _) .nil))))))) (.cons (.int _) .nil))) (.tup (SqT.of (Z13 _ _ eo13)) (SqT.of (Z12 _ _ eo12)) (fun z hz => by rcases List.mem_cons.mp hz with rfl | hz; exact (.inl ⟨_, rfl⟩); rcases List.mem_cons.mp hz with rfl | hz; exact (.inl ⟨_, rfl⟩); rcases List.mem_cons.mp hz with rfl | hz; exact (.inl ⟨_, rfl⟩); rcases List.mem_cons.mp hz with rfl | hz; exact (.inl ⟨_, rfl⟩); rcases List.mem_cons.mp hz with rfl | hz; exact (.inl ⟨_, rfl⟩); rcases List.mem_cons.mp hz with rfl | hz; exact (.inl ⟨_, rfl⟩); cases hz) (.inl ⟨_, rfl⟩)) (.inl ⟨_, rfl, rfl⟩)) ?_
          refine .cons (.tup rfl (SqT.of (Z15 _ _ eo15)) (.tup (SqT.of (Z15 _ _ eo15)) (.cons (.tup (SqT.of (Z14 _ _ eo14)) (.cons (.int _) .nil)) (.cons (.int _) .nil))) (.tup (SqT.of (Z15 _ _ eo15)) (SqT.of (Z14 _ _ eo14)) (fun z hz => by rcases List.mem_cons.mp hz with rfl | hz; exact (.inl ⟨_, rfl⟩); cases hz) (.inl ⟨_, rfl⟩)) (.inl ⟨_, rfl, rfl⟩)) ?_
          refine .cons (.no rfl (.inr (.inr (.inr (.inr (.inr ⟨_, _, rfl, (Z16 _ _ eo16)⟩))))) (.inr ⟨_, rfl, (Z16 _ _ eo16)⟩) rfl) ?_
          exact .nil
        have hodd9 : Paired (OddAt K Go38) [.ref o19, .ref o21, .ref o23, .ref o25, .ref o27, .ref o30, .ref o32, .ref o34, .ref o36] odd9 := by
          refine .cons (.tup rfl (SqT.of (Z19 _ _ eo19)) (.tup (SqT.of (Z19 _ _ eo19)) (.cons (.tup (SqT.of (Z18 _ _ eo18)) .nil) (.cons (.int _) .nil))) (.tup (SqT.of (Z19 _ _ eo19)) (SqT.of (Z18 _ _ eo18)) (fun z hz => nomatch hz) (.inl ⟨_, rfl⟩)) (.inl ⟨_, rfl, rfl⟩)) ?_
          refine .cons (.tup rfl (SqT.of (Z21 _ _ eo21)) (.tup (SqT.of (Z21 _ _ eo21)) (.cons (.tup (SqT.of (Z20 _ _ eo20)) (.cons (.int _) .nil)) (.cons (.int _) .nil))) (.tup (SqT.of (Z21 _ _ eo21)) (SqT.of (Z20 _ _ eo20)) (fun z hz => by rcases List.mem_cons.mp hz with rfl | hz; exact (.inl ⟨_, rfl⟩); cases hz) (.inl ⟨_, rfl⟩)) (.inl ⟨_, rfl, rfl⟩)) ?_
          refine .cons (.tup rfl (SqT.of (Z23 _ _ eo23)) (.tup (SqT.of (Z23 _ _ eo23)) (.cons (.tup (SqT.of (Z22 _ _ eo22)) (.cons (.int _) .nil)) (.cons (.int _) .nil))) (.tup (SqT.of (Z23 _ _ eo23)) (SqT.of (Z22 _ _ eo22)) (fun z hz => by rcases List.mem_cons.mp hz with rfl | hz; exact (.inl ⟨_, rfl⟩); cases hz) (.inl ⟨_, rfl⟩)) (.inl ⟨_, rfl, rfl⟩)) ?_
          refine .cons (.tup rfl (SqT.of (Z25 _ _ eo25)) (.tup (SqT.of (Z25 _ _ eo25)) (.cons (.tup (SqT.of (Z24 _ _ eo24)) (.cons (.int _) .nil)) (.cons (.int _) .nil))) (.tup (SqT.of (Z25 _ _ eo25)) (SqT.of (Z24 _ _ eo24)) (fun z hz => by rcases List.mem_cons.mp hz with rfl | hz; exact (.inl ⟨_, rfl⟩); cases hz) (.inl ⟨_, rfl⟩)) (.inl ⟨_, rfl, rfl⟩)) ?_
          refine .cons (.tup rfl (SqT.of (Z27 _ _ eo27)) (.tup (SqT.of (Z27 _ _ eo27)) (.cons (.tup (SqT.of (Z26 _ _ eo26)) (.cons (.int _) (.cons (.int _) .nil))) (.cons (.int _) .nil))) (.tup (SqT.of (Z27 _ _ eo27)) (SqT.of (Z26 _ _ eo26)) (fun z hz => by rcases List.mem_cons.mp hz with rfl | hz; exact (.inl ⟨_, rfl⟩); rcases List.mem_cons.mp hz with rfl | hz; exact (.inl ⟨_, rfl⟩); cases hz) (.inl ⟨_, rfl⟩)) (.inl ⟨_, rfl, rfl⟩)) ?_
          refine .cons (.tup rfl (SqT.of (Z30 _ _ eo30)) (.tup (SqT.of (Z30 _ _ eo30)) (.cons (.tup (SqT.of (Z29 _ _ eo29)) (.cons (.tup (SqT.of (Z28 _ _ eo28)) .nil) (.cons (.int _) .nil))) .nil)) (.len (SqT.of (Z30 _ _ eo30)) (by simp)) (.inr ⟨rfl, fun _ _ z => nomatch z⟩)) ?_
          refine .cons (.tup rfl (SqT.of (Z32 _ _ eo32)) (.tup (SqT.of (Z32 _ _ eo32)) (.cons (.tup (SqT.of (Z31 _ _ eo31)) .nil) (.cons (.int _) (.cons (.int _) .nil)))) (.len (SqT.of (Z32 _ _ eo32)) (by simp)) (.inr ⟨rfl, fun _ _ z => nomatch z⟩)) ?_
          refine .cons (.no rfl (.inr (.inr (.inr (.inr (.inl ⟨_, _, rfl, (Z34 _ _ eo34)⟩))))) (.inl (.lst (SqL.of (Z34 _ _ eo34)) (.cons (.tup (SqT.of (Z33 _ _ eo33)) .nil) (.cons (.int _) .nil)))) rfl) ?_
          refine .cons (.tup rfl (SqT.of (Z36 _ _ eo36)) (.tup (SqT.of (Z36 _ _ eo36)) (.cons (.tup (SqT.of (Z35 _ _ eo35)) (.cons (.bl _) .nil)) (.cons (.int _) .nil))) (.tup (SqT.of (Z36 _ _ eo36)) (SqT.of (Z35 _ _ eo35)) (fun z hz => by rcases List.mem_cons.mp hz with rfl | hz; exact (.inr (.inl ⟨_, rfl⟩)); cases hz) (.inl ⟨_, rfl⟩)) (.inr ⟨rfl, fun pa i z => by first | (have z := (Prod.mk.inj (Option.some.inj z)).2; cases z; done) | (have z := (Prod.mk.inj (Option.some.inj z)).2; injection z with z; omega) | (have z := Option.some.inj (Prod.mk.inj (Option.some.inj z)).1; cases pa with | nil => cases z | cons y ys => rw [List.map_cons] at z; injection z with z; cases z)⟩)) ?_
          exact .nil
        obtain ⟨us, hul, hodd, eus⟩ : ∃ us : List V, us.length = 21 ∧ Paired (OddAt K Go38) us oddD ∧ Go38 o38 = some (.lst us) := ⟨_, rfl, pairedApp hodd12 hodd9, eo38⟩
        clear hodd12 hodd9 eo38 hl12 Z1 Z2 Z3 Z4 Z5 Z6 Z7 Z8 Z9 Z10 Z11 Z12 Z13 Z14 Z15 Z16 Z17 Z18 Z19 Z20 Z21 Z22 Z23 Z24 Z25 Z26 Z27 Z28 Z29 Z30 Z31 Z32 Z33 Z34 Z35 Z36 Z37 Z38 mo1 eo1 no1 mo2 eo2 no2 mo3 eo3 no3 mo4 eo4 no4 mo5 eo5 no5 mo6 eo6 no6 mo7 eo7 no7 mo8 eo8 no8 mo9 eo9 no9 mo10 eo10 no10 mo11 eo11 no11 mo12 eo12 no12 mo13 eo13 no13 mo14 eo14 no14 mo15 eo15 no15 mo16 eo16 no16 mo17 eo17 no17 mo18 eo18 no18 mo19 eo19 no19 mo20 eo20 no20 mo21 eo21 no21 mo22 eo22 no22 mo23 eo23 no23 mo24 eo24 no24 mo25 eo25 no25 mo26 eo26 no26 mo27 eo27 no27 mo28 eo28 no28 mo29 eo29 no29 mo30 eo30 no30 mo31 eo31 no31 mo32 eo32 no32 mo33 eo33 no33 mo34 eo34 no34 mo35 eo35 no35 mo36 eo36 no36 mo37 eo37 no37 mo38 no38
        refine ⟨_, rfl, o38, rfl, ⟨_, SqL.of eus⟩, fun D3 nD3 => ?_⟩
        have hkeys := rows_small (pl := pl) hl
        have hshort := rows_short (pl := pl) hl
        have hod : oddD.length = 21 := by decide +kernel
        refine lcL (K := K) (a := o38) (xs := us) (fun j acc H' => Same Go38 H' ∧ Paired (OddAt K Go38) acc ((oddD.take j).filter fun d => isTup d && (((rowsPl pl).map (·.1)).map tellC).contains d.shown)) ⟨same_new nD3, .nil⟩ (fun j acc H' h => SqL.of (h.1 _ _ eus)) ?_ ?_
        · rintro j x acc H9 hxj hla ea ⟨s9, hacc⟩
          obtain ⟨dj, hdj, ho⟩ := paired_at hodd hxj
          have hjl := (List.getElem?_eq_some_iff.mp hxj).1
          have hdm := List.mem_of_getElem? hdj
          have ho9 := ho.sm s9
          have stp := filter_snoc (fun d => isTup d && (((rowsPl pl).map (·.1)).map tellC).contains d.shown) hdj
          obtain ⟨ty, hty1, hty2⟩ := odd_ty ho9
          refine ⟨_, rfl, x, .ty "tuple", _, .type "tuple", isTup dj, rfl, .ty _, hty1, hty2, _, rfl, ?_⟩
          cases ht : isTup dj with
          | false =>
            refine iteF ⟨_, by omega, ea, s9, ?_⟩
            rw [stp, ht, Bool.false_and, if_neg (by decide), List.append_nil]
            exact hacc
          | true =>
            refine iteT ?_
            obtain ⟨ax, xs, rfl, hsx, hdx⟩ := oddv_tup ho9 ht
            obtain ⟨sh1, sh2, sh3, sh4⟩ := odd_shown hdm ht
            refine ⟨_, rfl, .ref ax, dj, rfl, ⟨_, rfl⟩, hdx, sh1, sh2, sh3, sh4, ?_⟩
            have S10 := S9.sm s9
            refine ⟨dd, _, S10.r.e, trivial, fun od => ?_⟩
            have eL : upd H9 dd (.frz od (DcO P w dd L)) dd = some (.frz od (DcO P w dd L)) := upd_same
            have bL : But dd H9 (upd H9 dd (.frz od (DcO P w dd L))) := fun b' o' n e => by rw [upd_ne n]; exact e
            have tL : Tk H9 (upd H9 dd (.frz od (DcO P w dd L))) := but_tk bL S10.r.e (fun _ z => nomatch z) (fun _ _ z => nomatch z)
            have kkL := S10.r.k.tk tL
            refine ⟨_, rfl, dd, od, L, rfl, eL, fun D4 nD4 => ?_⟩
            refine lcKyC (fun j acc H' => Same (upd H9 dd (.frz od (DcO P w dd L))) H' ∧ acc = ((L.take j).map fun e => V.str (tellC e.1))) ⟨same_new nD4, rfl⟩ (fun j acc H' h => h.1 _ _ eL) ?_ ?_
            · rintro i e acc2 H10 hei hla2 ea2 ⟨s10, rfl⟩
              have hm := List.mem_of_getElem? hei
              have hcall := (kkL e hm).tk (stk s10)
              have hck : e.1 ∈ (rowsPl pl).map (·.1) := by
                rw [← ekL]
                exact List.mem_map_of_mem hm
              obtain ⟨c1, c2, c3, c4⟩ := call_show (hkeys _ hck).1 (hkeys _ hck).2 (hshort _ hck)
              have hil := (List.getElem?_eq_some_iff.mp hei).1
              obtain ⟨ac, bc, eac, _⟩ := id hcall
              refine yesT ⟨_, rfl, .ref e.2.1, ckD e.1, rfl, ⟨_, rfl⟩, dp_call hcall, c1, c2, c3, c4, LcK.mk hla2 (by omega) ea2 ⟨fun b' o' eb => ?_, ?_⟩⟩
              · rw [upd_ne (ne_of_none eb nD4)]
                exact s10 _ _ eb
              · rw [take_succ' hei, List.map_append]
                rfl
            · rintro acc2 H10 hla2 ea2 ⟨s10, rfl⟩
              rw [List.take_of_length_le (Nat.le_refl _)] at ea2
              have s11 := same_unlC s10 S10.r.e
              have nD4' : D4 ≠ dd := fun z => by
                subst z
                rw [s10 _ _ eL] at ea2
                cases ea2
              refine ⟨s10 _ _ eL, ?_⟩
              have ea3 : upd H10 dd (DcO P w dd L) D4 = some (.lst (L.map fun e => V.str (tellC e.1))) := by rw [upd_ne nD4']; exact ea2
              have hmap : (L.map fun e => V.str (tellC e.1)) = (((rowsPl pl).map (·.1)).map tellC).map V.str := by
                rw [← ekL, List.map_map, List.map_map]
                rfl
              rw [hmap] at ea3
              refine ⟨D4, _, rfl, .inl (SqL.of ea3), rfl, flat_strs _, _, rfl, ?_⟩
              rw [inV_strs]
              have ea := s11 _ _ ea
              have s12 := s9.trans s11
              generalize upd H10 dd (DcO P w dd L) = H11 at ea s12 ⊢
              show if (((rowsPl pl).map (·.1)).map tellC).contains dj.shown = true then _ else _
              cases hc : (((rowsPl pl).map (·.1)).map tellC).contains dj.shown with
              | true =>
                refine iteT ⟨_, rfl, LcK.mk hla (by omega) ea ⟨fun b' o' eb => ?_, ?_⟩⟩
                · rw [upd_ne (ne_of_none eb nD3)]
                  exact s12 _ _ eb
                · rw [stp, ht, hc, Bool.true_and, if_pos rfl]
                  exact pairedApp hacc (.cons ho .nil)
              | false =>
                refine iteF ⟨_, by omega, ea, s12, ?_⟩
                rw [stp, ht, hc, Bool.and_false, if_neg (by decide), List.append_nil]
                exact hacc
        · rintro known H9 hla ea ⟨s9, hkn⟩
          rw [List.take_of_length_le (by omega)] at hkn
          have hkn : Paired (OddAt K H9) known (knownD ((rowsPl pl).map (·.1))) := Paired.mono (fun _ _ h => h.sm s9) hkn
          have S10 := S9.sm s9
          have eus := s9 _ _ eus
          have hodd : Paired (OddAt K H9) us oddD := Paired.mono (fun _ _ h => h.sm s9) hodd
          clear s9 S9 hla
          refine ⟨_, rfl, o38, rfl, ⟨_, SqL.of eus⟩, for_list (K := K) (a := o38) (xs := us) (fun i σ H' => ∃ x10, σ = [some (.ref d), some v, some (.ref a), some (.ref dd), y4, y5, y6, y7, y8, some (.ref o38), x10, some (.ref D3), none] ∧ Same H9 H') ?_ (fun i σ H' _ h => ?_) ?_ ?_⟩
          · exact ⟨_, rfl, Same.refl _⟩
          · obtain ⟨x10, rfl, sx⟩ := h
            exact SqL.of (sx _ _ eus)
          · rintro i x σ H10 hx ⟨x10, rfl, s10⟩
            obtain ⟨dj, hdj, ho0⟩ := paired_at hodd hx
            have hdm := List.mem_of_getElem? hdj
            have ho := ho0.sm s10
            obtain ⟨co, hcv, hcm⟩ := odd_call ho
            have hck := call_keys hok hl hcm
            have hki := known_iff hkeys hdm
            have S11 := S10.sm s10
            have hkn10 : Paired (OddAt K H10) known (knownD ((rowsPl pl).map (·.1))) := Paired.mono (fun _ _ h => h.sm s10) hkn
            have ea10 := s10 _ _ ea
            refine ⟨_, rfl, _, rfl, a, pl, x, co, rfl, S11.r.pr, hok, hl, hcv, ?_⟩
            rw [hck]
            refine ⟨_, rfl, _, rfl, odd_in ho hdm (SqL.of ea10) hkn10 ⟨_, rfl, ?_⟩⟩
            have hob : ∀ r ∈ rowsPl pl, okB (nodesOf r.2.2) = true := fun r hr => by
              obtain ⟨j, hj⟩ := List.getElem?_of_mem hr
              obtain ⟨e, _, _, _, _, _, _, hA⟩ := back_at S11.r.r hj
              exact (hdr hr hA).okB
            cases hin : ((knownD ((rowsPl pl).map (·.1))).any fun z => PyData.eqv z dj) with
            | false =>
              refine iteF ?_
              rw [hin, Bool.false_and] at hki
              rw [← hki]
              refine ⟨rfl, _, rfl, iteF' (by decide) ?_⟩
              refine ⟨_, rfl, _, rfl, ?_⟩
              dsimp only [tNil]
              refine got_odd S11.r.pr hok hl hcv hcm hob fun x5 H11 s11 e5 => ⟨rfl, ?_⟩
              obtain ⟨co2, hcv2, hcm2⟩ := odd_call (ho.sm s11)
              refine ⟨_, rfl, _, rfl, a, pl, x, co2, rfl, S11.r.pr.sm s11, hok, hl, hcv2, ?_⟩
              rw [call_keys hok hl hcm2, e5, ← hki]
              exact ⟨rfl, _, rfl, iteF' (by decide) ⟨_, rfl, s10.trans s11⟩⟩
            | true =>
              refine iteT ?_
              rw [hin, Bool.true_and] at hki
              have ht := known_isTup hdm hin
              obtain ⟨ax, xs, rfl, hsx, hdx⟩ := oddv_tup ho ht
              obtain ⟨sh1, sh2, sh3, sh4⟩ := odd_shown hdm ht
              refine ⟨_, rfl, .ref ax, dj, rfl, ⟨_, rfl⟩, hdx, sh1, sh2, sh3, sh4, ?_⟩
              refine ⟨_, rfl, D3, rfl, ⟨_, SqL.of ea10⟩, fun D5 nD5 => ?_⟩
              refine lcL (K := K) (a := D3) (xs := known) (fun j acc H' => Same H10 H' ∧ acc = ((knownD ((rowsPl pl).map (·.1))).take j).map fun d => V.str d.shown) ⟨same_new nD5, rfl⟩ (fun j acc H' h => SqL.of (h.1 _ _ ea10)) ?_ ?_
              · rintro j y acc H11 hyj hla ea11 ⟨s11, rfl⟩
                obtain ⟨dk, hdk, hok1⟩ := paired_at hkn10 hyj
                have hkm := List.mem_of_getElem? hdk
                have htk := known_tup dk hkm
                obtain ⟨ay, ys, rfl, hsy, hdy⟩ := oddv_tup (hok1.sm s11) htk
                obtain ⟨k1, k2, k3, k4⟩ := odd_shown (known_odd dk hkm) htk
                have hjl := (List.getElem?_eq_some_iff.mp hyj).1
                have hkl : known.length ≤ 21 := by
                  rw [Paired.length hkn10, ← hod]
                  exact List.length_filter_le _ _
                refine yesT ⟨_, rfl, .ref ay, dk, rfl, ⟨_, rfl⟩, hdy, k1, k2, k3, k4, LcK.mk hla (by omega) ea11 ⟨fun b' o' eb => ?_, ?_⟩⟩
                · rw [upd_ne (ne_of_none eb nD5)]
                  exact s11 _ _ eb
                · rw [take_succ' hdk, List.map_append]
                  rfl
              · rintro acc H11 hla ea11 ⟨s11, rfl⟩
                rw [List.take_of_length_le (Nat.le_of_eq (Paired.length hkn10).symm)] at ea11
                have hmap : ((knownD ((rowsPl pl).map (·.1))).map fun d => V.str d.shown) = ((knownD ((rowsPl pl).map (·.1))).map PyData.shown).map V.str := by
                  rw [List.map_map]
                  rfl
                rw [hmap] at ea11
                refine ⟨D5, _, rfl, .inl (SqL.of ea11), rfl, flat_strs _, ?_⟩
                rw [inV_strs]
                show rNe _ (V.bl (((knownD ((rowsPl pl).map (·.1))).map PyData.shown).contains dj.shown)) _ _
                rw [hki]
                have S12 := S11.sm s11
                refine ⟨by rfl, _, rfl, iteF' (by rw [decide_eq_true rfl]; rfl) ?_⟩
                refine ⟨_, rfl, _, rfl, ?_⟩
                dsimp only [tNil]
                obtain ⟨co1, hcv1, hcm1⟩ := odd_call (ho.sm s11)
                refine got_odd S12.r.pr hok hl hcv1 hcm1 hob fun x5 H12 s12 e5 => ⟨rfl, ?_⟩
                obtain ⟨co2, hcv2, hcm2⟩ := odd_call (ho.sm (s11.trans s12))
                refine ⟨_, rfl, _, rfl, a, pl, .ref ax, co2, rfl, S12.r.pr.sm s12, hok, hl, hcv2, ?_⟩
                rw [call_keys hok hl hcm2, e5]
                exact ⟨by rfl, _, rfl, iteF' (by rw [decide_eq_true rfl]; rfl) ⟨_, rfl, s10.trans (s11.trans s12)⟩⟩
          · rintro σ H10 ⟨x10, rfl, s10⟩
            have S11 := S10.sm s10
            obtain ⟨dx, pN, xsN, ha, hsN, hN, hG⟩ := id S11.r.pr
            refine ⟨_, rfl, a, dx, _, rfl, ha, a, dx, _, pN, rfl, ha, rfl, pN, xsN, rfl, .inr hsN, fun l1 nl1 => ?_⟩
            have s11 : Same H10 (upd H10 l1 (.lst xsN)) := same_new nl1
            have e11 : upd H10 l1 (.lst xsN) l1 = some (.lst xsN) := upd_same
            have S12 := S11.sm s11
            have hN := hN.tk (stk s11)
            generalize upd H10 l1 (.lst xsN) = H11 at s11 e11 S12 hN ⊢
            refine ⟨_, rfl, v, pl, rfl, S12.r.p, hl11, by decide, fun xs2 p2 H12 s12 n12 e12 hN2 => ?_⟩
            have shp : SeqAt.shaped (.list ((nodesOf pl).map nodeD)) = true := nodes_shapedG hG
            have eqvL : PyData.eqv (.list ((nodesOf pl).map nodeD)) (.list ((nodesOf pl).map nodeD)) = decide (nodesOf pl = nodesOf pl) := nodes_eqvAllG hG hG
            refine ⟨.list ((nodesOf pl).map nodeD), .list ((nodesOf pl).map nodeD), .lst (SqL.of (s12 _ _ e11)) (dp_nodesG (hN.tk (stk s12)) hG), .lst (SqL.of e12) (dp_nodesG hN2 hG), shp, shp, ?_⟩
            rw [eqvL, decide_eq_true rfl]
            exact q _ (S12.sm s12).g
end
end Eh
set_option Elab.async false
set_option linter.all false
set_option maxRecDepth 100000
set_option maxHeartbeats 8000000
namespace Eh
open PySem PySem.Spec PyProof.Rows L2
open ClX Zl
def nokB (n : Str × V) : Bool := nodeAB n.1 n.2 && (match n.2 with | .str z => uni6.contains z | _ => true)
theorem nokB_ok {ns : List (Str × V)} (h : ns.all nokB = true) : ∀ n ∈ ns, NOk n := fun n hn => by
  have := List.all_eq_true.mp h n hn
  unfold nokB at this
  rw [Bool.and_eq_true] at this
  refine ⟨this.1, fun z e => ?_⟩
  have h2 := this.2
  rw [e] at h2
  simpa using h2
def lawZ11 : Str := "([!b + !c] | ([b * c] & [b * c]))"
def lawY11 : Pl := .node "yours" [.leaf "fact" (.str "b"), .leaf "fact" (.str "c")]
def lawP11 : Pl := .node "some" [.node "mine" [.leaf "not" (.str "b"), .leaf "not" (.str "c")], .node "all" [lawY11, lawY11]]
def lawN11 : List (Str × V) := [("some", .int 2), ("mine", .int 2), ("not", .str "b"), ("not", .str "c"), ("all", .int 2), ("yours", .int 2), ("fact", .str "b"), ("fact", .str "c"), ("yours", .int 2), ("fact", .str "b"), ("fact", .str "c")]
theorem lawN11_eq : nodesOf lawP11 = lawN11 := by
  unfold lawP11 lawN11 lawY11
  simp [nodesOf, nodesAll]
def lawM11 : List (Str × V) := [("some", .int 2), ("mine", .int 2), ("not", .str "b"), ("not", .str "c"), ("all", .int 2), ("fact", .str "c"), ("yours", .int 2), ("fact", .str "b"), ("fact", .str "c")]
theorem lawM11_eq : nodesOf (putP lawP11 [1, 0] (.leaf "fact" (.str "c"))) = lawM11 := by kernel_rfl
theorem lawC11 : callsPl lawP11 "keeper" = [([0], 0), ([0], 1)] := by kernel_rfl
theorem lawSub11 : subsP lawP11 = [([], lawP11), ([0], .node "mine" [.leaf "not" (.str "b"), .leaf "not" (.str "c")]), ([1], .node "all" [lawY11, lawY11]), ([1, 0], lawY11), ([1, 1], lawY11)] := by kernel_rfl
theorem lawIn11 : (([1, 0], lawY11) : List Nat × Pl) ∈ subsP lawP11 := by
  rw [lawSub11]
  simp
theorem lawH11 : handPl lawP11 (some (some ([0].map natV), .int ((1 : Nat) : Int))) = .str "keeper" := by kernel_rfl
def lawD11 : PyData := .list [.tuple ([([0], 0), ([0], 1)].map ckD), .str "([!b + !c] | (c & [b * c]))", .str "keeper"]
theorem lawD11_sh : SeqAt.shaped lawD11 = true := by decide +kernel
section
variable {P : Program} {w : World} {K : PySem.W.Frag} {mg : Str → Option Value} {base : Heap}
def spLaw11 (K : PySem.W.Frag) : Sp := fun vs H Q _ => ∃ (a : Addr) (ns : List Int), vs = [.ref a] ∧ SqL K H a (ns.map V.int) ∧ ns.length ≤ 63 ∧ ∀ H', Q (.bl true) H'
theorem ok_law11 {C CC fI fL fD fR fCs fCd fHo gT f : Addr} {fdD fdR fdCs fdCd fdHo fdT fd : FuncData} (F : Fun K "law" "law" s_law f fd) (T : Txt mg) (PC : PromC K mg C fI fL)
    (C__law_dice : Cal P w K mg base 1 "_law_dice" fD fdD ["script", "spot"] (spDice K)) (GRt : FnG P w K mg base 27 fR fdR ["dice"] spRight) (mRt : mg "_law_right" = some (.ref fR)) (kRt : PySem.W.keepIn K (.ref fR) = true) (bRt : Binds K fdR ["dice"] [])
    (GCs : FnOk P w K mg base (L2.CX P w) 5 fCs fdCs ["promise", "hand"] (spCalls K C)) (mCs : mg "calls" = some (.ref fCs)) (kCs : PySem.W.keepIn K (.ref fCs) = true) (bCs : Binds K fdCs ["promise", "hand"] [])
    (GCd : FnOk P w K mg base (L2.CX P w) 7 fCd fdCd ["promise", "call"] (spCalled K C CC)) (mCd : mg "called" = some (.ref fCd)) (kCd : PySem.W.keepIn K (.ref fCd) = true) (bCd : Binds K fdCd ["promise", "call"] [])
    (GHo : FnOk P w K mg base (L2.CX P w) 7 fHo fdHo ["promise", "call"] (spHandOf K C CC)) (mHo : mg "hand_of" = some (.ref fHo)) (kHo : PySem.W.keepIn K (.ref fHo) = true) (bHo : Binds K fdHo ["promise", "call"] [])
    (DT : DunC P w K mg base C "__str__" 3 ["self"] (spTextP K C) gT fdT)
    {mc : Value} {q1 r1 : Addr} {fr1 : FuncData} (CR : CRead K C mc) (M1 : CMet K C mc "read" q1 r1) (GR : FnT P w K mg base 6 r1 fr1 ["cls", "text"] (spReadOk K C)) (bR : Binds K fr1 ["cls", "text"] []) :
    FnG P w K mg base 28 f fd ["script"] (spLaw11 K) := by
  refine funG F sc_law (fun vs H Q E h => ?_) (fun cdv A outer s H vs Q E hgd hr h => ?_)
  · obtain ⟨a, ns, rfl, _⟩ := h
    rfl
  · obtain ⟨a, ns, rfl, hS, hl, q⟩ := h
    have hr7 := hr.mono (j := 7) (by omega)
    have hr6 := hr.mono (j := 6) (by omega)
    have hr5 := hr.mono (j := 5) (by omega)
    have hr1 := hr.mono (j := 1) (by omega)
    refine ⟨_, (pss_cons (ps_for PassesOwn.never (by rfl) (pi_range1 (by rfl) T.range_ (pa_cons (pe_callB (call_max2 (by rfl)) (by rfl) T.max_ (by decide +kernel) (pa_cons pe_int (pa_cons (pe_callB (call_min2 (by rfl)) (by rfl) T.min_ (by decide +kernel) (pa_cons pe_int (pa_cons (pe_callB (lenQ (K := K) rfl) (by rfl) T.len_ (by decide +kernel) (pa_cons (pv 0) pa_nil)) pa_nil))) pa_nil))) pa_nil)) (pg_name (i := 1) sc_law.nd rfl (.inl rfl))
  (pss_cons (ps_set (i := 2) sc_law.nd rfl (.inl rfl) (pe_call C__law_dice.G hr1 (by rfl) C__law_dice.m C__law_dice.k C__law_dice.b .nil pass0 (pa_cons (pv 0) (pa_cons (pv 1) pa_nil))))
  (pss_one (ps_for PassesOwn.never (by rfl) (pi_range1 (by rfl) T.range_ (pa_cons pe_int pa_nil)) (pg_name (i := 3) sc_law.nd rfl (.inl rfl))
  (pss_one (ps_if (pt_not (pt_val (pe_callG GRt hgd hr (by rfl) mRt kRt bRt (pa_cons (pv 2) pa_nil))))
  (pss_one (ps_ret pe_bl))
  pss_nil))))))
  (pss_cons (ps_set (i := 4) sc_law.nd rfl (.inl rfl) (pe_cmethS (pe_glob (v := .ref C) rfl PC.g rfl) CR M1 GR bR hr6))
  (pss_cons (ps_set (i := 5) sc_law.nd rfl (.inl rfl) (pe_lst (pa_cons (pe_call (E := E0) GCs hr5 (by rfl) mCs kCs bCs .nil passL (pa_cons (pv 4) (pa_cons pe_str pa_nil))) (pa_cons (pe_callTy (strOwn DT.ok hr5 DT.s DT.f DT.b pass0) (by rfl) T.str_ (by decide +kernel) (pa_cons (pe_call (E := E0) GCd hr7 (by rfl) mCd kCd bCd .nil passL (pa_cons (pv 4) (pa_cons (pe_tup (pa_cons (pe_tup (pa_cons pe_int (pa_cons pe_int pa_nil))) (pa_cons pe_int pa_nil))) pa_nil))) pa_nil)) (pa_cons (pe_call (E := E0) GHo hr7 (by rfl) mHo kHo bHo .nil passL (pa_cons (pv 4) (pa_cons (pe_tup (pa_cons (pe_tup (pa_cons pe_int pa_nil)) (pa_cons pe_int pa_nil))) pa_nil))) pa_nil)))))
  (pss_one (ps_ret (pe_cmpR (eqD (K := K) rfl (hu64e hr)) (pv 5) (pe_lst (pa_cons (pe_tup (pa_cons (pe_tup (pa_cons (pe_tup (pa_cons pe_int pa_nil)) (pa_cons pe_int pa_nil))) (pa_cons (pe_tup (pa_cons (pe_tup (pa_cons pe_int pa_nil)) (pa_cons pe_int pa_nil))) pa_nil))) (pa_cons pe_str (pa_cons pe_str pa_nil)))) (nomark _))))))), ?_⟩
    refine ⟨_, rfl, .inl ⟨a, _, rfl, .inl hS, _, _, rfl, _, _, rfl, ?_⟩⟩
    obtain ⟨mm, em, hm⟩ : ∃ m : Int, (if (if ((ns.map V.int).length : Int) < 8 then ((ns.map V.int).length : Int) else 8) > 1 then (if ((ns.map V.int).length : Int) < 8 then ((ns.map V.int).length : Int) else 8) else 1) = m ∧ 0 ≤ m ∧ m ≤ 8 := by
      refine ⟨_, rfl, ?_⟩
      split <;> (try split) <;> omega
    rw [em]
    refine ⟨mm, rfl, by omega, by omega, ?_⟩
    refine for_range (lo := 0) (n := mm.toNat) (fun i σ H2 => (∃ x1 x2 x3 x4 x5, σ = [some (.ref a), x1, x2, x3, x4, x5]) ∧ Same H H2) ⟨⟨none, none, none, none, none, rfl⟩, Same.refl H⟩ ?_ ?_
    · rintro i σ H2 hi ⟨⟨x1, x2, x3, x4, x5, rfl⟩, s2⟩
      refine ⟨_, rfl, _, rfl, a, ns, i, by rw [Int.zero_add]; rfl, s2.seq hS, fun d H3 s3 n3 D3' => ?_⟩
      have nd : H d = none := s2.free n3
      refine ⟨4, rfl, by decide, by decide, ?_⟩
      refine for_range (lo := 0) (n := 4) (fun j σ H4 => (∃ x1 x3 x4 x5, σ = [some (.ref a), x1, some (.ref d), x3, x4, x5]) ∧ Same H H4 ∧ D3 H4 d) ⟨⟨_, _, _, _, rfl⟩, s2.trans s3, D3'⟩ ?_ ?_
      · rintro j σ H4 hj ⟨⟨x1, x3, x4, x5, rfl⟩, s4, D4⟩
        refine ⟨_, rfl, d, rfl, D4, fun H5 g5 => ⟨_, rfl, iteF ?_⟩⟩
        exact ⟨⟨_, _, _, _, rfl⟩, gr_same nd s4 g5, g5.dice⟩
      · rintro σ H4 ⟨⟨x1, x3, x4, x5, rfl⟩, s4, D4⟩
        exact ⟨⟨_, _, _, _, _, rfl⟩, s4⟩
    · rintro σ H2 ⟨⟨x1, x2, x3, x4, x5, rfl⟩, s2⟩
      clear s2
      refine ⟨rfl, lawZ11, lawN11, lawZ11, rfl, by decide +kernel, by decide +kernel, by decide +kernel, by decide +kernel, nokB_ok (by decide +kernel), by decide +kernel, by decide, by decide +kernel, rfl, fun y H4 s4 n4 PR => ?_⟩
      have pr : PrG K C H4 y (nodesOf lawP11) := by
        obtain ⟨dx, p, zs, ex, hs, hN, ho⟩ := PR
        rw [lawN11_eq]
        exact ⟨dx, p, zs, ex, hs, hN, fun n hn => (ho n hn).1⟩
      have hok : plOk lawP11 = true := by decide +kernel
      have hl10 : (nodesOf lawP11).length < 1000 := by rw [lawN11_eq]; decide
      clear s4 n4 PR
      refine ⟨_, rfl, y, lawP11, "keeper", rfl, pr, hok, hl10, .inr rfl, fun r us H5 s5 nr er hu => ?_⟩
      rw [lawC11] at hu
      have pr := pr.sm s5
      clear s5 nr
      refine ⟨_, rfl, lenOk 2, fun t1 n1 => ⟨lenOk 2, fun t2 n2 => ?_⟩⟩
      have z1 : Same H5 (upd H5 t1 (.tup [.int 1, .int 0])) := same_new n1
      have f1 : upd H5 t1 (.tup [.int 1, .int 0]) t1 = some (.tup [.int 1, .int 0]) := upd_same
      generalize upd H5 t1 (.tup [.int 1, .int 0]) = X1 at z1 f1 n2 ⊢
      have z2 : Same X1 (upd X1 t2 (.tup [.ref t1, .int 1])) := same_new n2
      have f2 : upd X1 t2 (.tup [.ref t1, .int 1]) t2 = some (.tup [.ref t1, .int 1]) := upd_same
      generalize upd X1 t2 (.tup [.ref t1, .int 1]) = X2 at z2 f2 ⊢
      have hcA : CallAt K X2 (.ref t2) ([1, 0], 1) := ⟨t2, t1, rfl, SqT.of f2, SqT.of (z2 _ _ f1)⟩
      have pr := pr.sm (z1.trans z2)
      refine ⟨y, lawP11, .ref t2, _, rfl, pr, hok, hl10, call_v hcA, fun pa i k ps p ec hm hq hk => ?_, fun e => ?_⟩
      · have ec := Option.some.inj ec
        have p1 : [1, 0] = pa := natV_inj (Option.some.inj (Prod.mk.inj ec).1)
        have p2 : 1 = i := by
          have z := (Prod.mk.inj ec).2
          injection z with z
          exact Int.ofNat.inj z
        subst p1 p2
        have e1 := subs_fun hm lawIn11
        unfold lawY11 at e1
        injection e1 with e1 e2
        subst e1 e2
        cases (Option.some.inj hq : Pl.leaf "fact" (.str "c") = p)
        refine ⟨by rw [lawM11_eq]; decide +kernel, fun x H6 s6 n6 pr6 => ?_⟩
        rw [lawM11_eq] at pr6
        obtain ⟨dx, pN, xsN, ex, hsN, hN, hG⟩ := id pr6
        refine ⟨x, dx, _, rfl, ex, x, lawM11, "([!b + !c] | (c & [b * c]))", rfl, ⟨dx, pN, xsN, ex, hsN, hN, nokB_ok (by decide +kernel)⟩, by decide +kernel, by decide, by decide +kernel, fun H7 s7 => ⟨_, rfl, ?_⟩⟩
        have pr := pr.sm (s6.trans s7)
        have s37 := z1.trans (z2.trans (s6.trans s7))
        have er := s37 _ _ er
        have hu := hu.tk (stk s37)
        clear s37 s6 s7 n6 pr6 ex hsN hN hG hcA f1 f2 z1 z2 n1 n2
        refine ⟨_, rfl, lenOk 1, fun t3 n3 => ⟨lenOk 2, fun t4 n4 => ?_⟩⟩
        have z1 : Same H7 (upd H7 t3 (.tup [.int 0])) := same_new n3
        have f1 : upd H7 t3 (.tup [.int 0]) t3 = some (.tup [.int 0]) := upd_same
        generalize upd H7 t3 (.tup [.int 0]) = X3 at z1 f1 n4 ⊢
        have z2 : Same X3 (upd X3 t4 (.tup [.ref t3, .int 1])) := same_new n4
        have f2 : upd X3 t4 (.tup [.ref t3, .int 1]) t4 = some (.tup [.ref t3, .int 1]) := upd_same
        generalize upd X3 t4 (.tup [.ref t3, .int 1]) = X4 at z2 f2 ⊢
        have hcA : CallAt K X4 (.ref t4) ([0], 1) := ⟨t4, t3, rfl, SqT.of f2, SqT.of (z2 _ _ f1)⟩
        have pr := pr.sm (z1.trans z2)
        refine ⟨y, lawP11, .ref t4, _, rfl, pr, hok, hl10, call_v hcA, fun _ => ?_, fun e => by rw [lawH11] at e; cases e⟩
        rw [lawH11]
        refine ⟨lenOk 3, fun l1 nl1 => ?_⟩
        have z3 : Same X4 (upd X4 l1 (.lst [.ref r, .str "([!b + !c] | (c & [b * c]))", .str "keeper"])) := same_new nl1
        have f3 : upd X4 l1 (.lst [.ref r, .str "([!b + !c] | (c & [b * c]))", .str "keeper"]) l1 = some (.lst [.ref r, .str "([!b + !c] | (c & [b * c]))", .str "keeper"]) := upd_same
        have s3 := z1.trans (z2.trans z3)
        have er := s3 _ _ er
        have hu := hu.tk (stk s3)
        generalize upd X4 l1 (.lst [.ref r, .str "([!b + !c] | (c & [b * c]))", .str "keeper"]) = X5 at f3 er hu ⊢
        clear z1 z2 z3 s3 f1 f2 hcA n3 n4 nl1 pr
        refine ⟨_, rfl, lenOk 1, fun a1 n1 => ⟨lenOk 2, fun a2 n2 => ⟨lenOk 1, fun a3 n3 => ⟨lenOk 2, fun a4 n4 => ⟨lenOk 2, fun a5 n5 => ⟨lenOk 3, fun lo nlo => ?_⟩⟩⟩⟩⟩⟩
        have c1 := same_new (o := .tup [.int 0]) n1
        have c2 := same_new (o := .tup [.ref a1, .int 0]) n2
        have c3 := same_new (o := .tup [.int 0]) n3
        have c4 := same_new (o := .tup [.ref a3, .int 1]) n4
        have c5 := same_new (o := .tup [.ref a2, .ref a4]) n5
        have c6 := same_new (o := .lst [.ref a5, .str "([!b + !c] | (c & [b * c]))", .str "keeper"]) nlo
        have d5 := c5.trans c6
        have d4 := c4.trans d5
        have d3 := c3.trans d4
        have d2 := c2.trans d3
        have d1 := c1.trans d2
        refine ⟨lawD11, lawD11, ?_, ?_, lawD11_sh, lawD11_sh, ?_⟩
        · exact .lst (SqL.of (d1 _ _ f3)) (.cons (.tup (SqT.of (d1 _ _ er)) (dp_calls (hu.tk (stk d1)))) (.cons (.str _) (.cons (.str _) .nil)))
        · have k1 : CallAt K _ (.ref a2) ([0], 0) := ⟨a2, a1, rfl, (stk d3).seq (SqT.of upd_same), (stk d2).seq (SqT.of upd_same)⟩
          have k2 : CallAt K _ (.ref a4) ([0], 1) := ⟨a4, a3, rfl, (stk d5).seq (SqT.of upd_same), (stk d4).seq (SqT.of upd_same)⟩
          exact .lst (SqL.of upd_same) (.cons (.tup ((stk c6).seq (SqT.of upd_same)) (.cons (dp_call k1) (.cons (dp_call k2) .nil))) (.cons (.str _) (.cons (.str _) .nil)))
        rw [eqv_self lawD11_sh]
        exact q _
      · have hh := handPl_call (pl := lawP11) (pa := [1, 0]) (i := 1) (hd := "caller") hok hl10 (.inl rfl) lawIn11 (by decide)
        have e : handPl lawP11 (some (some ([1, 0].map natV), .int ((1 : Nat) : Int))) = .non := e
        rw [hh] at e
        cases e
end
end Eh
set_option Elab.async false
set_option linter.all false
set_option maxRecDepth 100000
set_option maxHeartbeats 8000000
set_option pp.deepTerms false
set_option pp.maxSteps 30
namespace Eh
open PySem PySem.Spec PyProof.Rows L2
theorem kit_no {K : PySem.W.Frag} {C CS : Addr} (i : PySem.W.isClsIn K CS = true) (t : PySem.W.typeIn K (.ref CS) = some (.type "type")) (s : PySem.W.subIn K (.ref C) (.ref CS) = some false) (n : (C == CS) = false) : PySem.W.kitOne K (.ref C) (.ref CS) = some false := by
  unfold PySem.W.kitOne
  rw [if_neg (fun z => by
    have e : C = CS := by injection (beq_iff_eq.mp z)
    rw [e, beq_self_eq_true] at n
    cases n)]
  have j : ((PySem.W.clsIn K CS).isSome && PySem.W.typeIn K (.ref CS) == some (.type "type")) = true := by
    rw [show (PySem.W.clsIn K CS).isSome = true from i, t]
    decide
  exact (if_pos j).trans s
theorem called_mk {K : PySem.W.Frag} {w : World} {mg : Str → Option Value} {p : Addr} {n : Nat} {h1 h2 : Int} {t1 u1 t2 u2 : Tok} (g : mg "CALLED" = some (.ref p))
    (l : K.lookup p = some ⟨.type "dict", none, .dict #[⟨h1, .str "caller" t1, .str "yours" u1⟩, ⟨h2, .str "keeper" t2, .str "mine" u2⟩] n, #[]⟩)
    (hh : PySem.W.KeysLit w.params [⟨h1, .str "caller" t1, .str "yours" u1⟩, ⟨h2, .str "keeper" t2, .str "mine" u2⟩]) : CalledAt K w mg p := by
  have e (z : Str) (v : Value) (h : (match List.find? (fun x => x.key.isStr z) ([⟨h1, .str "caller" t1, .str "yours" u1⟩, ⟨h2, .str "keeper" t2, .str "mine" u2⟩] : List DictEntry) with
          | some e => some (some e.val)
          | none => if (List.any ([⟨h1, .str "caller" t1, .str "yours" u1⟩, ⟨h2, .str "keeper" t2, .str "mine" u2⟩] : List DictEntry) fun x => x.refKey) = true then none else some none) = some (some v)) : PySem.W.nsIn K p z = some (some v) := by
    unfold PySem.W.nsIn
    rw [l]
    exact h
  exact ⟨g, ⟨_, n, .str "yours" u1, l, hh, e _ _ (by kernel_rfl), ⟨u1, rfl⟩⟩, ⟨_, n, .str "mine" u2, l, hh, e _ _ (by kernel_rfl), ⟨u2, rfl⟩⟩⟩
theorem all_mk {l : PySem.W.OpenLaw} {w : World} {K : PySem.W.Frag} {h : Heap} {mg : Str → Option Value} {fa : Addr} (X : K.In h) (G : h.Ns mainGlobals mg) (hfa : mg "law" = some (.ref fa))
    {t_MAX_LETTERS : Tok} (i_MAX_LETTERS : PySem.W.nsIn K mainGlobals "MAX_LETTERS" = some (some (.int 8 t_MAX_LETTERS)))
    {t_LEAST_PARTS : Tok} (i_LEAST_PARTS : PySem.W.nsIn K mainGlobals "LEAST_PARTS" = some (some (.int 2 t_LEAST_PARTS)))
    {t_MOST_PARTS : Tok} (i_MOST_PARTS : PySem.W.nsIn K mainGlobals "MOST_PARTS" = some (some (.int 4 t_MOST_PARTS)))
    {t_MAX_NODES : Tok} (i_MAX_NODES : PySem.W.nsIn K mainGlobals "MAX_NODES" = some (some (.int 40 t_MAX_NODES)))
    {t_MAX_FACTS : Tok} (i_MAX_FACTS : PySem.W.nsIn K mainGlobals "MAX_FACTS" = some (some (.int 6 t_MAX_FACTS)))
    {t_MAX_CHOICES : Tok} (i_MAX_CHOICES : PySem.W.nsIn K mainGlobals "MAX_CHOICES" = some (some (.int 10 t_MAX_CHOICES)))
    {t_MAX_DEPTH : Tok} (i_MAX_DEPTH : PySem.W.nsIn K mainGlobals "MAX_DEPTH" = some (some (.int 8 t_MAX_DEPTH)))
    {E_InvalidPromise : Addr} (x1_InvalidPromise : PySem.W.nsIn K mainGlobals "InvalidPromise" = some (some (.ref E_InvalidPromise)))
    (x2_InvalidPromise : PySem.W.excIn K E_InvalidPromise [.type "ValueError", .type "Exception", .type "BaseException", .type "object"] "ValueError.__new__" = true)
    (x3_InvalidPromise : PySem.W.keepIn K (.ref E_InvalidPromise) = true) (x4_InvalidPromise : PySem.W.subIn K (.ref E_InvalidPromise) (.type "BaseException") = some true) (x5_InvalidPromise : PySem.W.typeIn K (.ref E_InvalidPromise) = some (.type "type")) (x6_InvalidPromise : PySem.W.isClsIn K E_InvalidPromise = true) (x7_InvalidPromise : PySem.W.subIn K (.ref E_InvalidPromise) (.ref E_InvalidPromise) = some true)
    {E_InvalidCall : Addr} (x1_InvalidCall : PySem.W.nsIn K mainGlobals "InvalidCall" = some (some (.ref E_InvalidCall)))
    (x2_InvalidCall : PySem.W.excIn K E_InvalidCall [.type "ValueError", .type "Exception", .type "BaseException", .type "object"] "ValueError.__new__" = true)
    (x3_InvalidCall : PySem.W.keepIn K (.ref E_InvalidCall) = true) (x4_InvalidCall : PySem.W.subIn K (.ref E_InvalidCall) (.type "BaseException") = some true) (x5_InvalidCall : PySem.W.typeIn K (.ref E_InvalidCall) = some (.type "type")) (x6_InvalidCall : PySem.W.isClsIn K E_InvalidCall = true) (x7_InvalidCall : PySem.W.subIn K (.ref E_InvalidCall) (.ref E_InvalidCall) = some true)
    {E_InvalidOperation : Addr} (x1_InvalidOperation : PySem.W.nsIn K mainGlobals "InvalidOperation" = some (some (.ref E_InvalidOperation)))
    (x2_InvalidOperation : PySem.W.excIn K E_InvalidOperation [.type "ValueError", .type "Exception", .type "BaseException", .type "object"] "ValueError.__new__" = true)
    (x3_InvalidOperation : PySem.W.keepIn K (.ref E_InvalidOperation) = true) (x4_InvalidOperation : PySem.W.subIn K (.ref E_InvalidOperation) (.type "BaseException") = some true) (x5_InvalidOperation : PySem.W.typeIn K (.ref E_InvalidOperation) = some (.type "type")) (x6_InvalidOperation : PySem.W.isClsIn K E_InvalidOperation = true) (x7_InvalidOperation : PySem.W.subIn K (.ref E_InvalidOperation) (.ref E_InvalidOperation) = some true)
    {C : Addr} (gC : PySem.W.nsIn K mainGlobals "Promise" = some (some (.ref C))) (pg : PySem.W.plainGet K C Str.empty = true) (hd : PySem.W.hasDictIn K C = true) (po : PySem.W.plainOver K C = true) (sa : PySem.W.findIn K (.ref C) "__setattr__" = some (some (.builtin "object.__setattr__"))) (mk : PySem.W.makesIn K C = true) (kc : PySem.W.keepIn K (.ref C) = true) (nN : PySem.W.findIn K (.ref C) "_nodes" = some none)
    {g_Promise___init__ : Addr} (a_Promise___init__ : PySem.W.findIn K (.ref C) "__init__" = some (some (.ref g_Promise___init__))) (i_Promise___init__ : PySem.W.isFn K (.ref g_Promise___init__) = true)
    {od_Promise___init__ an_Promise___init__ : Option Addr} {sl_Promise___init__ : Array (Option Value)} {oc_Promise___init__ kV_Promise___init__ dc_Promise___init__ pm_Promise___init__ ct_Promise___init__ : Value} {cd_Promise___init__ : Value} (l_Promise___init__ : K.lookup g_Promise___init__ = some ⟨oc_Promise___init__, od_Promise___init__, .func (PySem.W.fnOf "__init__" "Promise.__init__" (defArgs s_Promise___init__) (defBody s_Promise___init__) (defScope s_Promise___init__) .none kV_Promise___init__ dc_Promise___init__ pm_Promise___init__ an_Promise___init__ cd_Promise___init__ ct_Promise___init__), sl_Promise___init__⟩) (c_Promise___init__ : PySem.W.codeIn K cd_Promise___init__ "Promise.__init__" = true) (k_Promise___init__ : PySem.W.keepIn K (.ref g_Promise___init__) = true)
    {g_Promise___len__ : Addr} (a_Promise___len__ : PySem.W.findIn K (.ref C) "__len__" = some (some (.ref g_Promise___len__))) (i_Promise___len__ : PySem.W.isFn K (.ref g_Promise___len__) = true)
    {od_Promise___len__ an_Promise___len__ : Option Addr} {sl_Promise___len__ : Array (Option Value)} {oc_Promise___len__ kV_Promise___len__ dc_Promise___len__ pm_Promise___len__ ct_Promise___len__ : Value} {cd_Promise___len__ : Value} (l_Promise___len__ : K.lookup g_Promise___len__ = some ⟨oc_Promise___len__, od_Promise___len__, .func (PySem.W.fnOf "__len__" "Promise.__len__" (defArgs s_Promise___len__) (defBody s_Promise___len__) (defScope s_Promise___len__) .none kV_Promise___len__ dc_Promise___len__ pm_Promise___len__ an_Promise___len__ cd_Promise___len__ ct_Promise___len__), sl_Promise___len__⟩) (c_Promise___len__ : PySem.W.codeIn K cd_Promise___len__ "Promise.__len__" = true) (k_Promise___len__ : PySem.W.keepIn K (.ref g_Promise___len__) = true)
    (ic1 : PySem.W.findIn K (.ref C) "__class__" = some (some (.builtin "object.__class__"))) (ic2 : PySem.W.specialIn K (.builtin "object.__class__") "__get__" = some (some (.builtin "getset_descriptor.__get__"))) (ic3 : PySem.W.takesIn K (.builtin "object.__class__") = some true) (ic4 : PySem.W.mroIn K C (.type "object") = some true) (ic5 : PySem.W.typeIn K (.ref C) = some (.type "type")) (ic6 : PySem.W.isClsIn K C = true)
    (os1 : PySem.W.subIn K (.ref C) (.type "NoneType") = some false) (os2 : PySem.W.subIn K (.ref C) (.type "bool") = some false) (os3 : PySem.W.subIn K (.ref C) (.type "int") = some false) (os4 : PySem.W.subIn K (.ref C) (.type "str") = some false) (os5 : PySem.W.subIn K (.ref C) (.type "tuple") = some false) (os6 : PySem.W.subIn K (.ref C) (.type "dict") = some false)
    {pS : Addr} {nS : Nat} {Sh1 Sh2 Sh3 Sh4 : Int} {St1 Su1 St2 Su2 St3 Su3 St4 Su4 : Tok} (yS1 : PySem.W.nsIn K mainGlobals "SIGNS" = some (some (.ref pS))) (yS2 : K.lookup pS = some ⟨.type "dict", none, .dict #[⟨Sh1, .str "all" St1, .str " & " Su1⟩, ⟨Sh2, .str "mine" St2, .str " + " Su2⟩, ⟨Sh3, .str "some" St3, .str " | " Su3⟩, ⟨Sh4, .str "yours" St4, .str " * " Su4⟩] nS, #[]⟩)
    (yS3 : PySem.W.KeysLit w.params [⟨Sh1, .str "all" St1, .str " & " Su1⟩, ⟨Sh2, .str "mine" St2, .str " + " Su2⟩, ⟨Sh3, .str "some" St3, .str " | " Su3⟩, ⟨Sh4, .str "yours" St4, .str " * " Su4⟩])
    (yS4 : (pS == sysModules) = false)
    {pD : Addr} {nD : Nat} {Dh1 Dh2 Dh3 Dh4 : Int} {Dt1 Du1 Dt2 Du2 Dt3 Du3 Dt4 Du4 : Tok} (yD1 : PySem.W.nsIn K mainGlobals "SIGNED" = some (some (.ref pD))) (yD2 : K.lookup pD = some ⟨.type "dict", none, .dict #[⟨Dh1, .str "&" Dt1, .str "all" Du1⟩, ⟨Dh2, .str "+" Dt2, .str "mine" Du2⟩, ⟨Dh3, .str "|" Dt3, .str "some" Du3⟩, ⟨Dh4, .str "*" Dt4, .str "yours" Du4⟩] nD, #[]⟩)
    (yD3 : PySem.W.KeysLit w.params [⟨Dh1, .str "&" Dt1, .str "all" Du1⟩, ⟨Dh2, .str "+" Dt2, .str "mine" Du2⟩, ⟨Dh3, .str "|" Dt3, .str "some" Du3⟩, ⟨Dh4, .str "*" Dt4, .str "yours" Du4⟩])
    (yD4 : (pD == sysModules) = false)
    {pW : Addr} {oW : Option Addr} {nW : Nat} {sW : Array (Option Value)} {tW0 tW1 : Tok} (yW1 : PySem.W.nsIn K mainGlobals "OPEN" = some (some (.ref pW))) (yW2 : K.lookup pW = some ⟨.type "tuple", oW, .seq #[.str "all" tW0, .str "some" tW1] nW, sW⟩)
    {pV : Addr} {oV : Option Addr} {nV : Nat} {sV : Array (Option Value)} {tV0 tV1 : Tok} (yV1 : PySem.W.nsIn K mainGlobals "HANDS" = some (some (.ref pV))) (yV2 : K.lookup pV = some ⟨.type "tuple", oV, .seq #[.str "caller" tV0, .str "keeper" tV1] nV, sV⟩)
    {pA : Addr} {nA : Nat} {Ah1 Ah2 : Int} {At1 Au1 At2 Au2 : Tok} (yA1 : PySem.W.nsIn K mainGlobals "CALLED" = some (some (.ref pA))) (yA2 : K.lookup pA = some ⟨.type "dict", none, .dict #[⟨Ah1, .str "caller" At1, .str "yours" Au1⟩, ⟨Ah2, .str "keeper" At2, .str "mine" Au2⟩] nA, #[]⟩)
    (yA3 : PySem.W.KeysLit w.params [⟨Ah1, .str "caller" At1, .str "yours" Au1⟩, ⟨Ah2, .str "keeper" At2, .str "mine" Au2⟩])
    (hNe : PySem.W.findIn K (.ref C) "__ne__" = some (some (.builtin "object.__ne__")))
    {CS : Addr} (gS : PySem.W.nsIn K mainGlobals "Surface" = some (some (.ref CS))) (pgS : PySem.W.plainGet K CS Str.empty = true) (hdS : PySem.W.hasDictIn K CS = true) (poS : PySem.W.plainOver K CS = true) (saS : PySem.W.findIn K (.ref CS) "__setattr__" = some (some (.builtin "object.__setattr__"))) (mkS : PySem.W.makesIn K CS = true) (kcS : PySem.W.keepIn K (.ref CS) = true) (npS : PySem.W.findIn K (.ref CS) "_places" = some none) (nqS : PySem.W.findIn K (.ref CS) "_promise" = some none)
    {g_Surface___init__ : Addr} (a_Surface___init__ : PySem.W.findIn K (.ref CS) "__init__" = some (some (.ref g_Surface___init__))) (i_Surface___init__ : PySem.W.isFn K (.ref g_Surface___init__) = true)
    {od_Surface___init__ an_Surface___init__ : Option Addr} {sl_Surface___init__ : Array (Option Value)} {oc_Surface___init__ kV_Surface___init__ dc_Surface___init__ pm_Surface___init__ ct_Surface___init__ : Value} {cd_Surface___init__ : Value} (l_Surface___init__ : K.lookup g_Surface___init__ = some ⟨oc_Surface___init__, od_Surface___init__, .func (PySem.W.fnOf "__init__" "Surface.__init__" (defArgs s_Surface___init__) (defBody s_Surface___init__) (defScope s_Surface___init__) .none kV_Surface___init__ dc_Surface___init__ pm_Surface___init__ an_Surface___init__ cd_Surface___init__ ct_Surface___init__), sl_Surface___init__⟩) (c_Surface___init__ : PySem.W.codeIn K cd_Surface___init__ "Surface.__init__" = true) (k_Surface___init__ : PySem.W.keepIn K (.ref g_Surface___init__) = true)
    (jc1 : PySem.W.findIn K (.ref CS) "__class__" = some (some (.builtin "object.__class__"))) (jc4 : PySem.W.mroIn K CS (.type "object") = some true) (jc5 : PySem.W.typeIn K (.ref CS) = some (.type "type")) (jc6 : PySem.W.isClsIn K CS = true) (hNeS : PySem.W.findIn K (.ref CS) "__ne__" = some (some (.builtin "object.__ne__"))) (hsub : PySem.W.subIn K (.ref C) (.ref CS) = some false)
    (nCS : (C == CS) = false)
    {f__law_roll : Addr} (a__law_roll : PySem.W.nsIn K mainGlobals "_law_roll" = some (some (.ref f__law_roll)))
    {od__law_roll an__law_roll : Option Addr} {sl__law_roll : Array (Option Value)} {oc__law_roll kV__law_roll dc__law_roll pm__law_roll ct__law_roll : Value} {cd__law_roll : Value} (l__law_roll : K.lookup f__law_roll = some ⟨oc__law_roll, od__law_roll, .func (PySem.W.fnOf "_law_roll" "_law_roll" (defArgs s__law_roll) (defBody s__law_roll) (defScope s__law_roll) .none kV__law_roll dc__law_roll pm__law_roll an__law_roll cd__law_roll ct__law_roll), sl__law_roll⟩) (c__law_roll : PySem.W.codeIn K cd__law_roll "_law_roll" = true) (k__law_roll : PySem.W.keepIn K (.ref f__law_roll) = true)
    {f__law_pick : Addr} (a__law_pick : PySem.W.nsIn K mainGlobals "_law_pick" = some (some (.ref f__law_pick)))
    {od__law_pick an__law_pick : Option Addr} {sl__law_pick : Array (Option Value)} {oc__law_pick kV__law_pick dc__law_pick pm__law_pick ct__law_pick : Value} {cd__law_pick : Value} (l__law_pick : K.lookup f__law_pick = some ⟨oc__law_pick, od__law_pick, .func (PySem.W.fnOf "_law_pick" "_law_pick" (defArgs s__law_pick) (defBody s__law_pick) (defScope s__law_pick) .none kV__law_pick dc__law_pick pm__law_pick an__law_pick cd__law_pick ct__law_pick), sl__law_pick⟩) (c__law_pick : PySem.W.codeIn K cd__law_pick "_law_pick" = true) (k__law_pick : PySem.W.keepIn K (.ref f__law_pick) = true)
    {f__law_some : Addr} (a__law_some : PySem.W.nsIn K mainGlobals "_law_some" = some (some (.ref f__law_some)))
    {od__law_some an__law_some : Option Addr} {sl__law_some : Array (Option Value)} {oc__law_some kV__law_some dc__law_some pm__law_some ct__law_some : Value} {cd__law_some : Value} (l__law_some : K.lookup f__law_some = some ⟨oc__law_some, od__law_some, .func (PySem.W.fnOf "_law_some" "_law_some" (defArgs s__law_some) (defBody s__law_some) (defScope s__law_some) .none kV__law_some dc__law_some pm__law_some an__law_some cd__law_some ct__law_some), sl__law_some⟩) (c__law_some : PySem.W.codeIn K cd__law_some "_law_some" = true) (k__law_some : PySem.W.keepIn K (.ref f__law_some) = true)
    {f__law_dice : Addr} (a__law_dice : PySem.W.nsIn K mainGlobals "_law_dice" = some (some (.ref f__law_dice)))
    {od__law_dice an__law_dice : Option Addr} {sl__law_dice : Array (Option Value)} {oc__law_dice kV__law_dice dc__law_dice pm__law_dice ct__law_dice : Value} {cd__law_dice : Value} (l__law_dice : K.lookup f__law_dice = some ⟨oc__law_dice, od__law_dice, .func (PySem.W.fnOf "_law_dice" "_law_dice" (defArgs s__law_dice) (defBody s__law_dice) (defScope s__law_dice) .none kV__law_dice dc__law_dice pm__law_dice an__law_dice cd__law_dice ct__law_dice), sl__law_dice⟩) (c__law_dice : PySem.W.codeIn K cd__law_dice "_law_dice" = true) (k__law_dice : PySem.W.keepIn K (.ref f__law_dice) = true)
    {f_is_integer : Addr} (a_is_integer : PySem.W.nsIn K mainGlobals "is_integer" = some (some (.ref f_is_integer)))
    {od_is_integer an_is_integer : Option Addr} {sl_is_integer : Array (Option Value)} {oc_is_integer kV_is_integer dc_is_integer pm_is_integer ct_is_integer : Value} {cd_is_integer : Value} (l_is_integer : K.lookup f_is_integer = some ⟨oc_is_integer, od_is_integer, .func (PySem.W.fnOf "is_integer" "is_integer" (defArgs s_is_integer) (defBody s_is_integer) (defScope s_is_integer) .none kV_is_integer dc_is_integer pm_is_integer an_is_integer cd_is_integer ct_is_integer), sl_is_integer⟩) (c_is_integer : PySem.W.codeIn K cd_is_integer "is_integer" = true) (k_is_integer : PySem.W.keepIn K (.ref f_is_integer) = true)
    {f_is_fact : Addr} (a_is_fact : PySem.W.nsIn K mainGlobals "is_fact" = some (some (.ref f_is_fact)))
    {od_is_fact an_is_fact : Option Addr} {sl_is_fact : Array (Option Value)} {oc_is_fact kV_is_fact dc_is_fact pm_is_fact ct_is_fact : Value} {cd_is_fact : Value} (l_is_fact : K.lookup f_is_fact = some ⟨oc_is_fact, od_is_fact, .func (PySem.W.fnOf "is_fact" "is_fact" (defArgs s_is_fact) (defBody s_is_fact) (defScope s_is_fact) .none kV_is_fact dc_is_fact pm_is_fact an_is_fact cd_is_fact ct_is_fact), sl_is_fact⟩) (c_is_fact : PySem.W.codeIn K cd_is_fact "is_fact" = true) (k_is_fact : PySem.W.keepIn K (.ref f_is_fact) = true)
    {f_is_node : Addr} (a_is_node : PySem.W.nsIn K mainGlobals "is_node" = some (some (.ref f_is_node)))
    {od_is_node an_is_node : Option Addr} {sl_is_node : Array (Option Value)} {oc_is_node kV_is_node dc_is_node pm_is_node ct_is_node : Value} {cd_is_node : Value} (l_is_node : K.lookup f_is_node = some ⟨oc_is_node, od_is_node, .func (PySem.W.fnOf "is_node" "is_node" (defArgs s_is_node) (defBody s_is_node) (defScope s_is_node) .none kV_is_node dc_is_node pm_is_node an_is_node cd_is_node ct_is_node), sl_is_node⟩) (c_is_node : PySem.W.codeIn K cd_is_node "is_node" = true) (k_is_node : PySem.W.keepIn K (.ref f_is_node) = true)
    {f_depth_of : Addr} (a_depth_of : PySem.W.nsIn K mainGlobals "depth_of" = some (some (.ref f_depth_of)))
    {od_depth_of an_depth_of : Option Addr} {sl_depth_of : Array (Option Value)} {oc_depth_of kV_depth_of dc_depth_of pm_depth_of ct_depth_of : Value} {cd_depth_of : Value} (l_depth_of : K.lookup f_depth_of = some ⟨oc_depth_of, od_depth_of, .func (PySem.W.fnOf "depth_of" "depth_of" (defArgs s_depth_of) (defBody s_depth_of) (defScope s_depth_of) .none kV_depth_of dc_depth_of pm_depth_of an_depth_of cd_depth_of ct_depth_of), sl_depth_of⟩) (c_depth_of : PySem.W.codeIn K cd_depth_of "depth_of" = true) (k_depth_of : PySem.W.keepIn K (.ref f_depth_of) = true)
    {f_facts_of : Addr} (a_facts_of : PySem.W.nsIn K mainGlobals "facts_of" = some (some (.ref f_facts_of)))
    {od_facts_of an_facts_of : Option Addr} {sl_facts_of : Array (Option Value)} {oc_facts_of kV_facts_of dc_facts_of pm_facts_of ct_facts_of : Value} {cd_facts_of : Value} (l_facts_of : K.lookup f_facts_of = some ⟨oc_facts_of, od_facts_of, .func (PySem.W.fnOf "facts_of" "facts_of" (defArgs s_facts_of) (defBody s_facts_of) (defScope s_facts_of) .none kV_facts_of dc_facts_of pm_facts_of an_facts_of cd_facts_of ct_facts_of), sl_facts_of⟩) (c_facts_of : PySem.W.codeIn K cd_facts_of "facts_of" = true) (k_facts_of : PySem.W.keepIn K (.ref f_facts_of) = true)
    {f_choices_of : Addr} (a_choices_of : PySem.W.nsIn K mainGlobals "choices_of" = some (some (.ref f_choices_of)))
    {od_choices_of an_choices_of : Option Addr} {sl_choices_of : Array (Option Value)} {oc_choices_of kV_choices_of dc_choices_of pm_choices_of ct_choices_of : Value} {cd_choices_of : Value} (l_choices_of : K.lookup f_choices_of = some ⟨oc_choices_of, od_choices_of, .func (PySem.W.fnOf "choices_of" "choices_of" (defArgs s_choices_of) (defBody s_choices_of) (defScope s_choices_of) .none kV_choices_of dc_choices_of pm_choices_of an_choices_of cd_choices_of ct_choices_of), sl_choices_of⟩) (c_choices_of : PySem.W.codeIn K cd_choices_of "choices_of" = true) (k_choices_of : PySem.W.keepIn K (.ref f_choices_of) = true)
    {f__are_nodes : Addr} (a__are_nodes : PySem.W.nsIn K mainGlobals "_are_nodes" = some (some (.ref f__are_nodes)))
    {od__are_nodes an__are_nodes : Option Addr} {sl__are_nodes : Array (Option Value)} {oc__are_nodes kV__are_nodes dc__are_nodes pm__are_nodes ct__are_nodes : Value} {cd__are_nodes : Value} (l__are_nodes : K.lookup f__are_nodes = some ⟨oc__are_nodes, od__are_nodes, .func (PySem.W.fnOf "_are_nodes" "_are_nodes" (defArgs s__are_nodes) (defBody s__are_nodes) (defScope s__are_nodes) .none kV__are_nodes dc__are_nodes pm__are_nodes an__are_nodes cd__are_nodes ct__are_nodes), sl__are_nodes⟩) (c__are_nodes : PySem.W.codeIn K cd__are_nodes "_are_nodes" = true) (k__are_nodes : PySem.W.keepIn K (.ref f__are_nodes) = true)
    {f__law_is_leaf : Addr} (a__law_is_leaf : PySem.W.nsIn K mainGlobals "_law_is_leaf" = some (some (.ref f__law_is_leaf)))
    {od__law_is_leaf an__law_is_leaf : Option Addr} {sl__law_is_leaf : Array (Option Value)} {oc__law_is_leaf kV__law_is_leaf dc__law_is_leaf pm__law_is_leaf ct__law_is_leaf : Value} {cd__law_is_leaf : Value} (l__law_is_leaf : K.lookup f__law_is_leaf = some ⟨oc__law_is_leaf, od__law_is_leaf, .func (PySem.W.fnOf "_law_is_leaf" "_law_is_leaf" (defArgs s__law_is_leaf) (defBody s__law_is_leaf) (defScope s__law_is_leaf) .none kV__law_is_leaf dc__law_is_leaf pm__law_is_leaf an__law_is_leaf cd__law_is_leaf ct__law_is_leaf), sl__law_is_leaf⟩) (c__law_is_leaf : PySem.W.codeIn K cd__law_is_leaf "_law_is_leaf" = true) (k__law_is_leaf : PySem.W.keepIn K (.ref f__law_is_leaf) = true)
    {f__law_leaf : Addr} (a__law_leaf : PySem.W.nsIn K mainGlobals "_law_leaf" = some (some (.ref f__law_leaf)))
    {od__law_leaf an__law_leaf : Option Addr} {sl__law_leaf : Array (Option Value)} {oc__law_leaf kV__law_leaf dc__law_leaf pm__law_leaf ct__law_leaf : Value} {cd__law_leaf : Value} (l__law_leaf : K.lookup f__law_leaf = some ⟨oc__law_leaf, od__law_leaf, .func (PySem.W.fnOf "_law_leaf" "_law_leaf" (defArgs s__law_leaf) (defBody s__law_leaf) (defScope s__law_leaf) .none kV__law_leaf dc__law_leaf pm__law_leaf an__law_leaf cd__law_leaf ct__law_leaf), sl__law_leaf⟩) (c__law_leaf : PySem.W.codeIn K cd__law_leaf "_law_leaf" = true) (k__law_leaf : PySem.W.keepIn K (.ref f__law_leaf) = true)
    {f__law_nodes : Addr} (a__law_nodes : PySem.W.nsIn K mainGlobals "_law_nodes" = some (some (.ref f__law_nodes)))
    {od__law_nodes an__law_nodes : Option Addr} {sl__law_nodes : Array (Option Value)} {oc__law_nodes kV__law_nodes dc__law_nodes pm__law_nodes ct__law_nodes : Value} {cd__law_nodes : Value} (l__law_nodes : K.lookup f__law_nodes = some ⟨oc__law_nodes, od__law_nodes, .func (PySem.W.fnOf "_law_nodes" "_law_nodes" (defArgs s__law_nodes) (defBody s__law_nodes) (defScope s__law_nodes) .none kV__law_nodes dc__law_nodes pm__law_nodes an__law_nodes cd__law_nodes ct__law_nodes), sl__law_nodes⟩) (c__law_nodes : PySem.W.codeIn K cd__law_nodes "_law_nodes" = true) (k__law_nodes : PySem.W.keepIn K (.ref f__law_nodes) = true)
    {f__law_count : Addr} (a__law_count : PySem.W.nsIn K mainGlobals "_law_count" = some (some (.ref f__law_count)))
    {od__law_count an__law_count : Option Addr} {sl__law_count : Array (Option Value)} {oc__law_count kV__law_count dc__law_count pm__law_count ct__law_count : Value} {cd__law_count : Value} (l__law_count : K.lookup f__law_count = some ⟨oc__law_count, od__law_count, .func (PySem.W.fnOf "_law_count" "_law_count" (defArgs s__law_count) (defBody s__law_count) (defScope s__law_count) .none kV__law_count dc__law_count pm__law_count an__law_count cd__law_count ct__law_count), sl__law_count⟩) (c__law_count : PySem.W.codeIn K cd__law_count "_law_count" = true) (k__law_count : PySem.W.keepIn K (.ref f__law_count) = true)
    {f__law_drawn : Addr} (a__law_drawn : PySem.W.nsIn K mainGlobals "_law_drawn" = some (some (.ref f__law_drawn)))
    {od__law_drawn an__law_drawn : Option Addr} {sl__law_drawn : Array (Option Value)} {oc__law_drawn kV__law_drawn dc__law_drawn pm__law_drawn ct__law_drawn : Value} {cd__law_drawn : Value} (l__law_drawn : K.lookup f__law_drawn = some ⟨oc__law_drawn, od__law_drawn, .func (PySem.W.fnOf "_law_drawn" "_law_drawn" (defArgs s__law_drawn) (defBody s__law_drawn) (defScope s__law_drawn) .none kV__law_drawn dc__law_drawn pm__law_drawn an__law_drawn cd__law_drawn ct__law_drawn), sl__law_drawn⟩) (c__law_drawn : PySem.W.codeIn K cd__law_drawn "_law_drawn" = true) (k__law_drawn : PySem.W.keepIn K (.ref f__law_drawn) = true)
    {f__law_known : Addr} (a__law_known : PySem.W.nsIn K mainGlobals "_law_known" = some (some (.ref f__law_known)))
    {od__law_known an__law_known : Option Addr} {sl__law_known : Array (Option Value)} {oc__law_known kV__law_known dc__law_known pm__law_known ct__law_known : Value} {cd__law_known : Value} (l__law_known : K.lookup f__law_known = some ⟨oc__law_known, od__law_known, .func (PySem.W.fnOf "_law_known" "_law_known" (defArgs s__law_known) (defBody s__law_known) (defScope s__law_known) .none kV__law_known dc__law_known pm__law_known an__law_known cd__law_known ct__law_known), sl__law_known⟩) (c__law_known : PySem.W.codeIn K cd__law_known "_law_known" = true) (k__law_known : PySem.W.keepIn K (.ref f__law_known) = true)
    {f__law_promise : Addr} (a__law_promise : PySem.W.nsIn K mainGlobals "_law_promise" = some (some (.ref f__law_promise)))
    {od__law_promise an__law_promise : Option Addr} {sl__law_promise : Array (Option Value)} {oc__law_promise kV__law_promise dc__law_promise pm__law_promise ct__law_promise : Value} {cd__law_promise : Value} (l__law_promise : K.lookup f__law_promise = some ⟨oc__law_promise, od__law_promise, .func (PySem.W.fnOf "_law_promise" "_law_promise" (defArgs s__law_promise) (defBody s__law_promise) (defScope s__law_promise) .none kV__law_promise dc__law_promise pm__law_promise an__law_promise cd__law_promise ct__law_promise), sl__law_promise⟩) (c__law_promise : PySem.W.codeIn K cd__law_promise "_law_promise" = true) (k__law_promise : PySem.W.keepIn K (.ref f__law_promise) = true)
    {f_is_index : Addr} (a_is_index : PySem.W.nsIn K mainGlobals "is_index" = some (some (.ref f_is_index)))
    {od_is_index an_is_index : Option Addr} {sl_is_index : Array (Option Value)} {oc_is_index kV_is_index dc_is_index pm_is_index ct_is_index : Value} {cd_is_index : Value} (l_is_index : K.lookup f_is_index = some ⟨oc_is_index, od_is_index, .func (PySem.W.fnOf "is_index" "is_index" (defArgs s_is_index) (defBody s_is_index) (defScope s_is_index) .none kV_is_index dc_is_index pm_is_index an_is_index cd_is_index ct_is_index), sl_is_index⟩) (c_is_index : PySem.W.codeIn K cd_is_index "is_index" = true) (k_is_index : PySem.W.keepIn K (.ref f_is_index) = true)
    {f_plain_text : Addr} (a_plain_text : PySem.W.nsIn K mainGlobals "plain_text" = some (some (.ref f_plain_text)))
    {od_plain_text an_plain_text : Option Addr} {sl_plain_text : Array (Option Value)} {oc_plain_text kV_plain_text dc_plain_text pm_plain_text ct_plain_text : Value} {cd_plain_text : Value} (l_plain_text : K.lookup f_plain_text = some ⟨oc_plain_text, od_plain_text, .func (PySem.W.fnOf "plain_text" "plain_text" (defArgs s_plain_text) (defBody s_plain_text) (defScope s_plain_text) .none kV_plain_text dc_plain_text pm_plain_text an_plain_text cd_plain_text ct_plain_text), sl_plain_text⟩) (c_plain_text : PySem.W.codeIn K cd_plain_text "plain_text" = true) (k_plain_text : PySem.W.keepIn K (.ref f_plain_text) = true)
    {f_bracketed : Addr} (a_bracketed : PySem.W.nsIn K mainGlobals "bracketed" = some (some (.ref f_bracketed)))
    {od_bracketed an_bracketed : Option Addr} {sl_bracketed : Array (Option Value)} {oc_bracketed kV_bracketed dc_bracketed pm_bracketed ct_bracketed : Value} {cd_bracketed : Value} (l_bracketed : K.lookup f_bracketed = some ⟨oc_bracketed, od_bracketed, .func (PySem.W.fnOf "bracketed" "bracketed" (defArgs s_bracketed) (defBody s_bracketed) (defScope s_bracketed) .none kV_bracketed dc_bracketed pm_bracketed an_bracketed cd_bracketed ct_bracketed), sl_bracketed⟩) (c_bracketed : PySem.W.codeIn K cd_bracketed "bracketed" = true) (k_bracketed : PySem.W.keepIn K (.ref f_bracketed) = true)
    {f_text_of : Addr} (a_text_of : PySem.W.nsIn K mainGlobals "text_of" = some (some (.ref f_text_of)))
    {od_text_of an_text_of : Option Addr} {sl_text_of : Array (Option Value)} {oc_text_of kV_text_of dc_text_of pm_text_of ct_text_of : Value} {cd_text_of : Value} (l_text_of : K.lookup f_text_of = some ⟨oc_text_of, od_text_of, .func (PySem.W.fnOf "text_of" "text_of" (defArgs s_text_of) (defBody s_text_of) (defScope s_text_of) .none kV_text_of dc_text_of pm_text_of an_text_of cd_text_of ct_text_of), sl_text_of⟩) (c_text_of : PySem.W.codeIn K cd_text_of "text_of" = true) (k_text_of : PySem.W.keepIn K (.ref f_text_of) = true)
    {f__split : Addr} (a__split : PySem.W.nsIn K mainGlobals "_split" = some (some (.ref f__split)))
    {od__split an__split : Option Addr} {sl__split : Array (Option Value)} {oc__split kV__split dc__split pm__split ct__split : Value} {cd__split : Value} (l__split : K.lookup f__split = some ⟨oc__split, od__split, .func (PySem.W.fnOf "_split" "_split" (defArgs s__split) (defBody s__split) (defScope s__split) .none kV__split dc__split pm__split an__split cd__split ct__split), sl__split⟩) (c__split : PySem.W.codeIn K cd__split "_split" = true) (k__split : PySem.W.keepIn K (.ref f__split) = true)
    {f__plain_node : Addr} (a__plain_node : PySem.W.nsIn K mainGlobals "_plain_node" = some (some (.ref f__plain_node)))
    {od__plain_node an__plain_node : Option Addr} {sl__plain_node : Array (Option Value)} {oc__plain_node kV__plain_node dc__plain_node pm__plain_node ct__plain_node : Value} {cd__plain_node : Value} (l__plain_node : K.lookup f__plain_node = some ⟨oc__plain_node, od__plain_node, .func (PySem.W.fnOf "_plain_node" "_plain_node" (defArgs s__plain_node) (defBody s__plain_node) (defScope s__plain_node) .none kV__plain_node dc__plain_node pm__plain_node an__plain_node cd__plain_node ct__plain_node), sl__plain_node⟩) (c__plain_node : PySem.W.codeIn K cd__plain_node "_plain_node" = true) (k__plain_node : PySem.W.keepIn K (.ref f__plain_node) = true)
    {f_nodes_in : Addr} (a_nodes_in : PySem.W.nsIn K mainGlobals "nodes_in" = some (some (.ref f_nodes_in)))
    {od_nodes_in an_nodes_in : Option Addr} {sl_nodes_in : Array (Option Value)} {oc_nodes_in kV_nodes_in dc_nodes_in pm_nodes_in ct_nodes_in : Value} {cd_nodes_in : Value} (l_nodes_in : K.lookup f_nodes_in = some ⟨oc_nodes_in, od_nodes_in, .func (PySem.W.fnOf "nodes_in" "nodes_in" (defArgs s_nodes_in) (defBody s_nodes_in) (defScope s_nodes_in) .none kV_nodes_in dc_nodes_in pm_nodes_in an_nodes_in cd_nodes_in ct_nodes_in), sl_nodes_in⟩) (c_nodes_in : PySem.W.codeIn K cd_nodes_in "nodes_in" = true) (k_nodes_in : PySem.W.keepIn K (.ref f_nodes_in) = true)
    {f_end_of : Addr} (a_end_of : PySem.W.nsIn K mainGlobals "end_of" = some (some (.ref f_end_of)))
    {od_end_of an_end_of : Option Addr} {sl_end_of : Array (Option Value)} {oc_end_of kV_end_of dc_end_of pm_end_of ct_end_of : Value} {cd_end_of : Value} (l_end_of : K.lookup f_end_of = some ⟨oc_end_of, od_end_of, .func (PySem.W.fnOf "end_of" "end_of" (defArgs s_end_of) (defBody s_end_of) (defScope s_end_of) .none kV_end_of dc_end_of pm_end_of an_end_of cd_end_of ct_end_of), sl_end_of⟩) (c_end_of : PySem.W.codeIn K cd_end_of "end_of" = true) (k_end_of : PySem.W.keepIn K (.ref f_end_of) = true)
    {q_Promise_nodes g_Promise_nodes : Addr} {r_Promise_nodes : List Value} (a_Promise_nodes : PySem.W.findIn K (.ref C) "nodes" = some (some (.ref q_Promise_nodes))) (e_Promise_nodes : PySem.W.specialIn K (.ref q_Promise_nodes) "__get__" = some (some (.builtin "property.__get__"))) (t_Promise_nodes : PySem.W.takesIn K (.ref q_Promise_nodes) = some true) (w_Promise_nodes : PySem.W.recIn K q_Promise_nodes "property" = some (.ref g_Promise_nodes :: r_Promise_nodes))
    {od_Promise_nodes an_Promise_nodes : Option Addr} {sl_Promise_nodes : Array (Option Value)} {oc_Promise_nodes kV_Promise_nodes dc_Promise_nodes pm_Promise_nodes ct_Promise_nodes : Value} {cd_Promise_nodes : Value} (l_Promise_nodes : K.lookup g_Promise_nodes = some ⟨oc_Promise_nodes, od_Promise_nodes, .func (PySem.W.fnOf "nodes" "Promise.nodes" (defArgs s_Promise_nodes) (defBody s_Promise_nodes) (defScope s_Promise_nodes) .none kV_Promise_nodes dc_Promise_nodes pm_Promise_nodes an_Promise_nodes cd_Promise_nodes ct_Promise_nodes), sl_Promise_nodes⟩) (c_Promise_nodes : PySem.W.codeIn K cd_Promise_nodes "Promise.nodes" = true) (k_Promise_nodes : PySem.W.keepIn K (.ref g_Promise_nodes) = true)
    {g_Promise___eq__ : Addr} (a_Promise___eq__ : PySem.W.findIn K (.ref C) "__eq__" = some (some (.ref g_Promise___eq__))) (i_Promise___eq__ : PySem.W.isFn K (.ref g_Promise___eq__) = true)
    {od_Promise___eq__ an_Promise___eq__ : Option Addr} {sl_Promise___eq__ : Array (Option Value)} {oc_Promise___eq__ kV_Promise___eq__ dc_Promise___eq__ pm_Promise___eq__ ct_Promise___eq__ : Value} {cd_Promise___eq__ : Value} (l_Promise___eq__ : K.lookup g_Promise___eq__ = some ⟨oc_Promise___eq__, od_Promise___eq__, .func (PySem.W.fnOf "__eq__" "Promise.__eq__" (defArgs s_Promise___eq__) (defBody s_Promise___eq__) (defScope s_Promise___eq__) .none kV_Promise___eq__ dc_Promise___eq__ pm_Promise___eq__ an_Promise___eq__ cd_Promise___eq__ ct_Promise___eq__), sl_Promise___eq__⟩) (c_Promise___eq__ : PySem.W.codeIn K cd_Promise___eq__ "Promise.__eq__" = true) (k_Promise___eq__ : PySem.W.keepIn K (.ref g_Promise___eq__) = true)
    {f__start_along : Addr} (a__start_along : PySem.W.nsIn K mainGlobals "_start_along" = some (some (.ref f__start_along)))
    {od__start_along an__start_along : Option Addr} {sl__start_along : Array (Option Value)} {oc__start_along kV__start_along dc__start_along pm__start_along ct__start_along : Value} {cd__start_along : Value} (l__start_along : K.lookup f__start_along = some ⟨oc__start_along, od__start_along, .func (PySem.W.fnOf "_start_along" "_start_along" (defArgs s__start_along) (defBody s__start_along) (defScope s__start_along) .none kV__start_along dc__start_along pm__start_along an__start_along cd__start_along ct__start_along), sl__start_along⟩) (c__start_along : PySem.W.codeIn K cd__start_along "_start_along" = true) (k__start_along : PySem.W.keepIn K (.ref f__start_along) = true)
    {f_part_from : Addr} (a_part_from : PySem.W.nsIn K mainGlobals "part_from" = some (some (.ref f_part_from)))
    {od_part_from an_part_from : Option Addr} {sl_part_from : Array (Option Value)} {oc_part_from kV_part_from dc_part_from pm_part_from ct_part_from : Value} {cd_part_from : Value} (l_part_from : K.lookup f_part_from = some ⟨oc_part_from, od_part_from, .func (PySem.W.fnOf "part_from" "part_from" (defArgs s_part_from) (defBody s_part_from) (defScope s_part_from) .none kV_part_from dc_part_from pm_part_from an_part_from cd_part_from ct_part_from), sl_part_from⟩) (c_part_from : PySem.W.codeIn K cd_part_from "part_from" = true) (k_part_from : PySem.W.keepIn K (.ref f_part_from) = true)
    {f_exchanged_from : Addr} (a_exchanged_from : PySem.W.nsIn K mainGlobals "exchanged_from" = some (some (.ref f_exchanged_from)))
    {od_exchanged_from an_exchanged_from : Option Addr} {sl_exchanged_from : Array (Option Value)} {oc_exchanged_from kV_exchanged_from dc_exchanged_from pm_exchanged_from ct_exchanged_from : Value} {cd_exchanged_from : Value} (l_exchanged_from : K.lookup f_exchanged_from = some ⟨oc_exchanged_from, od_exchanged_from, .func (PySem.W.fnOf "exchanged_from" "exchanged_from" (defArgs s_exchanged_from) (defBody s_exchanged_from) (defScope s_exchanged_from) .none kV_exchanged_from dc_exchanged_from pm_exchanged_from an_exchanged_from cd_exchanged_from ct_exchanged_from), sl_exchanged_from⟩) (c_exchanged_from : PySem.W.codeIn K cd_exchanged_from "exchanged_from" = true) (k_exchanged_from : PySem.W.keepIn K (.ref f_exchanged_from) = true)
    {f__paths_along : Addr} (a__paths_along : PySem.W.nsIn K mainGlobals "_paths_along" = some (some (.ref f__paths_along)))
    {od__paths_along an__paths_along : Option Addr} {sl__paths_along : Array (Option Value)} {oc__paths_along kV__paths_along dc__paths_along pm__paths_along ct__paths_along : Value} {cd__paths_along : Value} (l__paths_along : K.lookup f__paths_along = some ⟨oc__paths_along, od__paths_along, .func (PySem.W.fnOf "_paths_along" "_paths_along" (defArgs s__paths_along) (defBody s__paths_along) (defScope s__paths_along) .none kV__paths_along dc__paths_along pm__paths_along an__paths_along cd__paths_along ct__paths_along), sl__paths_along⟩) (c__paths_along : PySem.W.codeIn K cd__paths_along "_paths_along" = true) (k__paths_along : PySem.W.keepIn K (.ref f__paths_along) = true)
    {f_parts_of : Addr} (a_parts_of : PySem.W.nsIn K mainGlobals "parts_of" = some (some (.ref f_parts_of)))
    {od_parts_of an_parts_of : Option Addr} {sl_parts_of : Array (Option Value)} {oc_parts_of kV_parts_of dc_parts_of pm_parts_of ct_parts_of : Value} {cd_parts_of : Value} (l_parts_of : K.lookup f_parts_of = some ⟨oc_parts_of, od_parts_of, .func (PySem.W.fnOf "parts_of" "parts_of" (defArgs s_parts_of) (defBody s_parts_of) (defScope s_parts_of) .none kV_parts_of dc_parts_of pm_parts_of an_parts_of cd_parts_of ct_parts_of), sl_parts_of⟩) (c_parts_of : PySem.W.codeIn K cd_parts_of "parts_of" = true) (k_parts_of : PySem.W.keepIn K (.ref f_parts_of) = true)
    {f_start_at : Addr} (a_start_at : PySem.W.nsIn K mainGlobals "start_at" = some (some (.ref f_start_at)))
    {od_start_at an_start_at : Option Addr} {sl_start_at : Array (Option Value)} {oc_start_at kV_start_at dc_start_at pm_start_at ct_start_at : Value} {cd_start_at : Value} (l_start_at : K.lookup f_start_at = some ⟨oc_start_at, od_start_at, .func (PySem.W.fnOf "start_at" "start_at" (defArgs s_start_at) (defBody s_start_at) (defScope s_start_at) .none kV_start_at dc_start_at pm_start_at an_start_at cd_start_at ct_start_at), sl_start_at⟩) (c_start_at : PySem.W.codeIn K cd_start_at "start_at" = true) (k_start_at : PySem.W.keepIn K (.ref f_start_at) = true)
    {f_surface_of : Addr} (a_surface_of : PySem.W.nsIn K mainGlobals "surface_of" = some (some (.ref f_surface_of)))
    {od_surface_of an_surface_of : Option Addr} {sl_surface_of : Array (Option Value)} {oc_surface_of kV_surface_of dc_surface_of pm_surface_of ct_surface_of : Value} {cd_surface_of : Value} (l_surface_of : K.lookup f_surface_of = some ⟨oc_surface_of, od_surface_of, .func (PySem.W.fnOf "surface_of" "surface_of" (defArgs s_surface_of) (defBody s_surface_of) (defScope s_surface_of) .none kV_surface_of dc_surface_of pm_surface_of an_surface_of cd_surface_of ct_surface_of), sl_surface_of⟩) (c_surface_of : PySem.W.codeIn K cd_surface_of "surface_of" = true) (k_surface_of : PySem.W.keepIn K (.ref f_surface_of) = true)
    {f_hand_in : Addr} (a_hand_in : PySem.W.nsIn K mainGlobals "hand_in" = some (some (.ref f_hand_in)))
    {od_hand_in an_hand_in : Option Addr} {sl_hand_in : Array (Option Value)} {oc_hand_in kV_hand_in dc_hand_in pm_hand_in ct_hand_in : Value} {cd_hand_in : Value} (l_hand_in : K.lookup f_hand_in = some ⟨oc_hand_in, od_hand_in, .func (PySem.W.fnOf "hand_in" "hand_in" (defArgs s_hand_in) (defBody s_hand_in) (defScope s_hand_in) .none kV_hand_in dc_hand_in pm_hand_in an_hand_in cd_hand_in ct_hand_in), sl_hand_in⟩) (c_hand_in : PySem.W.codeIn K cd_hand_in "hand_in" = true) (k_hand_in : PySem.W.keepIn K (.ref f_hand_in) = true)
    {f_called_in : Addr} (a_called_in : PySem.W.nsIn K mainGlobals "called_in" = some (some (.ref f_called_in)))
    {od_called_in an_called_in : Option Addr} {sl_called_in : Array (Option Value)} {oc_called_in kV_called_in dc_called_in pm_called_in ct_called_in : Value} {cd_called_in : Value} (l_called_in : K.lookup f_called_in = some ⟨oc_called_in, od_called_in, .func (PySem.W.fnOf "called_in" "called_in" (defArgs s_called_in) (defBody s_called_in) (defScope s_called_in) .none kV_called_in dc_called_in pm_called_in an_called_in cd_called_in ct_called_in), sl_called_in⟩) (c_called_in : PySem.W.codeIn K cd_called_in "called_in" = true) (k_called_in : PySem.W.keepIn K (.ref f_called_in) = true)
    {f_calls_in : Addr} (a_calls_in : PySem.W.nsIn K mainGlobals "calls_in" = some (some (.ref f_calls_in)))
    {od_calls_in an_calls_in : Option Addr} {sl_calls_in : Array (Option Value)} {oc_calls_in kV_calls_in dc_calls_in pm_calls_in ct_calls_in : Value} {cd_calls_in : Value} (l_calls_in : K.lookup f_calls_in = some ⟨oc_calls_in, od_calls_in, .func (PySem.W.fnOf "calls_in" "calls_in" (defArgs s_calls_in) (defBody s_calls_in) (defScope s_calls_in) .none kV_calls_in dc_calls_in pm_calls_in an_calls_in cd_calls_in ct_calls_in), sl_calls_in⟩) (c_calls_in : PySem.W.codeIn K cd_calls_in "calls_in" = true) (k_calls_in : PySem.W.keepIn K (.ref f_calls_in) = true)
    {f_is_hand : Addr} (a_is_hand : PySem.W.nsIn K mainGlobals "is_hand" = some (some (.ref f_is_hand)))
    {od_is_hand an_is_hand : Option Addr} {sl_is_hand : Array (Option Value)} {oc_is_hand kV_is_hand dc_is_hand pm_is_hand ct_is_hand : Value} {cd_is_hand : Value} (l_is_hand : K.lookup f_is_hand = some ⟨oc_is_hand, od_is_hand, .func (PySem.W.fnOf "is_hand" "is_hand" (defArgs s_is_hand) (defBody s_is_hand) (defScope s_is_hand) .none kV_is_hand dc_is_hand pm_is_hand an_is_hand cd_is_hand ct_is_hand), sl_is_hand⟩) (c_is_hand : PySem.W.codeIn K cd_is_hand "is_hand" = true) (k_is_hand : PySem.W.keepIn K (.ref f_is_hand) = true)
    {f_check_promise : Addr} (a_check_promise : PySem.W.nsIn K mainGlobals "check_promise" = some (some (.ref f_check_promise)))
    {od_check_promise an_check_promise : Option Addr} {sl_check_promise : Array (Option Value)} {oc_check_promise kV_check_promise dc_check_promise pm_check_promise ct_check_promise : Value} {cd_check_promise : Value} (l_check_promise : K.lookup f_check_promise = some ⟨oc_check_promise, od_check_promise, .func (PySem.W.fnOf "check_promise" "check_promise" (defArgs s_check_promise) (defBody s_check_promise) (defScope s_check_promise) .none kV_check_promise dc_check_promise pm_check_promise an_check_promise cd_check_promise ct_check_promise), sl_check_promise⟩) (c_check_promise : PySem.W.codeIn K cd_check_promise "check_promise" = true) (k_check_promise : PySem.W.keepIn K (.ref f_check_promise) = true)
    {f_check_hand : Addr} (a_check_hand : PySem.W.nsIn K mainGlobals "check_hand" = some (some (.ref f_check_hand)))
    {od_check_hand an_check_hand : Option Addr} {sl_check_hand : Array (Option Value)} {oc_check_hand kV_check_hand dc_check_hand pm_check_hand ct_check_hand : Value} {cd_check_hand : Value} (l_check_hand : K.lookup f_check_hand = some ⟨oc_check_hand, od_check_hand, .func (PySem.W.fnOf "check_hand" "check_hand" (defArgs s_check_hand) (defBody s_check_hand) (defScope s_check_hand) .none kV_check_hand dc_check_hand pm_check_hand an_check_hand cd_check_hand ct_check_hand), sl_check_hand⟩) (c_check_hand : PySem.W.codeIn K cd_check_hand "check_hand" = true) (k_check_hand : PySem.W.keepIn K (.ref f_check_hand) = true)
    {f__hand_that_can : Addr} (a__hand_that_can : PySem.W.nsIn K mainGlobals "_hand_that_can" = some (some (.ref f__hand_that_can)))
    {od__hand_that_can an__hand_that_can : Option Addr} {sl__hand_that_can : Array (Option Value)} {oc__hand_that_can kV__hand_that_can dc__hand_that_can pm__hand_that_can ct__hand_that_can : Value} {cd__hand_that_can : Value} (l__hand_that_can : K.lookup f__hand_that_can = some ⟨oc__hand_that_can, od__hand_that_can, .func (PySem.W.fnOf "_hand_that_can" "_hand_that_can" (defArgs s__hand_that_can) (defBody s__hand_that_can) (defScope s__hand_that_can) .none kV__hand_that_can dc__hand_that_can pm__hand_that_can an__hand_that_can cd__hand_that_can ct__hand_that_can), sl__hand_that_can⟩) (c__hand_that_can : PySem.W.codeIn K cd__hand_that_can "_hand_that_can" = true) (k__hand_that_can : PySem.W.keepIn K (.ref f__hand_that_can) = true)
    {f_calls : Addr} (a_calls : PySem.W.nsIn K mainGlobals "calls" = some (some (.ref f_calls)))
    {od_calls an_calls : Option Addr} {sl_calls : Array (Option Value)} {oc_calls kV_calls dc_calls pm_calls ct_calls : Value} {cd_calls : Value} (l_calls : K.lookup f_calls = some ⟨oc_calls, od_calls, .func (PySem.W.fnOf "calls" "calls" (defArgs s_calls) (defBody s_calls) (defScope s_calls) .none kV_calls dc_calls pm_calls an_calls cd_calls ct_calls), sl_calls⟩) (c_calls : PySem.W.codeIn K cd_calls "calls" = true) (k_calls : PySem.W.keepIn K (.ref f_calls) = true)
    {f_is_call : Addr} (a_is_call : PySem.W.nsIn K mainGlobals "is_call" = some (some (.ref f_is_call)))
    {od_is_call an_is_call : Option Addr} {sl_is_call : Array (Option Value)} {oc_is_call kV_is_call dc_is_call pm_is_call ct_is_call : Value} {cd_is_call : Value} (l_is_call : K.lookup f_is_call = some ⟨oc_is_call, od_is_call, .func (PySem.W.fnOf "is_call" "is_call" (defArgs s_is_call) (defBody s_is_call) (defScope s_is_call) .none kV_is_call dc_is_call pm_is_call an_is_call cd_is_call ct_is_call), sl_is_call⟩) (c_is_call : PySem.W.codeIn K cd_is_call "is_call" = true) (k_is_call : PySem.W.keepIn K (.ref f_is_call) = true)
    {f_hand_of : Addr} (a_hand_of : PySem.W.nsIn K mainGlobals "hand_of" = some (some (.ref f_hand_of)))
    {od_hand_of an_hand_of : Option Addr} {sl_hand_of : Array (Option Value)} {oc_hand_of kV_hand_of dc_hand_of pm_hand_of ct_hand_of : Value} {cd_hand_of : Value} (l_hand_of : K.lookup f_hand_of = some ⟨oc_hand_of, od_hand_of, .func (PySem.W.fnOf "hand_of" "hand_of" (defArgs s_hand_of) (defBody s_hand_of) (defScope s_hand_of) .none kV_hand_of dc_hand_of pm_hand_of an_hand_of cd_hand_of ct_hand_of), sl_hand_of⟩) (c_hand_of : PySem.W.codeIn K cd_hand_of "hand_of" = true) (k_hand_of : PySem.W.keepIn K (.ref f_hand_of) = true)
    {f_called : Addr} (a_called : PySem.W.nsIn K mainGlobals "called" = some (some (.ref f_called)))
    {od_called an_called : Option Addr} {sl_called : Array (Option Value)} {oc_called kV_called dc_called pm_called ct_called : Value} {cd_called : Value} (l_called : K.lookup f_called = some ⟨oc_called, od_called, .func (PySem.W.fnOf "called" "called" (defArgs s_called) (defBody s_called) (defScope s_called) .none kV_called dc_called pm_called an_called cd_called ct_called), sl_called⟩) (c_called : PySem.W.codeIn K cd_called "called" = true) (k_called : PySem.W.keepIn K (.ref f_called) = true)
    {f_places_in : Addr} (a_places_in : PySem.W.nsIn K mainGlobals "places_in" = some (some (.ref f_places_in)))
    {od_places_in an_places_in : Option Addr} {sl_places_in : Array (Option Value)} {oc_places_in kV_places_in dc_places_in pm_places_in ct_places_in : Value} {cd_places_in : Value} (l_places_in : K.lookup f_places_in = some ⟨oc_places_in, od_places_in, .func (PySem.W.fnOf "places_in" "places_in" (defArgs s_places_in) (defBody s_places_in) (defScope s_places_in) .none kV_places_in dc_places_in pm_places_in an_places_in cd_places_in ct_places_in), sl_places_in⟩) (c_places_in : PySem.W.codeIn K cd_places_in "places_in" = true) (k_places_in : PySem.W.keepIn K (.ref f_places_in) = true)
    {f_surface : Addr} (a_surface : PySem.W.nsIn K mainGlobals "surface" = some (some (.ref f_surface)))
    {od_surface an_surface : Option Addr} {sl_surface : Array (Option Value)} {oc_surface kV_surface dc_surface pm_surface ct_surface : Value} {cd_surface : Value} (l_surface : K.lookup f_surface = some ⟨oc_surface, od_surface, .func (PySem.W.fnOf "surface" "surface" (defArgs s_surface) (defBody s_surface) (defScope s_surface) .none kV_surface dc_surface pm_surface an_surface cd_surface ct_surface), sl_surface⟩) (c_surface : PySem.W.codeIn K cd_surface "surface" = true) (k_surface : PySem.W.keepIn K (.ref f_surface) = true)
    {g_Surface___eq__ : Addr} (a_Surface___eq__ : PySem.W.findIn K (.ref CS) "__eq__" = some (some (.ref g_Surface___eq__))) (i_Surface___eq__ : PySem.W.isFn K (.ref g_Surface___eq__) = true)
    {od_Surface___eq__ an_Surface___eq__ : Option Addr} {sl_Surface___eq__ : Array (Option Value)} {oc_Surface___eq__ kV_Surface___eq__ dc_Surface___eq__ pm_Surface___eq__ ct_Surface___eq__ : Value} {cd_Surface___eq__ : Value} (l_Surface___eq__ : K.lookup g_Surface___eq__ = some ⟨oc_Surface___eq__, od_Surface___eq__, .func (PySem.W.fnOf "__eq__" "Surface.__eq__" (defArgs s_Surface___eq__) (defBody s_Surface___eq__) (defScope s_Surface___eq__) .none kV_Surface___eq__ dc_Surface___eq__ pm_Surface___eq__ an_Surface___eq__ cd_Surface___eq__ ct_Surface___eq__), sl_Surface___eq__⟩) (c_Surface___eq__ : PySem.W.codeIn K cd_Surface___eq__ "Surface.__eq__" = true) (k_Surface___eq__ : PySem.W.keepIn K (.ref g_Surface___eq__) = true)
    {g_Surface_behind : Addr} (a_Surface_behind : PySem.W.findIn K (.ref CS) "behind" = some (some (.ref g_Surface_behind))) (i_Surface_behind : PySem.W.isFn K (.ref g_Surface_behind) = true)
    {od_Surface_behind an_Surface_behind : Option Addr} {sl_Surface_behind : Array (Option Value)} {oc_Surface_behind kV_Surface_behind dc_Surface_behind pm_Surface_behind ct_Surface_behind : Value} {cd_Surface_behind : Value} (l_Surface_behind : K.lookup g_Surface_behind = some ⟨oc_Surface_behind, od_Surface_behind, .func (PySem.W.fnOf "behind" "Surface.behind" (defArgs s_Surface_behind) (defBody s_Surface_behind) (defScope s_Surface_behind) .none kV_Surface_behind dc_Surface_behind pm_Surface_behind an_Surface_behind cd_Surface_behind ct_Surface_behind), sl_Surface_behind⟩) (c_Surface_behind : PySem.W.codeIn K cd_Surface_behind "Surface.behind" = true) (k_Surface_behind : PySem.W.keepIn K (.ref g_Surface_behind) = true)
    {g_Surface_moves : Addr} (a_Surface_moves : PySem.W.findIn K (.ref CS) "moves" = some (some (.ref g_Surface_moves))) (i_Surface_moves : PySem.W.isFn K (.ref g_Surface_moves) = true)
    {od_Surface_moves an_Surface_moves : Option Addr} {sl_Surface_moves : Array (Option Value)} {oc_Surface_moves kV_Surface_moves dc_Surface_moves pm_Surface_moves ct_Surface_moves : Value} {cd_Surface_moves : Value} (l_Surface_moves : K.lookup g_Surface_moves = some ⟨oc_Surface_moves, od_Surface_moves, .func (PySem.W.fnOf "moves" "Surface.moves" (defArgs s_Surface_moves) (defBody s_Surface_moves) (defScope s_Surface_moves) .none kV_Surface_moves dc_Surface_moves pm_Surface_moves an_Surface_moves cd_Surface_moves ct_Surface_moves), sl_Surface_moves⟩) (c_Surface_moves : PySem.W.codeIn K cd_Surface_moves "Surface.moves" = true) (k_Surface_moves : PySem.W.keepIn K (.ref g_Surface_moves) = true)
    {f__law_made : Addr} (a__law_made : PySem.W.nsIn K mainGlobals "_law_made" = some (some (.ref f__law_made)))
    {od__law_made an__law_made : Option Addr} {sl__law_made : Array (Option Value)} {oc__law_made kV__law_made dc__law_made pm__law_made ct__law_made : Value} {cd__law_made : Value} (l__law_made : K.lookup f__law_made = some ⟨oc__law_made, od__law_made, .func (PySem.W.fnOf "_law_made" "_law_made" (defArgs s__law_made) (defBody s__law_made) (defScope s__law_made) .none kV__law_made dc__law_made pm__law_made an__law_made cd__law_made ct__law_made), sl__law_made⟩) (c__law_made : PySem.W.codeIn K cd__law_made "_law_made" = true) (k__law_made : PySem.W.keepIn K (.ref f__law_made) = true)
    {f__law_calls : Addr} (a__law_calls : PySem.W.nsIn K mainGlobals "_law_calls" = some (some (.ref f__law_calls)))
    {od__law_calls an__law_calls : Option Addr} {sl__law_calls : Array (Option Value)} {oc__law_calls kV__law_calls dc__law_calls pm__law_calls ct__law_calls : Value} {cd__law_calls : Value} (l__law_calls : K.lookup f__law_calls = some ⟨oc__law_calls, od__law_calls, .func (PySem.W.fnOf "_law_calls" "_law_calls" (defArgs s__law_calls) (defBody s__law_calls) (defScope s__law_calls) .none kV__law_calls dc__law_calls pm__law_calls an__law_calls cd__law_calls ct__law_calls), sl__law_calls⟩) (c__law_calls : PySem.W.codeIn K cd__law_calls "_law_calls" = true) (k__law_calls : PySem.W.keepIn K (.ref f__law_calls) = true)
    {f__law_got : Addr} (a__law_got : PySem.W.nsIn K mainGlobals "_law_got" = some (some (.ref f__law_got)))
    {od__law_got an__law_got : Option Addr} {sl__law_got : Array (Option Value)} {oc__law_got kV__law_got dc__law_got pm__law_got ct__law_got : Value} {cd__law_got : Value} (l__law_got : K.lookup f__law_got = some ⟨oc__law_got, od__law_got, .func (PySem.W.fnOf "_law_got" "_law_got" (defArgs s__law_got) (defBody s__law_got) (defScope s__law_got) .none kV__law_got dc__law_got pm__law_got an__law_got cd__law_got ct__law_got), sl__law_got⟩) (c__law_got : PySem.W.codeIn K cd__law_got "_law_got" = true) (k__law_got : PySem.W.keepIn K (.ref f__law_got) = true)
    {g_Promise___str__ : Addr} (a_Promise___str__ : PySem.W.findIn K (.ref C) "__str__" = some (some (.ref g_Promise___str__))) (i_Promise___str__ : PySem.W.isFn K (.ref g_Promise___str__) = true)
    {od_Promise___str__ an_Promise___str__ : Option Addr} {sl_Promise___str__ : Array (Option Value)} {oc_Promise___str__ kV_Promise___str__ dc_Promise___str__ pm_Promise___str__ ct_Promise___str__ : Value} {cd_Promise___str__ : Value} (l_Promise___str__ : K.lookup g_Promise___str__ = some ⟨oc_Promise___str__, od_Promise___str__, .func (PySem.W.fnOf "__str__" "Promise.__str__" (defArgs s_Promise___str__) (defBody s_Promise___str__) (defScope s_Promise___str__) .none kV_Promise___str__ dc_Promise___str__ pm_Promise___str__ an_Promise___str__ cd_Promise___str__ ct_Promise___str__), sl_Promise___str__⟩) (c_Promise___str__ : PySem.W.codeIn K cd_Promise___str__ "Promise.__str__" = true) (k_Promise___str__ : PySem.W.keepIn K (.ref g_Promise___str__) = true)
    {f__law_right : Addr} (a__law_right : PySem.W.nsIn K mainGlobals "_law_right" = some (some (.ref f__law_right)))
    {od__law_right an__law_right : Option Addr} {sl__law_right : Array (Option Value)} {oc__law_right kV__law_right dc__law_right pm__law_right ct__law_right : Value} {cd__law_right : Value} (l__law_right : K.lookup f__law_right = some ⟨oc__law_right, od__law_right, .func (PySem.W.fnOf "_law_right" "_law_right" (defArgs s__law_right) (defBody s__law_right) (defScope s__law_right) .none kV__law_right dc__law_right pm__law_right an__law_right cd__law_right ct__law_right), sl__law_right⟩) (c__law_right : PySem.W.codeIn K cd__law_right "_law_right" = true) (k__law_right : PySem.W.keepIn K (.ref f__law_right) = true)
    (rd : PySem.W.readsIn K C (.type "type") = true) (ga : PySem.W.specialIn K (.ref C) "__getattribute__" = some (some (.builtin "type.__getattribute__")))
    {q_Promise_read g_Promise_read : Addr} {r_Promise_read : List Value} (a_Promise_read : PySem.W.findCls K (.ref C) (.type "type") "read" = some (.get (.builtin "classmethod.__get__") (.ref q_Promise_read) .none (.ref C))) (w_Promise_read : PySem.W.recIn K q_Promise_read "classmethod" = some (.ref g_Promise_read :: r_Promise_read)) (n_Promise_read : PySem.W.fnIn K g_Promise_read = true)
    {od_Promise_read an_Promise_read : Option Addr} {sl_Promise_read : Array (Option Value)} {oc_Promise_read kV_Promise_read dc_Promise_read pm_Promise_read ct_Promise_read : Value} {cd_Promise_read : Value} (l_Promise_read : K.lookup g_Promise_read = some ⟨oc_Promise_read, od_Promise_read, .func (PySem.W.fnOf "read" "Promise.read" (defArgs s_Promise_read) (defBody s_Promise_read) (defScope s_Promise_read) .none kV_Promise_read dc_Promise_read pm_Promise_read an_Promise_read cd_Promise_read ct_Promise_read), sl_Promise_read⟩) (c_Promise_read : PySem.W.codeIn K cd_Promise_read "Promise.read" = true) (k_Promise_read : PySem.W.keepIn K (.ref g_Promise_read) = true)
    {f_law : Addr} (a_law : PySem.W.nsIn K mainGlobals "law" = some (some (.ref f_law)))
    {od_law an_law : Option Addr} {sl_law : Array (Option Value)} {oc_law kV_law dc_law pm_law ct_law : Value} {cd_law : Value} (l_law : K.lookup f_law = some ⟨oc_law, od_law, .func (PySem.W.fnOf "law" "law" (defArgs s_law) (defBody s_law) (defScope s_law) .none kV_law dc_law pm_law an_law cd_law ct_law), sl_law⟩) (c_law : PySem.W.codeIn K cd_law "law" = true) (k_law : PySem.W.keepIn K (.ref f_law) = true)
    (z_classmethod : PySem.W.nsIn K mainGlobals "classmethod" = some none)
    (z_property : PySem.W.nsIn K mainGlobals "property" = some none)
    (z_isinstance : PySem.W.nsIn K mainGlobals "isinstance" = some none)
    (z_list : PySem.W.nsIn K mainGlobals "list" = some none)
    (z_tuple : PySem.W.nsIn K mainGlobals "tuple" = some none)
    (z_dict : PySem.W.nsIn K mainGlobals "dict" = some none)
    (z_len : PySem.W.nsIn K mainGlobals "len" = some none)
    (z_reversed : PySem.W.nsIn K mainGlobals "reversed" = some none)
    (z_any : PySem.W.nsIn K mainGlobals "any" = some none)
    (z_all : PySem.W.nsIn K mainGlobals "all" = some none)
    (z_range : PySem.W.nsIn K mainGlobals "range" = some none)
    (z_bool : PySem.W.nsIn K mainGlobals "bool" = some none)
    (z_abs : PySem.W.nsIn K mainGlobals "abs" = some none)
    (z_str : PySem.W.nsIn K mainGlobals "str" = some none)
    (z_max : PySem.W.nsIn K mainGlobals "max" = some none)
    (z_sorted : PySem.W.nsIn K mainGlobals "sorted" = some none)
    (z_iter : PySem.W.nsIn K mainGlobals "iter" = some none)
    (z_int : PySem.W.nsIn K mainGlobals "int" = some none)
    (z_sum : PySem.W.nsIn K mainGlobals "sum" = some none)
    (z_min : PySem.W.nsIn K mainGlobals "min" = some none)
    (z_super : PySem.W.nsIn K mainGlobals "super" = some none)
    (z_repr : PySem.W.nsIn K mainGlobals "repr" = some none)
    : ∃ fd : FuncData, (∀ (s : Shared) (v : Value), BindsTo s fd ⟨[v], []⟩ [("script", v)]) ∧ ∀ base : Heap, K.In base → base.Ns mainGlobals mg → FnG l.prog w K mg base 28 fa fd ["script"] (spLaw11 K) := by
  have e := hfa.symm.trans (PySem.W.mg_of X G a_law)
  obtain rfl : f_law = fa := (Value.ref.inj (Option.some.inj e)).symm
  have T : Txt mg := ⟨PySem.W.mg_none_of X G z_classmethod, PySem.W.mg_none_of X G z_property, PySem.W.mg_none_of X G z_isinstance, PySem.W.mg_none_of X G z_list, PySem.W.mg_none_of X G z_tuple, PySem.W.mg_none_of X G z_dict, PySem.W.mg_none_of X G z_len, PySem.W.mg_none_of X G z_reversed, PySem.W.mg_none_of X G z_any, PySem.W.mg_none_of X G z_all, PySem.W.mg_none_of X G z_range, PySem.W.mg_none_of X G z_bool, PySem.W.mg_none_of X G z_abs, PySem.W.mg_none_of X G z_str, PySem.W.mg_none_of X G z_max, PySem.W.mg_none_of X G z_sorted, PySem.W.mg_none_of X G z_iter, PySem.W.mg_none_of X G z_int, PySem.W.mg_none_of X G z_sum, PySem.W.mg_none_of X G z_min, PySem.W.mg_none_of X G z_super, PySem.W.mg_none_of X G z_repr⟩
  refine ⟨PySem.W.fnOf "law" "law" (defArgs s_law) (defBody s_law) (defScope s_law) .none kV_law dc_law pm_law an_law cd_law ct_law, fun s v => .of_eq rfl, fun base _ _ => ?_⟩
  have n_MAX_LETTERS := PySem.W.mg_of X G i_MAX_LETTERS
  have n_LEAST_PARTS := PySem.W.mg_of X G i_LEAST_PARTS
  have n_MOST_PARTS := PySem.W.mg_of X G i_MOST_PARTS
  have n_MAX_NODES := PySem.W.mg_of X G i_MAX_NODES
  have n_MAX_FACTS := PySem.W.mg_of X G i_MAX_FACTS
  have n_MAX_CHOICES := PySem.W.mg_of X G i_MAX_CHOICES
  have n_MAX_DEPTH := PySem.W.mg_of X G i_MAX_DEPTH
  have R_InvalidPromise : ErrC K mg "InvalidPromise" E_InvalidPromise := ⟨PySem.W.mg_of X G x1_InvalidPromise, x2_InvalidPromise, x3_InvalidPromise, x4_InvalidPromise, x5_InvalidPromise, exmSelf x4_InvalidPromise x6_InvalidPromise x5_InvalidPromise x7_InvalidPromise⟩
  have R_InvalidCall : ErrC K mg "InvalidCall" E_InvalidCall := ⟨PySem.W.mg_of X G x1_InvalidCall, x2_InvalidCall, x3_InvalidCall, x4_InvalidCall, x5_InvalidCall, exmSelf x4_InvalidCall x6_InvalidCall x5_InvalidCall x7_InvalidCall⟩
  have R_InvalidOperation : ErrC K mg "InvalidOperation" E_InvalidOperation := ⟨PySem.W.mg_of X G x1_InvalidOperation, x2_InvalidOperation, x3_InvalidOperation, x4_InvalidOperation, x5_InvalidOperation, exmSelf x4_InvalidOperation x6_InvalidOperation x5_InvalidOperation x7_InvalidOperation⟩
  have F_Promise___init__ := fun_mk (st := s_Promise___init__) l_Promise___init__ c_Promise___init__ k_Promise___init__
  have b_Promise___init__ := F_Promise___init__.binds (ps := ["self", "nodes"]) fun _ _ _ _ _ _ us hl => match us, hl with | [_, _], _ => rfl
  have F_Promise___len__ := fun_mk (st := s_Promise___len__) l_Promise___len__ c_Promise___len__ k_Promise___len__
  have b_Promise___len__ := F_Promise___len__.binds (ps := ["self"]) fun _ _ _ _ _ _ us hl => match us, hl with | [_], _ => rfl
  have PC : PromC K mg C g_Promise___init__ g_Promise___len__ := ⟨PySem.W.mg_of X G gC, ⟨mk, a_Promise___init__, i_Promise___init__, kc⟩, ⟨pg, hd, po, sa⟩, nN, a_Promise___len__, i_Promise___len__⟩
  have IC : IsC K C := ⟨ic1, ic2, ic3, ic4, kit_self⟩
  have OF : OffC K C := ⟨os1, os2, os3, os4, os5, os6, kit_off ic6 ic5 (by kernel_rfl), kit_off ic6 ic5 (by kernel_rfl), kit_off ic6 ic5 (by kernel_rfl), kit_off ic6 ic5 (by kernel_rfl), kit_off ic6 ic5 (by kernel_rfl), kit_off ic6 ic5 (by kernel_rfl)⟩
  have WA : TupAt K mg "OPEN" pW open2 := ⟨PySem.W.mg_of X G yW1, fun H => .inr ⟨_, _, _, yW2, rfl, rfl, (by show 2 ≤ sizeLine; decide), .cons ⟨_, rfl⟩ (.cons ⟨_, rfl⟩ .nil)⟩⟩
  have WH : TupAt K mg "HANDS" pV hands2 := ⟨PySem.W.mg_of X G yV1, fun H => .inr ⟨_, _, _, yV2, rfl, rfl, (by show 2 ≤ sizeLine; decide), .cons ⟨_, rfl⟩ (.cons ⟨_, rfl⟩ .nil)⟩⟩
  have CA : CalledAt K w mg pA := called_mk (PySem.W.mg_of X G yA1) yA2 yA3
  have S : SignsAt K w mg pS := signs_mk (PySem.W.mg_of X G yS1) yS2 yS3 yS4
  have SV : SgnV K w mg pS := sgn_mk (PySem.W.mg_of X G yS1) yS2 yS3
  have SD : SignedAt K w mg pD := signed_mk (PySem.W.mg_of X G yD1) yD2 yD3 yD4
  have F_Surface___init__ := fun_mk (st := s_Surface___init__) l_Surface___init__ c_Surface___init__ k_Surface___init__
  have b_Surface___init__ := F_Surface___init__.binds (ps := ["self", "promise"]) fun _ _ _ _ _ _ us hl => match us, hl with | [_, _], _ => rfl
  have SC : SurC K mg CS g_Surface___init__ := ⟨PySem.W.mg_of X G gS, ⟨mkS, a_Surface___init__, i_Surface___init__, kcS⟩, ⟨pgS, hdS, poS, saS⟩, npS, nqS⟩
  have ICS : IsC K CS := ⟨jc1, ic2, ic3, jc4, kit_self⟩
  have no : PySem.W.kitOne K (.ref C) (.ref CS) = some false := kit_no jc6 jc5 hsub nCS
  have F__law_roll := fun_mk (st := s__law_roll) l__law_roll c__law_roll k__law_roll
  have b__law_roll := F__law_roll.binds (ps := ["dice", "many"]) fun _ _ _ _ _ _ us hl => match us, hl with | [_, _], _ => rfl
  have m__law_roll := PySem.W.mg_of X G a__law_roll
  have G__law_roll : Cal l.prog w K mg base 1 "_law_roll" f__law_roll _ ["dice", "many"] spRoll := ⟨ok_roll F__law_roll T, m__law_roll, k__law_roll, b__law_roll⟩
  have F__law_pick := fun_mk (st := s__law_pick) l__law_pick c__law_pick k__law_pick
  have b__law_pick := F__law_pick.binds (ps := ["dice", "items"]) fun _ _ _ _ _ _ us hl => match us, hl with | [_, _], _ => rfl
  have m__law_pick := PySem.W.mg_of X G a__law_pick
  have G__law_pick : Cal l.prog w K mg base 2 "_law_pick" f__law_pick _ ["dice", "items"] (spPick K) := ⟨ok_pick F__law_pick T G__law_roll, m__law_pick, k__law_pick, b__law_pick⟩
  have F__law_some := fun_mk (st := s__law_some) l__law_some c__law_some k__law_some
  have b__law_some := F__law_some.binds (ps := ["dice", "items", "size"]) fun _ _ _ _ _ _ us hl => match us, hl with | [_, _, _], _ => rfl
  have m__law_some := PySem.W.mg_of X G a__law_some
  have G__law_some : Cal l.prog w K mg base 2 "_law_some" f__law_some _ ["dice", "items", "size"] (spSome K) := ⟨ok_some F__law_some T G__law_roll, m__law_some, k__law_some, b__law_some⟩
  have F__law_dice := fun_mk (st := s__law_dice) l__law_dice c__law_dice k__law_dice
  have b__law_dice := F__law_dice.binds (ps := ["script", "spot"]) fun _ _ _ _ _ _ us hl => match us, hl with | [_, _], _ => rfl
  have m__law_dice := PySem.W.mg_of X G a__law_dice
  have G__law_dice : Cal l.prog w K mg base 1 "_law_dice" f__law_dice _ ["script", "spot"] (spDice K) := ⟨ok_dice F__law_dice T, m__law_dice, k__law_dice, b__law_dice⟩
  have F_is_integer := fun_mk (st := s_is_integer) l_is_integer c_is_integer k_is_integer
  have b_is_integer := F_is_integer.binds (ps := ["value"]) fun _ _ _ _ _ _ us hl => match us, hl with | [_], _ => rfl
  have m_is_integer := PySem.W.mg_of X G a_is_integer
  have G_is_integer : Cal l.prog w K mg base 1 "is_integer" f_is_integer _ ["value"] (spInteger K) := ⟨ok_is_integer F_is_integer T, m_is_integer, k_is_integer, b_is_integer⟩
  have F_is_fact := fun_mk (st := s_is_fact) l_is_fact c_is_fact k_is_fact
  have b_is_fact := F_is_fact.binds (ps := ["value"]) fun _ _ _ _ _ _ us hl => match us, hl with | [_], _ => rfl
  have m_is_fact := PySem.W.mg_of X G a_is_fact
  have G_is_fact : Cal l.prog w K mg base 1 "is_fact" f_is_fact _ ["value"] (spFact K) := ⟨ok_is_fact F_is_fact T ⟨_, n_MAX_LETTERS⟩, m_is_fact, k_is_fact, b_is_fact⟩
  have F_is_node := fun_mk (st := s_is_node) l_is_node c_is_node k_is_node
  have b_is_node := F_is_node.binds (ps := ["value"]) fun _ _ _ _ _ _ us hl => match us, hl with | [_], _ => rfl
  have m_is_node := PySem.W.mg_of X G a_is_node
  have G_is_node : Cal l.prog w K mg base 2 "is_node" f_is_node _ ["value"] (spIsNode K) := ⟨ok_is_node F_is_node T S ⟨_, n_LEAST_PARTS⟩ ⟨_, n_MOST_PARTS⟩ G_is_fact G_is_integer, m_is_node, k_is_node, b_is_node⟩
  have F_depth_of := fun_mk (st := s_depth_of) l_depth_of c_depth_of k_depth_of
  have b_depth_of := F_depth_of.binds (ps := ["nodes"]) fun _ _ _ _ _ _ us hl => match us, hl with | [_], _ => rfl
  have m_depth_of := PySem.W.mg_of X G a_depth_of
  have G_depth_of : Cal l.prog w K mg base 1 "depth_of" f_depth_of _ ["nodes"] (spDepth K) := ⟨ok_depth_of F_depth_of T S, m_depth_of, k_depth_of, b_depth_of⟩
  have G_depth_ofE : Cal l.prog w K mg base 1 "depth_of" f_depth_of _ ["nodes"] (spDepthE K) := ⟨ok_depth_ofE F_depth_of T S, m_depth_of, k_depth_of, b_depth_of⟩
  have F_facts_of := fun_mk (st := s_facts_of) l_facts_of c_facts_of k_facts_of
  have b_facts_of := F_facts_of.binds (ps := ["nodes"]) fun _ _ _ _ _ _ us hl => match us, hl with | [_], _ => rfl
  have m_facts_of := PySem.W.mg_of X G a_facts_of
  have G_facts_of : Cal l.prog w K mg base 1 "facts_of" f_facts_of _ ["nodes"] (spFacts K) := ⟨ok_facts_of F_facts_of T, m_facts_of, k_facts_of, b_facts_of⟩
  have F_choices_of := fun_mk (st := s_choices_of) l_choices_of c_choices_of k_choices_of
  have b_choices_of := F_choices_of.binds (ps := ["nodes"]) fun _ _ _ _ _ _ us hl => match us, hl with | [_], _ => rfl
  have m_choices_of := PySem.W.mg_of X G a_choices_of
  have G_choices_of : Cal l.prog w K mg base 1 "choices_of" f_choices_of _ ["nodes"] (spChoices K) := ⟨ok_choices_of F_choices_of T, m_choices_of, k_choices_of, b_choices_of⟩
  have F__are_nodes := fun_mk (st := s__are_nodes) l__are_nodes c__are_nodes k__are_nodes
  have b__are_nodes := F__are_nodes.binds (ps := ["value"]) fun _ _ _ _ _ _ us hl => match us, hl with | [_], _ => rfl
  have m__are_nodes := PySem.W.mg_of X G a__are_nodes
  have G__are_nodes : Cal l.prog w K mg base 3 "_are_nodes" f__are_nodes _ ["value"] (spAre K) := ⟨ok_are_nodes F__are_nodes T ⟨_, n_MAX_NODES⟩ ⟨_, n_MAX_FACTS⟩ ⟨_, n_MAX_CHOICES⟩ ⟨_, n_MAX_DEPTH⟩ G_is_node G_facts_of G_choices_of G_depth_of, m__are_nodes, k__are_nodes, b__are_nodes⟩
  have G__are_nodesE : Cal l.prog w K mg base 3 "_are_nodes" f__are_nodes _ ["value"] (spAreE K) := ⟨ok_are_nodesE F__are_nodes T ⟨_, n_MAX_NODES⟩ ⟨_, n_MAX_FACTS⟩ ⟨_, n_MAX_CHOICES⟩ ⟨_, n_MAX_DEPTH⟩ G_is_node G_facts_of G_choices_of G_depth_ofE, m__are_nodes, k__are_nodes, b__are_nodes⟩
  have F__law_is_leaf := fun_mk (st := s__law_is_leaf) l__law_is_leaf c__law_is_leaf k__law_is_leaf
  have b__law_is_leaf := F__law_is_leaf.binds (ps := ["plain"]) fun _ _ _ _ _ _ us hl => match us, hl with | [_], _ => rfl
  have m__law_is_leaf := PySem.W.mg_of X G a__law_is_leaf
  have G__law_is_leaf : Cal l.prog w K mg base 1 "_law_is_leaf" f__law_is_leaf _ ["plain"] (spIsLeaf K) := ⟨ok_is_leaf F__law_is_leaf T, m__law_is_leaf, k__law_is_leaf, b__law_is_leaf⟩
  have F__law_leaf := fun_mk (st := s__law_leaf) l__law_leaf c__law_leaf k__law_leaf
  have b__law_leaf := F__law_leaf.binds (ps := ["dice", "words"]) fun _ _ _ _ _ _ us hl => match us, hl with | [_, _], _ => rfl
  have m__law_leaf := PySem.W.mg_of X G a__law_leaf
  have G__law_leaf : Cal l.prog w K mg base 3 "_law_leaf" f__law_leaf _ ["dice", "words"] (spLeaf K) := ⟨ok_leaf F__law_leaf T G__law_roll G__law_pick, m__law_leaf, k__law_leaf, b__law_leaf⟩
  have F__law_nodes := fun_mk (st := s__law_nodes) l__law_nodes c__law_nodes k__law_nodes
  have b__law_nodes := F__law_nodes.binds (ps := ["plain"]) fun _ _ _ _ _ _ us hl => match us, hl with | [_], _ => rfl
  have m__law_nodes := PySem.W.mg_of X G a__law_nodes
  have G__law_nodes : Cal l.prog w K mg base 12 "_law_nodes" f__law_nodes _ ["plain"] (spNodes K 11) := ⟨ok_nodes F__law_nodes T G__law_is_leaf m__law_nodes k__law_nodes b__law_nodes 11, m__law_nodes, k__law_nodes, b__law_nodes⟩
  have F__law_count := fun_mk (st := s__law_count) l__law_count c__law_count k__law_count
  have b__law_count := F__law_count.binds (ps := ["plain", "kinds"]) fun _ _ _ _ _ _ us hl => match us, hl with | [_, _], _ => rfl
  have m__law_count := PySem.W.mg_of X G a__law_count
  have G__law_count : Cal l.prog w K mg base 13 "_law_count" f__law_count _ ["plain", "kinds"] (spCount K 11) := ⟨ok_count F__law_count T G__law_nodes, m__law_count, k__law_count, b__law_count⟩
  have F__law_drawn := fun_mk (st := s__law_drawn) l__law_drawn c__law_drawn k__law_drawn
  have b__law_drawn := F__law_drawn.binds (ps := ["dice", "words", "most", "choices"]) fun _ _ _ _ _ _ us hl => match us, hl with | [_, _, _, _], _ => rfl
  have m__law_drawn := PySem.W.mg_of X G a__law_drawn
  have G__law_drawn : Cal l.prog w K mg base 25 "_law_drawn" f__law_drawn _ ["dice", "words", "most", "choices"] (spDrawn K 11) := ⟨ok_drawn (N := 11) (by decide) F__law_drawn T G__law_roll G__law_pick G__law_leaf G__law_nodes G__law_count m__law_drawn k__law_drawn b__law_drawn 11 (Nat.le_refl _), m__law_drawn, k__law_drawn, b__law_drawn⟩
  have F__law_known := fun_mk (st := s__law_known) l__law_known c__law_known k__law_known
  have b__law_known := F__law_known.binds (ps := ["dice"]) fun _ _ _ _ _ _ us hl => match us, hl with | [_], _ => rfl
  have m__law_known := PySem.W.mg_of X G a__law_known
  have G__law_known : Cal l.prog w K mg base 3 "_law_known" f__law_known _ ["dice"] (spKnown K) := ⟨ok_known F__law_known T G__law_pick, m__law_known, k__law_known, b__law_known⟩
  have F__law_promise := fun_mk (st := s__law_promise) l__law_promise c__law_promise k__law_promise
  have b__law_promise := F__law_promise.binds (ps := ["dice"]) fun _ _ _ _ _ _ us hl => match us, hl with | [_], _ => rfl
  have m__law_promise := PySem.W.mg_of X G a__law_promise
  have G__law_promise : Cal l.prog w K mg base 26 "_law_promise" f__law_promise _ ["dice"] (spPromise K) := ⟨ok_promise (k := 25) (by decide) F__law_promise T G__law_roll G__law_pick G__law_some G__law_known G__law_drawn, m__law_promise, k__law_promise, b__law_promise⟩
  have H_Promise___init__ : FnOk l.prog w K mg base (L2.CX l.prog w) 4 g_Promise___init__ _ ["self", "nodes"] (spInit K C E_InvalidPromise) := ok_init F_Promise___init__ T R_InvalidPromise PC G__are_nodes
  have H_Promise___init__E : FnOk l.prog w K mg base (L2.CX l.prog w) 4 g_Promise___init__ _ ["self", "nodes"] (spInitE K C E_InvalidPromise) := ok_initE F_Promise___init__ T R_InvalidPromise PC G__are_nodesE
  have F_is_index := fun_mk (st := s_is_index) l_is_index c_is_index k_is_index
  have b_is_index := F_is_index.binds (ps := ["value", "many"]) fun _ _ _ _ _ _ us hl => match us, hl with | [_, _], _ => rfl
  have m_is_index := PySem.W.mg_of X G a_is_index
  have G_is_index : Cal l.prog w K mg base 2 "is_index" f_is_index _ ["value", "many"] (spIndex K) := ⟨ok_is_index F_is_index T G_is_integer, m_is_index, k_is_index, b_is_index⟩
  have F_plain_text := fun_mk (st := s_plain_text) l_plain_text c_plain_text k_plain_text
  have b_plain_text := F_plain_text.binds (ps := ["kind", "told"]) fun _ _ _ _ _ _ us hl => match us, hl with | [_, _], _ => rfl
  have m_plain_text := PySem.W.mg_of X G a_plain_text
  have G_plain_text : Cal l.prog w K mg base 1 "plain_text" f_plain_text _ ["kind", "told"] spPlainT := ⟨ok_plain_text F_plain_text T, m_plain_text, k_plain_text, b_plain_text⟩
  have F_bracketed := fun_mk (st := s_bracketed) l_bracketed c_bracketed k_bracketed
  have b_bracketed := F_bracketed.binds (ps := ["kind", "parts"]) fun _ _ _ _ _ _ us hl => match us, hl with | [_, _], _ => rfl
  have m_bracketed := PySem.W.mg_of X G a_bracketed
  have G_bracketed : Cal l.prog w K mg base 1 "bracketed" f_bracketed _ ["kind", "parts"] (spBrack K) := ⟨ok_bracketed F_bracketed T SV, m_bracketed, k_bracketed, b_bracketed⟩
  have F_text_of := fun_mk (st := s_text_of) l_text_of c_text_of k_text_of
  have b_text_of := F_text_of.binds (ps := ["nodes"]) fun _ _ _ _ _ _ us hl => match us, hl with | [_], _ => rfl
  have m_text_of := PySem.W.mg_of X G a_text_of
  have G_text_of : Cal l.prog w K mg base 2 "text_of" f_text_of _ ["nodes"] (spText K) := ⟨ok_text_of F_text_of T S G_bracketed G_plain_text, m_text_of, k_text_of, b_text_of⟩
  have F__split := fun_mk (st := s__split) l__split c__split k__split
  have b__split := F__split.binds (ps := ["text"]) fun _ _ _ _ _ _ us hl => match us, hl with | [_], _ => rfl
  have m__split := PySem.W.mg_of X G a__split
  have H__split : FnT l.prog w K mg base 1 f__split _ ["text"] spSplit := ok_split F__split
  have F__plain_node := fun_mk (st := s__plain_node) l__plain_node c__plain_node k__plain_node
  have b__plain_node := F__plain_node.binds (ps := ["word"]) fun _ _ _ _ _ _ us hl => match us, hl with | [_], _ => rfl
  have m__plain_node := PySem.W.mg_of X G a__plain_node
  have G__plain_node : Cal l.prog w K mg base 1 "_plain_node" f__plain_node _ ["word"] spPlainN := ⟨ok_plain_node F__plain_node, m__plain_node, k__plain_node, b__plain_node⟩
  have F_nodes_in := fun_mk (st := s_nodes_in) l_nodes_in c_nodes_in k_nodes_in
  have b_nodes_in := F_nodes_in.binds (ps := ["text"]) fun _ _ _ _ _ _ us hl => match us, hl with | [_], _ => rfl
  have m_nodes_in := PySem.W.mg_of X G a_nodes_in
  have H_nodes_in : FnT l.prog w K mg base 2 f_nodes_in _ ["text"] (spNodesIn K) := ok_nodes_in F_nodes_in T SD H__split m__split k__split b__split G__plain_node
  have F_end_of := fun_mk (st := s_end_of) l_end_of c_end_of k_end_of
  have b_end_of := F_end_of.binds (ps := ["nodes", "start"]) fun _ _ _ _ _ _ us hl => match us, hl with | [_, _], _ => rfl
  have m_end_of := PySem.W.mg_of X G a_end_of
  have G_end_of : Cal l.prog w K mg base 1 "end_of" f_end_of _ ["nodes", "start"] (spEnd K) := ⟨ok_end_of F_end_of T S, m_end_of, k_end_of, b_end_of⟩
  have F_Promise_nodes := fun_mk (st := s_Promise_nodes) l_Promise_nodes c_Promise_nodes k_Promise_nodes
  have b_Promise_nodes := F_Promise_nodes.binds (ps := ["self"]) fun _ _ _ _ _ _ us hl => match us, hl with | [_], _ => rfl
  have Pp_nodes : PropOf K C "nodes" q_Promise_nodes g_Promise_nodes := ⟨a_Promise_nodes, e_Promise_nodes, t_Promise_nodes, _, w_Promise_nodes⟩
  have V_nodes : PropC l.prog w K mg base C "nodes" 1 (spNodesP K C) q_Promise_nodes g_Promise_nodes _ := ⟨Pp_nodes, ok_nodesP F_Promise_nodes PC, b_Promise_nodes⟩
  have F_Promise___eq__ := fun_mk (st := s_Promise___eq__) l_Promise___eq__ c_Promise___eq__ k_Promise___eq__
  have b_Promise___eq__ := F_Promise___eq__.binds (ps := ["self", "value"]) fun _ _ _ _ _ _ us hl => match us, hl with | [_, _], _ => rfl
  have D___eq__ : DunC l.prog w K mg base C "__eq__" 1 ["self", "value"] (spEqA K C) g_Promise___eq__ _ := ⟨a_Promise___eq__, i_Promise___eq__, ok_eqA F_Promise___eq__ T PC IC OF, b_Promise___eq__⟩
  have H_eqG := eqG_of_A D___eq__.ok
  have H_Promise___len__ : FnOk l.prog w K mg base CX0 1 g_Promise___len__ _ ["self"] (spLen K C) := ok_len F_Promise___len__ T PC
  have F__start_along := fun_mk (st := s__start_along) l__start_along c__start_along k__start_along
  have b__start_along := F__start_along.binds (ps := ["nodes", "path", "kinds"]) fun _ _ _ _ _ _ us hl => match us, hl with | [_, _, _], _ => rfl
  have m__start_along := PySem.W.mg_of X G a__start_along
  have G__start_along : Cal l.prog w K mg base 3 "_start_along" f__start_along _ ["nodes", "path", "kinds"] (spAlong K) := ⟨ok_start_along F__start_along T G_is_index G_end_of, m__start_along, k__start_along, b__start_along⟩
  have F_part_from := fun_mk (st := s_part_from) l_part_from c_part_from k_part_from
  have b_part_from := F_part_from.binds (ps := ["nodes", "start"]) fun _ _ _ _ _ _ us hl => match us, hl with | [_, _], _ => rfl
  have m_part_from := PySem.W.mg_of X G a_part_from
  have G_part_from : Cal l.prog w K mg base 2 "part_from" f_part_from _ ["nodes", "start"] (spPartFrom K) := ⟨ok_part_from F_part_from G_end_of, m_part_from, k_part_from, b_part_from⟩
  have F_exchanged_from := fun_mk (st := s_exchanged_from) l_exchanged_from c_exchanged_from k_exchanged_from
  have b_exchanged_from := F_exchanged_from.binds (ps := ["nodes", "start", "other"]) fun _ _ _ _ _ _ us hl => match us, hl with | [_, _, _], _ => rfl
  have m_exchanged_from := PySem.W.mg_of X G a_exchanged_from
  have G_exchanged_from : Cal l.prog w K mg base 2 "exchanged_from" f_exchanged_from _ ["nodes", "start", "other"] (spExFrom K) := ⟨ok_exchanged_from F_exchanged_from G_end_of, m_exchanged_from, k_exchanged_from, b_exchanged_from⟩
  have F__paths_along := fun_mk (st := s__paths_along) l__paths_along c__paths_along k__paths_along
  have b__paths_along := F__paths_along.binds (ps := ["nodes", "kinds"]) fun _ _ _ _ _ _ us hl => match us, hl with | [_, _], _ => rfl
  have m__paths_along := PySem.W.mg_of X G a__paths_along
  have G__paths_along : Cal l.prog w K mg base 2 "_paths_along" f__paths_along _ ["nodes", "kinds"] (spPathsAlong K) := ⟨ok_paths_along F__paths_along T G_end_of, m__paths_along, k__paths_along, b__paths_along⟩
  have F_parts_of := fun_mk (st := s_parts_of) l_parts_of c_parts_of k_parts_of
  have b_parts_of := F_parts_of.binds (ps := ["nodes"]) fun _ _ _ _ _ _ us hl => match us, hl with | [_], _ => rfl
  have m_parts_of := PySem.W.mg_of X G a_parts_of
  have G_parts_of : Cal l.prog w K mg base 2 "parts_of" f_parts_of _ ["nodes"] (spPartsOf K) := ⟨ok_parts_of F_parts_of T G_end_of, m_parts_of, k_parts_of, b_parts_of⟩
  have F_start_at := fun_mk (st := s_start_at) l_start_at c_start_at k_start_at
  have b_start_at := F_start_at.binds (ps := ["nodes", "place"]) fun _ _ _ _ _ _ us hl => match us, hl with | [_, _], _ => rfl
  have m_start_at := PySem.W.mg_of X G a_start_at
  have G_start_at : Cal l.prog w K mg base 4 "start_at" f_start_at _ ["nodes", "place"] (spStartAt K) := ⟨ok_start_at F_start_at WA G__start_along, m_start_at, k_start_at, b_start_at⟩
  have F_surface_of := fun_mk (st := s_surface_of) l_surface_of c_surface_of k_surface_of
  have b_surface_of := F_surface_of.binds (ps := ["nodes"]) fun _ _ _ _ _ _ us hl => match us, hl with | [_], _ => rfl
  have m_surface_of := PySem.W.mg_of X G a_surface_of
  have G_surface_of : Cal l.prog w K mg base 3 "surface_of" f_surface_of _ ["nodes"] (spSurfOf K) := ⟨ok_surface_of F_surface_of WA G__paths_along, m_surface_of, k_surface_of, b_surface_of⟩
  have F_hand_in := fun_mk (st := s_hand_in) l_hand_in c_hand_in k_hand_in
  have b_hand_in := F_hand_in.binds (ps := ["nodes", "value"]) fun _ _ _ _ _ _ us hl => match us, hl with | [_, _], _ => rfl
  have m_hand_in := PySem.W.mg_of X G a_hand_in
  have G_hand_in : Cal l.prog w K mg base 5 "hand_in" f_hand_in _ ["nodes", "value"] (spHandIn K) := ⟨ok_hand_in F_hand_in T WH CA G_start_at G_is_index, m_hand_in, k_hand_in, b_hand_in⟩
  have F_called_in := fun_mk (st := s_called_in) l_called_in c_called_in k_called_in
  have b_called_in := F_called_in.binds (ps := ["nodes", "call"]) fun _ _ _ _ _ _ us hl => match us, hl with | [_, _], _ => rfl
  have m_called_in := PySem.W.mg_of X G a_called_in
  have G_called_in : Cal l.prog w K mg base 5 "called_in" f_called_in _ ["nodes", "call"] (spCalledIn K) := ⟨ok_called_in F_called_in G_start_at G_parts_of G_part_from G_exchanged_from, m_called_in, k_called_in, b_called_in⟩
  have F_calls_in := fun_mk (st := s_calls_in) l_calls_in c_calls_in k_calls_in
  have b_calls_in := F_calls_in.binds (ps := ["nodes", "hand"]) fun _ _ _ _ _ _ us hl => match us, hl with | [_, _], _ => rfl
  have m_calls_in := PySem.W.mg_of X G a_calls_in
  have G_calls_in : Cal l.prog w K mg base 4 "calls_in" f_calls_in _ ["nodes", "hand"] (spCallsIn K) := ⟨ok_calls_in F_calls_in T CA G_surface_of, m_calls_in, k_calls_in, b_calls_in⟩
  have F_is_hand := fun_mk (st := s_is_hand) l_is_hand c_is_hand k_is_hand
  have b_is_hand := F_is_hand.binds (ps := ["value"]) fun _ _ _ _ _ _ us hl => match us, hl with | [_], _ => rfl
  have m_is_hand := PySem.W.mg_of X G a_is_hand
  have G_is_hand : Cal l.prog w K mg base 1 "is_hand" f_is_hand _ ["value"] spHand := ⟨ok_is_hand F_is_hand T WH, m_is_hand, k_is_hand, b_is_hand⟩
  have F_check_promise := fun_mk (st := s_check_promise) l_check_promise c_check_promise k_check_promise
  have b_check_promise := F_check_promise.binds (ps := ["value"]) fun _ _ _ _ _ _ us hl => match us, hl with | [_], _ => rfl
  have m_check_promise := PySem.W.mg_of X G a_check_promise
  have H_check_promise : FnOk l.prog w K mg base (L2.CX l.prog w) 1 f_check_promise _ ["value"] (spCheckP K C E_InvalidPromise) := ok_check_promise F_check_promise T PC IC R_InvalidPromise
  have F_check_hand := fun_mk (st := s_check_hand) l_check_hand c_check_hand k_check_hand
  have b_check_hand := F_check_hand.binds (ps := ["value"]) fun _ _ _ _ _ _ us hl => match us, hl with | [_], _ => rfl
  have m_check_hand := PySem.W.mg_of X G a_check_hand
  have H_check_hand : FnOk l.prog w K mg base (L2.CX l.prog w) 2 f_check_hand _ ["value"] (spCheckHand E_InvalidOperation) := ok_check_hand F_check_hand R_InvalidOperation G_is_hand
  have F__hand_that_can := fun_mk (st := s__hand_that_can) l__hand_that_can c__hand_that_can k__hand_that_can
  have b__hand_that_can := F__hand_that_can.binds (ps := ["nodes", "call"]) fun _ _ _ _ _ _ us hl => match us, hl with | [_, _], _ => rfl
  have m__hand_that_can := PySem.W.mg_of X G a__hand_that_can
  have H__hand_that_can : FnOk l.prog w K mg base (L2.CX l.prog w) 6 f__hand_that_can _ ["nodes", "call"] (spHandCan K E_InvalidCall) := ok_hand_can F__hand_that_can R_InvalidCall G_hand_in
  have F_calls := fun_mk (st := s_calls) l_calls c_calls k_calls
  have b_calls := F_calls.binds (ps := ["promise", "hand"]) fun _ _ _ _ _ _ us hl => match us, hl with | [_, _], _ => rfl
  have m_calls := PySem.W.mg_of X G a_calls
  have H_calls : FnOk l.prog w K mg base (L2.CX l.prog w) 5 f_calls _ ["promise", "hand"] (spCalls K C) := ok_calls F_calls PC H_check_promise m_check_promise k_check_promise b_check_promise H_check_hand m_check_hand k_check_hand b_check_hand G_calls_in V_nodes
  have F_is_call := fun_mk (st := s_is_call) l_is_call c_is_call k_is_call
  have b_is_call := F_is_call.binds (ps := ["promise", "value"]) fun _ _ _ _ _ _ us hl => match us, hl with | [_, _], _ => rfl
  have m_is_call := PySem.W.mg_of X G a_is_call
  have H_is_call : FnOk l.prog w K mg base (L2.CX l.prog w) 6 f_is_call _ ["promise", "value"] (spIsCall K C) := ok_is_call F_is_call PC H_check_promise m_check_promise k_check_promise b_check_promise G_hand_in V_nodes
  have F_hand_of := fun_mk (st := s_hand_of) l_hand_of c_hand_of k_hand_of
  have b_hand_of := F_hand_of.binds (ps := ["promise", "call"]) fun _ _ _ _ _ _ us hl => match us, hl with | [_, _], _ => rfl
  have m_hand_of := PySem.W.mg_of X G a_hand_of
  have H_hand_of : FnOk l.prog w K mg base (L2.CX l.prog w) 7 f_hand_of _ ["promise", "call"] (spHandOf K C E_InvalidCall) := ok_hand_of F_hand_of PC H_check_promise m_check_promise k_check_promise b_check_promise H__hand_that_can m__hand_that_can k__hand_that_can b__hand_that_can V_nodes
  have F_called := fun_mk (st := s_called) l_called c_called k_called
  have b_called := F_called.binds (ps := ["promise", "call"]) fun _ _ _ _ _ _ us hl => match us, hl with | [_, _], _ => rfl
  have m_called := PySem.W.mg_of X G a_called
  have H_called : FnOk l.prog w K mg base (L2.CX l.prog w) 7 f_called _ ["promise", "call"] (spCalled K C E_InvalidCall) := ok_called F_called PC H_check_promise m_check_promise k_check_promise b_check_promise H__hand_that_can m__hand_that_can k__hand_that_can b__hand_that_can G_called_in V_nodes H_Promise___init__E b_Promise___init__
  have F_places_in := fun_mk (st := s_places_in) l_places_in c_places_in k_places_in
  have b_places_in := F_places_in.binds (ps := ["nodes", "kinds"]) fun _ _ _ _ _ _ us hl => match us, hl with | [_, _], _ => rfl
  have m_places_in := PySem.W.mg_of X G a_places_in
  have G_places_in : Cal l.prog w K mg base 4 "places_in" f_places_in _ ["nodes", "kinds"] (spPlacesIn K) := ⟨ok_places_in F_places_in T G_surface_of, m_places_in, k_places_in, b_places_in⟩
  have F_surface := fun_mk (st := s_surface) l_surface c_surface k_surface
  have b_surface := F_surface.binds (ps := ["promise"]) fun _ _ _ _ _ _ us hl => match us, hl with | [_], _ => rfl
  have m_surface := PySem.W.mg_of X G a_surface
  have H_surface : FnOk l.prog w K mg base (L2.CX l.prog w) 4 f_surface _ ["promise"] (spSurface K C E_InvalidPromise) := ok_surface F_surface T PC H_check_promise m_check_promise k_check_promise b_check_promise G_surface_of V_nodes
  have H_Surface___init__ : FnOk l.prog w K mg base (L2.CX l.prog w) 5 g_Surface___init__ _ ["self", "promise"] (spSInit K C CS) := ok_sInit (fI := g_Promise___init__) (fL := g_Promise___len__) F_Surface___init__ SC H_surface m_surface k_surface b_surface
  have F_Surface___eq__ := fun_mk (st := s_Surface___eq__) l_Surface___eq__ c_Surface___eq__ k_Surface___eq__
  have b_Surface___eq__ := F_Surface___eq__.binds (ps := ["self", "value"]) fun _ _ _ _ _ _ us hl => match us, hl with | [_, _], _ => rfl
  have DS___eq__ : DunC l.prog w K mg base CS "__eq__" 3 ["self", "value"] (spSEq K C CS) g_Surface___eq__ _ := ⟨a_Surface___eq__, i_Surface___eq__, ok_sEq F_Surface___eq__ T SC PC.cl ICS IC no H_eqG D___eq__.s D___eq__.f D___eq__.b, b_Surface___eq__⟩
  have F_Surface_behind := fun_mk (st := s_Surface_behind) l_Surface_behind c_Surface_behind k_Surface_behind
  have b_Surface_behind := F_Surface_behind.binds (ps := ["self", "call"]) fun _ _ _ _ _ _ us hl => match us, hl with | [_, _], _ => rfl
  have H_Surface_behind : FnOk l.prog w K mg base (L2.CX l.prog w) 8 g_Surface_behind _ ["self", "call"] (spBehind K C CS) := ok_behind F_Surface_behind SC H_called m_called k_called b_called H_Surface___init__ b_Surface___init__
  have M_behind : Meth K CS "behind" g_Surface_behind := ⟨a_Surface_behind, i_Surface_behind, k_Surface_behind⟩
  have F_Surface_moves := fun_mk (st := s_Surface_moves) l_Surface_moves c_Surface_moves k_Surface_moves
  have b_Surface_moves := F_Surface_moves.binds (ps := ["self", "hand"]) fun _ _ _ _ _ _ us hl => match us, hl with | [_, _], _ => rfl
  have H_Surface_moves : FnOk l.prog w K mg base (L2.CX l.prog w) 8 g_Surface_moves _ ["self", "hand"] (spMoves l.prog w K C CS) := ok_moves F_Surface_moves SC H_called m_called k_called b_called H_calls m_calls k_calls b_calls
  have M_moves : Meth K CS "moves" g_Surface_moves := ⟨a_Surface_moves, i_Surface_moves, k_Surface_moves⟩
  have F__law_made := fun_mk (st := s__law_made) l__law_made c__law_made k__law_made
  have b__law_made := F__law_made.binds (ps := ["plain"]) fun _ _ _ _ _ _ us hl => match us, hl with | [_], _ => rfl
  have m__law_made := PySem.W.mg_of X G a__law_made
  have H__law_made : FnOk l.prog w K mg base (L2.CX l.prog w) 17 f__law_made _ ["plain"] (spMadeE K C E_InvalidPromise 11) := ok_madeE F__law_made T PC G__law_nodes H_Promise___init__E b_Promise___init__
  have F__law_calls := fun_mk (st := s__law_calls) l__law_calls c__law_calls k__law_calls
  have b__law_calls := F__law_calls.binds (ps := ["plain"]) fun _ _ _ _ _ _ us hl => match us, hl with | [_], _ => rfl
  have m__law_calls := PySem.W.mg_of X G a__law_calls
  have G__law_calls : Cal l.prog w K mg base 12 "_law_calls" f__law_calls _ ["plain"] (spLawCalls l.prog w K 11) := ⟨ok_lcalls F__law_calls T m__law_calls k__law_calls b__law_calls 11, m__law_calls, k__law_calls, b__law_calls⟩
  have F__law_got := fun_mk (st := s__law_got) l__law_got c__law_got k__law_got
  have b__law_got := F__law_got.binds (ps := ["made", "call"]) fun _ _ _ _ _ _ us hl => match us, hl with | [_, _], _ => rfl
  have m__law_got := PySem.W.mg_of X G a__law_got
  have G__law_got : Cal l.prog w K mg base 8 "_law_got" f__law_got _ ["made", "call"] (spGot K C) := ⟨ok_got F__law_got R_InvalidCall H_called m_called k_called b_called, m__law_got, k__law_got, b__law_got⟩
  have F_Promise___str__ := fun_mk (st := s_Promise___str__) l_Promise___str__ c_Promise___str__ k_Promise___str__
  have b_Promise___str__ := F_Promise___str__.binds (ps := ["self"]) fun _ _ _ _ _ _ us hl => match us, hl with | [_], _ => rfl
  have D___str__ : DunC l.prog w K mg base C "__str__" 3 ["self"] (spTextP K C) g_Promise___str__ _ := ⟨a_Promise___str__, i_Promise___str__, ok_strP F_Promise___str__ T PC G_text_of, b_Promise___str__⟩
  have F__law_right := fun_mk (st := s__law_right) l__law_right c__law_right k__law_right
  have b__law_right := F__law_right.binds (ps := ["dice"]) fun _ _ _ _ _ _ us hl => match us, hl with | [_], _ => rfl
  have m__law_right := PySem.W.mg_of X G a__law_right
  have H__law_right : FnG l.prog w K mg base 27 f__law_right _ ["dice"] spRight := ok_right F__law_right T PC SC G__law_promise G__law_nodes G__law_calls H__law_made m__law_made k__law_made b__law_made H_calls m_calls k_calls b_calls H_is_call m_is_call k_is_call b_is_call H_hand_of m_hand_of k_hand_of b_hand_of G__law_got H_Surface___init__ b_Surface___init__ M_moves H_Surface_moves b_Surface_moves M_behind H_Surface_behind b_Surface_behind D___eq__ IC hNe DS___eq__ ICS hNeS V_nodes
  have CR : ClX.CRead K C (.type "type") := ⟨rd, ga⟩
  have F_Promise_read := fun_mk (st := s_Promise_read) l_Promise_read c_Promise_read k_Promise_read
  have b_Promise_read := F_Promise_read.binds (ps := ["cls", "text"]) fun _ _ _ _ _ _ us hl => match us, hl with | [_, _], _ => rfl
  have CM_read : ClX.CMet K C (.type "type") "read" q_Promise_read g_Promise_read := ⟨a_Promise_read, ⟨_, w_Promise_read⟩, n_Promise_read⟩
  have H_Promise_read : FnT l.prog w K mg base 6 g_Promise_read _ ["cls", "text"] (spReadOk K C) := ok_read F_Promise_read T PC H_nodes_in m_nodes_in k_nodes_in b_nodes_in G__are_nodes G_text_of H_Promise___init__ b_Promise___init__
  have F_law := fun_mk (st := s_law) l_law c_law k_law
  have b_law := F_law.binds (ps := ["script"]) fun _ _ _ _ _ _ us hl => match us, hl with | [_], _ => rfl
  have m_law := PySem.W.mg_of X G a_law
  exact ok_law11 F_law T PC G__law_dice H__law_right m__law_right k__law_right b__law_right H_calls m_calls k_calls b_calls H_called m_called k_called b_called H_hand_of m_hand_of k_hand_of b_hand_of D___str__ CR CM_read H_Promise_read b_Promise_read
end Eh
set_option Elab.async false
set_option linter.all false
set_option maxRecDepth 100000
set_option maxHeartbeats 8000000
set_option pp.deepTerms false
set_option pp.maxSteps 30
open PySem PySem.W PyProof.Rows
def PySem.W.Fast.tw622782484286631216 : Nat := 0
def PySem.W.Fast.tw14572103873876996532 : Nat := 0
def PySem.W.Fast.tw636496659508094241 : Nat := 0
set_option maxHeartbeats 0 in
theorem PySem.Challenge.cw_eitherhand_k11_calls_told_holds : PySem.Challenge.rw_eitherhand_k11_calls_told.Holds := by
  w_on; o_law; k_head; (case hw => w_witness2)
  k_fill
  refine Eh.walk_ofG (l := PySem.Challenge.rw_eitherhand_k11_calls_told) (n := 63) (k := 28) (x := "script") (sp := fun w => Eh.spLaw11 _) rfl (by decide) rfl ⟨rfl, by decide, by decide⟩ (fun w h Y => PySem.W.kIn_of Y) ?F (fun _ _ a ns hl hS => ⟨a, ns, rfl, hS, hl, fun _ => rfl⟩)
  case F =>
    intro w mg fa h KX G hmg
    refine' Eh.all_mk KX G hmg  ?i_MAX_LETTERS ?i_LEAST_PARTS ?i_MOST_PARTS ?i_MAX_NODES ?i_MAX_FACTS ?i_MAX_CHOICES ?i_MAX_DEPTH ?x1_InvalidPromise ?x2_InvalidPromise ?x3_InvalidPromise ?x4_InvalidPromise ?x5_InvalidPromise ?x6_InvalidPromise ?x7_InvalidPromise ?x1_InvalidCall ?x2_InvalidCall ?x3_InvalidCall ?x4_InvalidCall ?x5_InvalidCall ?x6_InvalidCall ?x7_InvalidCall ?x1_InvalidOperation ?x2_InvalidOperation ?x3_InvalidOperation ?x4_InvalidOperation ?x5_InvalidOperation ?x6_InvalidOperation ?x7_InvalidOperation ?gC ?pg ?hd ?po ?sa ?mk ?kc ?nN ?a_Promise___init__ ?i_Promise___init__ ?l_Promise___init__ ?c_Promise___init__ ?k_Promise___init__ ?a_Promise___len__ ?i_Promise___len__ ?l_Promise___len__ ?c_Promise___len__ ?k_Promise___len__ ?ic1 ?ic2 ?ic3 ?ic4 ?ic5 ?ic6 ?os1 ?os2 ?os3 ?os4 ?os5 ?os6 ?yS1 ?yS2 ?yS3 ?yS4 ?yD1 ?yD2 ?yD3 ?yD4 ?yW1 ?yW2 ?yV1 ?yV2 ?yA1 ?yA2 ?yA3 ?hNe ?gS ?pgS ?hdS ?poS ?saS ?mkS ?kcS ?npS ?nqS ?a_Surface___init__ ?i_Surface___init__ ?l_Surface___init__ ?c_Surface___init__ ?k_Surface___init__ ?jc1 ?jc4 ?jc5 ?jc6 ?hNeS ?hsub ?nCS ?a__law_roll ?l__law_roll ?c__law_roll ?k__law_roll ?a__law_pick ?l__law_pick ?c__law_pick ?k__law_pick ?a__law_some ?l__law_some ?c__law_some ?k__law_some ?a__law_dice ?l__law_dice ?c__law_dice ?k__law_dice ?a_is_integer ?l_is_integer ?c_is_integer ?k_is_integer ?a_is_fact ?l_is_fact ?c_is_fact ?k_is_fact ?a_is_node ?l_is_node ?c_is_node ?k_is_node ?a_depth_of ?l_depth_of ?c_depth_of ?k_depth_of ?a_facts_of ?l_facts_of ?c_facts_of ?k_facts_of ?a_choices_of ?l_choices_of ?c_choices_of ?k_choices_of ?a__are_nodes ?l__are_nodes ?c__are_nodes ?k__are_nodes ?a__law_is_leaf ?l__law_is_leaf ?c__law_is_leaf ?k__law_is_leaf ?a__law_leaf ?l__law_leaf ?c__law_leaf ?k__law_leaf ?a__law_nodes ?l__law_nodes ?c__law_nodes ?k__law_nodes ?a__law_count ?l__law_count ?c__law_count ?k__law_count ?a__law_drawn ?l__law_drawn ?c__law_drawn ?k__law_drawn ?a__law_known ?l__law_known ?c__law_known ?k__law_known ?a__law_promise ?l__law_promise ?c__law_promise ?k__law_promise ?a_is_index ?l_is_index ?c_is_index ?k_is_index ?a_plain_text ?l_plain_text ?c_plain_text ?k_plain_text ?a_bracketed ?l_bracketed ?c_bracketed ?k_bracketed ?a_text_of ?l_text_of ?c_text_of ?k_text_of ?a__split ?l__split ?c__split ?k__split ?a__plain_node ?l__plain_node ?c__plain_node ?k__plain_node ?a_nodes_in ?l_nodes_in ?c_nodes_in ?k_nodes_in ?a_end_of ?l_end_of ?c_end_of ?k_end_of ?a_Promise_nodes ?e_Promise_nodes ?t_Promise_nodes ?w_Promise_nodes ?l_Promise_nodes ?c_Promise_nodes ?k_Promise_nodes ?a_Promise___eq__ ?i_Promise___eq__ ?l_Promise___eq__ ?c_Promise___eq__ ?k_Promise___eq__ ?a__start_along ?l__start_along ?c__start_along ?k__start_along ?a_part_from ?l_part_from ?c_part_from ?k_part_from ?a_exchanged_from ?l_exchanged_from ?c_exchanged_from ?k_exchanged_from ?a__paths_along ?l__paths_along ?c__paths_along ?k__paths_along ?a_parts_of ?l_parts_of ?c_parts_of ?k_parts_of ?a_start_at ?l_start_at ?c_start_at ?k_start_at ?a_surface_of ?l_surface_of ?c_surface_of ?k_surface_of ?a_hand_in ?l_hand_in ?c_hand_in ?k_hand_in ?a_called_in ?l_called_in ?c_called_in ?k_called_in ?a_calls_in ?l_calls_in ?c_calls_in ?k_calls_in ?a_is_hand ?l_is_hand ?c_is_hand ?k_is_hand ?a_check_promise ?l_check_promise ?c_check_promise ?k_check_promise ?a_check_hand ?l_check_hand ?c_check_hand ?k_check_hand ?a__hand_that_can ?l__hand_that_can ?c__hand_that_can ?k__hand_that_can ?a_calls ?l_calls ?c_calls ?k_calls ?a_is_call ?l_is_call ?c_is_call ?k_is_call ?a_hand_of ?l_hand_of ?c_hand_of ?k_hand_of ?a_called ?l_called ?c_called ?k_called ?a_places_in ?l_places_in ?c_places_in ?k_places_in ?a_surface ?l_surface ?c_surface ?k_surface ?a_Surface___eq__ ?i_Surface___eq__ ?l_Surface___eq__ ?c_Surface___eq__ ?k_Surface___eq__ ?a_Surface_behind ?i_Surface_behind ?l_Surface_behind ?c_Surface_behind ?k_Surface_behind ?a_Surface_moves ?i_Surface_moves ?l_Surface_moves ?c_Surface_moves ?k_Surface_moves ?a__law_made ?l__law_made ?c__law_made ?k__law_made ?a__law_calls ?l__law_calls ?c__law_calls ?k__law_calls ?a__law_got ?l__law_got ?c__law_got ?k__law_got ?a_Promise___str__ ?i_Promise___str__ ?l_Promise___str__ ?c_Promise___str__ ?k_Promise___str__ ?a__law_right ?l__law_right ?c__law_right ?k__law_right ?rd ?ga ?a_Promise_read ?w_Promise_read ?n_Promise_read ?l_Promise_read ?c_Promise_read ?k_Promise_read ?a_law ?l_law ?c_law ?k_law ?z_classmethod ?z_property ?z_isinstance ?z_list ?z_tuple ?z_dict ?z_len ?z_reversed ?z_any ?z_all ?z_range ?z_bool ?z_abs ?z_str ?z_max ?z_sorted ?z_iter ?z_int ?z_sum ?z_min ?z_super ?z_repr
    (case i_MAX_LETTERS => k_is); (case i_LEAST_PARTS => k_is); (case i_MOST_PARTS => k_is); (case i_MAX_NODES => k_is); (case i_MAX_FACTS => k_is); (case i_MAX_CHOICES => k_is); (case i_MAX_DEPTH => k_is); (case x1_InvalidPromise => k_is); (case x2_InvalidPromise => k_exc); (case x3_InvalidPromise => k_is); (case x4_InvalidPromise => k_is); (case x5_InvalidPromise => k_is); (case x6_InvalidPromise => k_is); (case x7_InvalidPromise => k_is); (case x1_InvalidCall => k_is); (case x2_InvalidCall => k_exc); (case x3_InvalidCall => k_is); (case x4_InvalidCall => k_is); (case x5_InvalidCall => k_is); (case x6_InvalidCall => k_is); (case x7_InvalidCall => k_is); (case x1_InvalidOperation => k_is); (case x2_InvalidOperation => k_exc); (case x3_InvalidOperation => k_is); (case x4_InvalidOperation => k_is); (case x5_InvalidOperation => k_is); (case x6_InvalidOperation => k_is); (case x7_InvalidOperation => k_is); (case gC => k_is); (case pg => k_is); (case hd => k_is); (case po => k_is); (case sa => k_is); (case mk => k_is); (case kc => k_is); (case nN => k_is); (case a_Promise___init__ => k_is); (case i_Promise___init__ => k_is); (case l_Promise___init__ => k_is); (case c_Promise___init__ => k_is); (case k_Promise___init__ => k_is); (case a_Promise___len__ => k_is); (case i_Promise___len__ => k_is); (case l_Promise___len__ => k_is); (case c_Promise___len__ => k_is); (case k_Promise___len__ => k_is); (case ic1 => k_is); (case ic2 => k_is); (case ic3 => k_is); (case ic4 => k_is); (case ic5 => k_is); (case ic6 => k_is); (case os1 => k_is); (case os2 => k_is); (case os3 => k_is); (case os4 => k_is); (case os5 => k_is); (case os6 => k_is); (case yS1 => k_is); (case yS2 => k_is); (case yS3 => exact ⟨⟨_, _, rfl, rfl⟩, ⟨_, _, rfl, rfl⟩, ⟨_, _, rfl, rfl⟩, ⟨_, _, rfl, rfl⟩, trivial⟩); (case yS4 => first | rfl | decide | k_is); (case yD1 => k_is); (case yD2 => k_is); (case yD3 => exact ⟨⟨_, _, rfl, rfl⟩, ⟨_, _, rfl, rfl⟩, ⟨_, _, rfl, rfl⟩, ⟨_, _, rfl, rfl⟩, trivial⟩); (case yD4 => first | rfl | decide | k_is); (case yW1 => k_is); (case yW2 => k_is); (case yV1 => k_is); (case yV2 => k_is); (case yA1 => k_is); (case yA2 => k_is); (case yA3 => exact ⟨⟨_, _, rfl, rfl⟩, ⟨_, _, rfl, rfl⟩, trivial⟩); (case hNe => k_is); (case gS => k_is); (case pgS => k_is); (case hdS => k_is); (case poS => k_is); (case saS => k_is); (case mkS => k_is); (case kcS => k_is); (case npS => k_is); (case nqS => k_is); (case a_Surface___init__ => k_is); (case i_Surface___init__ => k_is); (case l_Surface___init__ => k_is); (case c_Surface___init__ => k_is); (case k_Surface___init__ => k_is); (case jc1 => k_is); (case jc4 => k_is); (case jc5 => k_is); (case jc6 => k_is); (case hNeS => k_is); (case hsub => k_is); (case nCS => first | rfl | decide | k_is); (case a__law_roll => k_is); (case l__law_roll => k_is); (case c__law_roll => k_is); (case k__law_roll => k_is); (case a__law_pick => k_is); (case l__law_pick => k_is); (case c__law_pick => k_is); (case k__law_pick => k_is); (case a__law_some => k_is); (case l__law_some => k_is); (case c__law_some => k_is); (case k__law_some => k_is); (case a__law_dice => k_is); (case l__law_dice => k_is); (case c__law_dice => k_is); (case k__law_dice => k_is); (case a_is_integer => k_is); (case l_is_integer => k_is); (case c_is_integer => k_is); (case k_is_integer => k_is); (case a_is_fact => k_is); (case l_is_fact => k_is); (case c_is_fact => k_is); (case k_is_fact => k_is); (case a_is_node => k_is); (case l_is_node => k_is); (case c_is_node => k_is); (case k_is_node => k_is); (case a_depth_of => k_is); (case l_depth_of => k_is); (case c_depth_of => k_is); (case k_depth_of => k_is); (case a_facts_of => k_is); (case l_facts_of => k_is); (case c_facts_of => k_is); (case k_facts_of => k_is); (case a_choices_of => k_is); (case l_choices_of => k_is); (case c_choices_of => k_is); (case k_choices_of => k_is); (case a__are_nodes => k_is); (case l__are_nodes => k_is); (case c__are_nodes => k_is); (case k__are_nodes => k_is); (case a__law_is_leaf => k_is); (case l__law_is_leaf => k_is); (case c__law_is_leaf => k_is); (case k__law_is_leaf => k_is); (case a__law_leaf => k_is); (case l__law_leaf => k_is); (case c__law_leaf => k_is); (case k__law_leaf => k_is); (case a__law_nodes => k_is); (case l__law_nodes => k_is); (case c__law_nodes => k_is); (case k__law_nodes => k_is); (case a__law_count => k_is); (case l__law_count => k_is); (case c__law_count => k_is); (case k__law_count => k_is); (case a__law_drawn => k_is); (case l__law_drawn => k_is); (case c__law_drawn => k_is); (case k__law_drawn => k_is); (case a__law_known => k_is); (case l__law_known => k_is); (case c__law_known => k_is); (case k__law_known => k_is); (case a__law_promise => k_is); (case l__law_promise => k_is); (case c__law_promise => k_is); (case k__law_promise => k_is); (case a_is_index => k_is); (case l_is_index => k_is); (case c_is_index => k_is); (case k_is_index => k_is); (case a_plain_text => k_is); (case l_plain_text => k_is); (case c_plain_text => k_is); (case k_plain_text => k_is); (case a_bracketed => k_is); (case l_bracketed => k_is); (case c_bracketed => k_is); (case k_bracketed => k_is); (case a_text_of => k_is); (case l_text_of => k_is); (case c_text_of => k_is); (case k_text_of => k_is); (case a__split => k_is); (case l__split => k_is); (case c__split => k_is); (case k__split => k_is); (case a__plain_node => k_is); (case l__plain_node => k_is); (case c__plain_node => k_is); (case k__plain_node => k_is); (case a_nodes_in => k_is); (case l_nodes_in => k_is); (case c_nodes_in => k_is); (case k_nodes_in => k_is); (case a_end_of => k_is); (case l_end_of => k_is); (case c_end_of => k_is); (case k_end_of => k_is); (case a_Promise_nodes => k_is); (case e_Promise_nodes => k_is); (case t_Promise_nodes => k_is); (case w_Promise_nodes => k_is); (case l_Promise_nodes => k_is); (case c_Promise_nodes => k_is); (case k_Promise_nodes => k_is); (case a_Promise___eq__ => k_is); (case i_Promise___eq__ => k_is); (case l_Promise___eq__ => k_is); (case c_Promise___eq__ => k_is); (case k_Promise___eq__ => k_is); (case a__start_along => k_is); (case l__start_along => k_is); (case c__start_along => k_is); (case k__start_along => k_is); (case a_part_from => k_is); (case l_part_from => k_is); (case c_part_from => k_is); (case k_part_from => k_is); (case a_exchanged_from => k_is); (case l_exchanged_from => k_is); (case c_exchanged_from => k_is); (case k_exchanged_from => k_is); (case a__paths_along => k_is); (case l__paths_along => k_is); (case c__paths_along => k_is); (case k__paths_along => k_is); (case a_parts_of => k_is); (case l_parts_of => k_is); (case c_parts_of => k_is); (case k_parts_of => k_is); (case a_start_at => k_is); (case l_start_at => k_is); (case c_start_at => k_is); (case k_start_at => k_is); (case a_surface_of => k_is); (case l_surface_of => k_is); (case c_surface_of => k_is); (case k_surface_of => k_is); (case a_hand_in => k_is); (case l_hand_in => k_is); (case c_hand_in => k_is); (case k_hand_in => k_is); (case a_called_in => k_is); (case l_called_in => k_is); (case c_called_in => k_is); (case k_called_in => k_is); (case a_calls_in => k_is); (case l_calls_in => k_is); (case c_calls_in => k_is); (case k_calls_in => k_is); (case a_is_hand => k_is); (case l_is_hand => k_is); (case c_is_hand => k_is); (case k_is_hand => k_is); (case a_check_promise => k_is); (case l_check_promise => k_is); (case c_check_promise => k_is); (case k_check_promise => k_is); (case a_check_hand => k_is); (case l_check_hand => k_is); (case c_check_hand => k_is); (case k_check_hand => k_is); (case a__hand_that_can => k_is); (case l__hand_that_can => k_is); (case c__hand_that_can => k_is); (case k__hand_that_can => k_is); (case a_calls => k_is); (case l_calls => k_is); (case c_calls => k_is); (case k_calls => k_is); (case a_is_call => k_is); (case l_is_call => k_is); (case c_is_call => k_is); (case k_is_call => k_is); (case a_hand_of => k_is); (case l_hand_of => k_is); (case c_hand_of => k_is); (case k_hand_of => k_is); (case a_called => k_is); (case l_called => k_is); (case c_called => k_is); (case k_called => k_is); (case a_places_in => k_is); (case l_places_in => k_is); (case c_places_in => k_is); (case k_places_in => k_is); (case a_surface => k_is); (case l_surface => k_is); (case c_surface => k_is); (case k_surface => k_is); (case a_Surface___eq__ => k_is); (case i_Surface___eq__ => k_is); (case l_Surface___eq__ => k_is); (case c_Surface___eq__ => k_is); (case k_Surface___eq__ => k_is); (case a_Surface_behind => k_is); (case i_Surface_behind => k_is); (case l_Surface_behind => k_is); (case c_Surface_behind => k_is); (case k_Surface_behind => k_is); (case a_Surface_moves => k_is); (case i_Surface_moves => k_is); (case l_Surface_moves => k_is); (case c_Surface_moves => k_is); (case k_Surface_moves => k_is); (case a__law_made => k_is); (case l__law_made => k_is); (case c__law_made => k_is); (case k__law_made => k_is); (case a__law_calls => k_is); (case l__law_calls => k_is); (case c__law_calls => k_is); (case k__law_calls => k_is); (case a__law_got => k_is); (case l__law_got => k_is); (case c__law_got => k_is); (case k__law_got => k_is); (case a_Promise___str__ => k_is); (case i_Promise___str__ => k_is); (case l_Promise___str__ => k_is); (case c_Promise___str__ => k_is); (case k_Promise___str__ => k_is); (case a__law_right => k_is); (case l__law_right => k_is); (case c__law_right => k_is); (case k__law_right => k_is); (case rd => k_is); (case ga => k_is); (case a_Promise_read => k_is); (case w_Promise_read => k_is); (case n_Promise_read => k_is); (case l_Promise_read => k_is); (case c_Promise_read => k_is); (case k_Promise_read => k_is); (case a_law => k_is); (case l_law => k_is); (case c_law => k_is); (case k_law => k_is); (case z_classmethod => k_is); (case z_property => k_is); (case z_isinstance => k_is); (case z_list => k_is); (case z_tuple => k_is); (case z_dict => k_is); (case z_len => k_is); (case z_reversed => k_is); (case z_any => k_is); (case z_all => k_is); (case z_range => k_is); (case z_bool => k_is); (case z_abs => k_is); (case z_str => k_is); (case z_max => k_is); (case z_sorted => k_is); (case z_iter => k_is); (case z_int => k_is); (case z_sum => k_is); (case z_min => k_is); (case z_super => k_is); (case z_repr => k_is)
